import PyProof.Rows.All
import Wide.All
import OpenK.AllK
import Wide.FinOn
import Lean
import PyProof.EqAt
import PyProof.EqKinds
import PyProof.TupleCall
import KE.KIsAll
import PyProof.ExcAttrAll.ValueError
import KE.KDictList
import KE.KDictLaws
import PyProof.Rows.SortShellK
import PySem.SetOps
import PyProof.SetScanFacts
import PyProof.Rows.SetFrom
import PyProof.Rows.SumAny
import PyProof.DictRoadsH
import PyProof.TupleOfGen
import PySem.Challenge.RW_ordernest_k41_whole_groups
open PySem renaming Addr->f',Around->Pz,BindsTo->δ,Builtin->Tf,DictEntry->Rc,Env->QU,Expr->Pr,FuncData->PD,GenState->aaL,Heap->O8,IsPart->VQ,IsRange->ζ,IsRangeIter->abU,ItemsOf->YY,Model->Vg,NameKind->Uc,Obj->G',OsState->RE,Paired->Pl,Params->XS,Pos->Qd,Program->Pk,Within->adQ,call->ad4,mem_of_lookup->Ws,Scope->Sd,SetTable->QS,Shared->J',Stmt->Pc,Str->N',Value->D',World->Pd,bootBuiltins->Sr,cLine->PK,call_meets->Z6,codeAny_builtin->UN,codeAny_call_builtin->ac4,codeAny_mono->XJ,codeAny_of_tree->adA,compareOp->RD,eqIsQuiet_byValue->adj,isSubtype_type->adI,mainGlobals->Qx,model->Pb,noFill_tuple_add->adn,plainId_quiet->aaC,pushCells_keeps->adv,seqIndex_of->abW,seq_tuple_add->adL,sizeLine->Pj,sizeLine_eq->PY,slot_dict_contains->adf,starEach->Qz,strLen_append->adN,sysModules->SW,tupleKind_room_in1->adb,typeIs_int->ab4,wpAny->O7,wpAny_Assign_Subscript->acX,wpAny_Call_Name_kw->aaj,wpAny_FormattedValue_repr->aeZ,wpAny_askSetting->aby,wpAny_assign_Name->abp,wpAny_attempt->adP,wpAny_bind->O4,wpAny_call->ab3,wpAny_callSpecial?_slot->Xz,wpAny_callSpecialIfBoundUnlessNone?_slot->aeH,wpAny_call_entry->Tc,wpAny_comprehension_free->ae1,wpAny_dictEntries->adl,wpAny_dictEpoch->VJ,wpAny_execs_nil->aau,wpAny_field->YT,wpAny_forIn_list->Uv,wpAny_holding->RY,wpAny_isInstance->adp,wpAny_list_append_plain->ae5,wpAny_load->ab2,wpAny_loadPart_at->aap,wpAny_mono->UQ,wpAny_newList->Z1,wpAny_newObj_type->Uu,wpAny_of_eq->abX,wpAny_passesOwn->YI,wpAny_pure->Pa,wpAny_pyHash_int->adm,wpAny_pyIter_list->adg,wpAny_pyIter_tuple->ac9,wpAny_rule->Ss,wpAny_runValue->abH,wpAny_seqItems->aay,wpAny_sequenceKey->abr,wpAny_setEntries_of->ac8,wpAny_setField->aaz,wpAny_setState_of->VF,wpAny_specialOf->WJ,wpAny_standAt->ZZ,wpAny_truthy_bool->Ut,wpAny_typeOf->XM
open PyProof.Rows renaming AllBare->Vd,IntsAre->VO,IsTup->XT,KK_mirror_equal->adw,Keyed->US,NonIncK->UR,KeyKind->abk,callWith_type1->aac,entry_list_sort->acI,envOfC->UK,slot_list_sort->acK,slot_tuple_getitem->ZD,SortKind->Z',SortSt->Sb,SortedToK->RQ,args_list_sort->adF,arrOf->PQ,get?_update_seq->abA,listItems_at->Z2,listUpdate_at->abI,mirror_perm->abY,pairsOf_size->abS,pairsOf_toList->adH,seqObj->Qa,wpS_bind->Q1,wpS_forRange->Z3,wpS_get->ε,wpS_pure->RX,wpS_reverse->abZ
open PySem.Around renaming under->abO,under_plainId->XA
open Array.Perm renaming refl->adx
open Array renaming forIn_toList->aal,getD->TF,getElem?_eq_getElem->U7,getElem?_eq_none->aag,getElem?_eq_some_iff->Wl,getElem?_setIfInBounds_ne->aeK,getElem?_setIfInBounds_self_of_lt->aeI,getElem?_toList->Wq,getElem_setIfInBounds->aeQ,length_toList->Ri,mem_toList_iff->ac3,perm_iff_toList_perm->acM,replicate->adz,toList->adR,toList_filterMap->acZ
open Bool renaming and_eq_true->Tyq,and_eq_true_iff->afo,and_false->adG,eq_false_iff->adh,eq_iff_iff->Wz,false_and->abF,false_eq_true->QY,false_ne_true->Rt,not_true->T',or_eq_true_iff->aft
open PySem.Builtin.List renaming listExtendWith->acJ,listItems->acY,listLengthHint->aeR,listTooLong->acS
open PySem.Builtin.Range renaming rangeFitsLong->aeS,rangeSize->Wn,small->XC
open PySem.Builtin.Slice renaming sliceAdjust->acN,sliceApplied->aeW,slicePlaces->aa9
open PySem.Builtin.SmallTypes renaming nextOf->aba
open PySem.Builtin.Tuple renaming tupleExact->ZE,tupleHashOf->T2,tupleItemsOf->aa7
open PySem.Builtin renaming bitAnd->UO,bitOr->XF
open PySem.Calls renaming Constant_str->afw,Name_function_global->aeU,call_function_entry->acO,evalArgs_plain->afj
open Classical renaming byContradiction->Wm,propDecidable->abf
open PySem.Code renaming isFrame->adS,quiet_builtin->ada
open PySem.F renaming args_tuple_iterator_next_1->aeL,called_tuple->adJ,entry_tuple_iterator_next->aeP,slot_gs_get->adO,slot_tuple_hash->Wx,slot_tuple_iterator_next->aa8,typeOf_object_class->ac1,args_list_index_2->aeY,args_tuple_add_2->acR,entry_list_index->ae2,entry_tuple_add->acT,plainAttrs_list->T4,plain_list_iadd->ae7,plain_set_new->afe,slot_dict_getitem->acP,slot_dict_setdefault->aeM,slot_list_append->VC,slot_list_count->ae6,slot_list_index->aaf,slot_set_iter->aff,slot_tuple_add->acW,type_list_append->VD,type_list_index->acU
open False renaming elim->SF
open ForInStep renaming yield->YK
open PySem.Heap renaming SameBut->Tz,get?_none_of_le->afi,get?_push_of_some->Qe,get?_push_size->QX,get?_update_other->YA,get?_update_self->ZG,lt_size->P5,size_push->YN
open PySem.Heap.SameBut renaming update->XB
open Int renaming emod_lt_of_pos->YD,emod_nonneg->YL,fdiv_eq_ediv_of_nonneg->aeV,mul_one->ad0,natCast_add->abE,natCast_mul->VI,natCast_sub->abC,one_mul->ad1,toNat_natCast->Rb,zero_add->adX
open PyProof.Rows.KeyOrd renaming kle_antisymm->afq,kle_of_klt->abt,kle_refl->ZV,kle_trans->abx
open List renaming Nodup->aaJ,all_cons->Z0,all_eq_true->T9,all_map->aaG,any_cons->WQ,append_assoc->XE,append_nil->SV,contains_iff_mem->afh,drop->R9,drop_eq_getElem_cons->aae,drop_length->adr,drop_of_length_le->afb,drop_zero->ZW,eq_nil_iff_forall_not_mem->Wj,erase_cons_head->ac7,exists_mem_of_ne_nil->T3,filterMap_cons->T7,filterMap_cons_none->abd,filterMap_cons_some->Yz,filter_append->YE,filter_cons->abz,filter_cons_of_neg->Wo,filter_cons_of_pos->UJ,filter_filter->afB,filter_sublist->Wv,find?_append->abu,find?_cons->ZU,find?_cons_of_neg->YC,find?_cons_of_pos->afa,find?_eq_none->aam,find?_some->ady,flatMap_append->afs,flatMap_cons->aar,flatten_cons->ZP,foldl->ab5,foldl_append->VG,foldl_cons->Va,forIn_cons->adu,forIn_nil->adE,getD_eq_getElem?_getD->SC,getElem?_append_left->VB,getElem?_append_right->Xx,getElem?_cons_zero->ae8,getElem?_eq_getElem->Qu,getElem?_eq_none->abj,getElem?_eq_some_iff->QE,getElem?_map->Q6,getElem?_range->abn,getElem?_replicate->abe,getElem?_set_ne->ZH,getElem?_set_self->acV,getElem_cons_drop->ae9,getElem_idxOf->aan,getElem_mem->Wy,idxOf_append->adk,idxOf_cons->adC,idxOf_cons_self->ac6,idxOf_lt_length_of_mem->Yy,isEmpty_eq_false_iff->ae0,length->Ux,length_append->QI,length_cons->Q0,length_drop->YH,length_eq_zero_iff->U9,length_erase_of_mem->U8,length_filter_le->aai,length_map->PP,length_nil->WE,length_pos_iff->Wu,length_pos_of_mem->YB,length_range->aaq,length_replicate->abi,length_set->adt,length_singleton->ac0,length_take->RW,lookup->VM,lookup_cons->T8,map_append->Rm,map_congr_left->Tb,map_cons->Qr,map_id->ad2,map_map->TC,map_nil->aaD,mem_append->QJ,mem_append_left->R8,mem_append_right->RA,mem_cons->PN,mem_cons_of_mem->PU,mem_cons_self->Px,mem_erase_of_ne->afl,mem_filter->So,mem_filterMap->Us,mem_flatMap->RP,mem_iff_getElem->abl,mem_iff_getElem?->aah,mem_map->P6,mem_of_find?_eq_some->abb,mem_of_getElem?->QF,mem_of_mem_take->ac5,mem_range->Sq,mem_singleton->Qw,mem_singleton_self->abg,nil_prefix->abB,nodup_append->VH,nodup_cons->Td,nodup_nil->YO,nodup_range->abw,not_mem_nil->UM,not_of_lt_findIdx->afd,of_mem_zip->ads,pairwise_append->abm,pairwise_cons->Ww,pairwise_iff_getElem->acQ,pairwise_lt_range->abh,pairwise_map->VE,perm_cons_erase->afm,perm_ext_iff_of_nodup->aad,prefix_append->ZO,prefix_rfl->SE,range->QK,range_succ->YM,replicate->Qq,replicate_succ->Wt,replicate_succ'->afk,size_toArray->Qv,sum_cons->XG,take_add_one->YG,take_append_drop->Wr,take_length->SD,take_of_length_le->Wp,take_prefix->adq,take_sublist->abq,take_succ_cons->afr,zip_cons_cons->ZL
open List.Pairwise renaming nil->ZQ
open List.Perm renaming eq_of_pairwise->ae3,refl->aaA,swap->afJ
open List.Sublist renaming refl->aas
open List.cons renaming inj->adM,injEq->abD
open List.range renaming loop->afI
open PySem.NameKind renaming cell->YR,free->Vb
open Nat renaming add_assoc->aaB,add_comm->adT,add_mul->ab0,add_zero->abR,eq_of_testBit_eq->ZJ,eq_zero_or_pos->adc,le_of_eq->abN,le_of_lt->XH,le_of_not_lt->abv,le_refl->Po,le_succ->XN,le_trans->RC,lt_irrefl->VL,lt_of_le_of_lt->XD,lt_of_lt_of_le->QP,lt_or_ge->RZ,lt_succ_of_lt->aao,lt_succ_self->ZS,lt_trans->aaF,lt_trichotomy->ZR,mul_comm->abQ,mul_le_mul->WN,mul_le_mul_right->U',mul_succ->abT,ne_of_gt->XI,ne_of_lt->Qs,not_lt_zero->aav,one_le_two_pow->ade,or_assoc->Te,or_comm->ab1,pow_le_pow_right->ZI,shiftLeft_eq->aat,shiftRight_eq_div_pow->abc,sub_self->Z4,sub_zero->adU,succ_mul->abP,succ_pos->adV,testBit_and->adB,testBit_or->YQ,testBit_shiftLeft->afg,testBit_shiftRight->afc,testBit_two_pow->ZK,testBit_two_pow_sub_one->acL,two_pow_pos->aaw,zero_add->aaE,zero_le->QN,zero_or->Z5,zero_testBit->ZT
open Ne renaming symm->Qi
open PySem.Obj renaming cls_mapFields->adi,data_mapDictKeys->afn,data_mapFields->ZM,isFreed_of_fields->ac2,mapFields->abK,mapSeq->Ro,putSet->YV
open Option renaming getD_none->afE,getD_some->afH,isSome_iff_exists->Xy,isSome_map->afD,isSome_some->afy,map_eq_some_iff->ZF,map_some->aax,toList_some->abo
open Option.some renaming inj->Sn
open Or renaming inl->PB,inr->Ve
open PySem.Paired renaming length->ZX
open PySem.PassesOwn renaming never->RB
open Prod renaming ext->Z9
open PyProof.Rows.F renaming entry_set_update_loop->aeJ,plain_set_update_loop->acG
open PySem.AutoSeq1 renaming wpAny_loadPart'->acH
open PySem.SeqAt renaming EqAt->Uy,list_indexAt->afA,notIn_listAt->afx
open PySem.SeqAt.EqAt renaming int_int->aak,int_str->afu,of_refs->ZN,same->YJ,str_int->afv
open PySem.SeqAt.RcAt renaming lists->afF,lists_lengths->ae4,tuples->YF
open PySem.SeqAt.RcNeAt renaming lists->afz,lists_lengths->aeX,tuples->afp
open PySem.SetTable renaming fill->abL,tooFull->afG
open PySem.Spec renaming bitNot->YU
open PySem.Str renaming ofString->TB
open Sum renaming inl->Ru,inr->WY
open Sum.inl renaming inj->aaH
open True renaming intro->SG
open PySem.Value renaming bool->UP,builtin->YS,float->adZ,int->R0,isInt->adY,isInt_shape->afC,none->Ua,ref->Qg,str->aaK,type->TD
open PySem.W.Fast renaming te10110043849684766642->Ur,te14364793385576792824->Ta,te3399658132070893891->aeN,te5923862056798008813->aeO,te821141287760084731->aeT
open PySem.W renaming Frag->O6,codeIn->aaM,emptyDict->WU,findIn->R',fnOf->VP,funFrames_hide->ado,hasDictIn->abV,hideAll->YW,hideAll_get->ZY,hideAll_none->adD,instObj->XO,isClsIn->SH,keepIn->WX,kia_one->Ub,kitOne->UB,looks_findIn->abG,looks_mroIn->abJ,mg_none_of->Uw,mg_of->SI,mroIn->Rj,nsIn->Q7,of_hideAll->abM,plainGet->aaI,plainGet_of->adK,typeIn->Vc,boot_heap->Z7,items_int->ab6,looks_pair->VN,piece_app->Uz,segRun_of->UA
open PySem.W.Looks renaming ld->ad5
open PySem.pickOrder renaming go->adW
abbrev Pp:=@absurd
abbrev P8:=@decide_eq_false
abbrev P7:=@decide_eq_true
abbrev O9:=@if_neg
abbrev Pf:=@if_pos
abbrev UL:=@of_decide_eq_true
theorem Qb {α:Sort u}{β:Sort v}{p q r:α->β->Prop}{C:Prop}(h:∃a b,p a b/\q a b/\r a b)(k:∀a b,p a b->q a b->r a b->C):C:=
 Exists.elim h λa h=>Exists.elim h λb h=>k a b h.1 h.2.1 h.2.2
set_option compiler.extract_closed false
set_option Elab.async false
set_option linter.all false
set_option genSizeOf false
set_option maxRecDepth 100000
namespace L2
open PySem PySem.Spec PyProof.Rows
abbrev Key:=Sum Int N'
noncomputable def iG:Key->D'->Bool
 | .inl k,v=>adY k v
 | .inr x,v=>D'.isStrOf x v
noncomputable def FE (w:Pd):Key->Int
 | .inl k=>hashInt k
 | .inr x=>hashStr w x
theorem bX:∀{k:Key}{v:D'},iG k v=true->(∃i t,k=Ru i/\v=R0 i t)\/(∃x t,k=WY x/\v=aaK x t)
 | .inl i,v,h=>by
  obtain⟨t,e⟩:=afC (k:=i) (v:=v) h;exact .inl ⟨i,t,rfl,e⟩
 | .inr x,v,h=>by
  obtain⟨t,e⟩:=D'.isStrOf_shape (x:=x) (v:=v) h;exact .inr ⟨x,t,rfl,e⟩
theorem yZ (i:Int)(t):iG (.inl i) (.int i t)=true:=by simp[iG,adY]
theorem y4 (x)(t):iG (.inr x) (.str x t)=true:=by simp[iG,D'.isStrOf]
theorem FF (a b:Int):decide ((Ru a:Key)=Ru b)=(a==b):=by
 by_cases e:a=b
 .subst e;simp
 .have h:¬(Ru a:Key)=Ru b:=λq=>e (aaH q);rw[P8 h];exact(beq_eq_false_iff_ne.mpr e).symm
theorem FG (a b):decide ((WY a:Key)=WY b)=decide (a=b):=by
 by_cases e:a=b
 .subst e;simp
 .have h:¬(WY a:Key)=WY b:=λq=>e (WY.inj q);rw[P8 h,P8 e]
theorem FH (a:Int)(b):decide ((Ru a:Key)=WY b)=false:=P8 (λq=>nomatch q)
theorem FI (a)(b:Int):decide ((WY a:Key)=Ru b)=false:=P8 (λq=>nomatch q)
noncomputable def bu (prog)(w):PySem.KeyKind prog w Key where
 is:=iG
 hash:=FE w
 inj:=λv a b ha hb=>by
  rcases bX ha with⟨i,t,rfl,rfl⟩|⟨x,t,rfl,rfl⟩
  .rcases bX hb with⟨j,u,rfl,e⟩|⟨y,u,rfl,e⟩
   .injection e with e1 _;rw[e1]
   .exact nomatch e
  .rcases bX hb with⟨j,u,rfl,e⟩|⟨y,u,rfl,e⟩
   .exact nomatch e
   .injection e with e1 _;rw[e1]
 byValue:=λk v h=>by
  rcases bX h with⟨i,t,rfl,rfl⟩|⟨x,t,rfl,rfl⟩ <;> rfl
 pyHash:=λhv h=>by
  rcases bX hv with⟨i,t,rfl,rfl⟩|⟨x,t,rfl,rfl⟩
  .exact adm h
  .exact wpAny_pyHash_str h
 eqBool:=λhu hv h=>by
  rcases bX hu with⟨i,t,rfl,rfl⟩|⟨x,t,rfl,rfl⟩
  .rcases bX hv with⟨j,u,rfl,rfl⟩|⟨y,u,rfl,rfl⟩
   .rw[FF] at h;exact wpAny_eqBool_int h
   .rw[FH] at h;exact afu i t y u _ _ _ _ h
  .rcases bX hv with⟨j,u,rfl,rfl⟩|⟨y,u,rfl,rfl⟩
   .rw[FI] at h;exact afv x t j u _ _ _ _ h
   .rw[FG] at h;exact wpAny_eqBool_str h
 «strs»:=λk x t v h=>by
  rcases bX h with⟨i,u,rfl,e⟩|⟨y,u,rfl,e⟩
  .exact nomatch e
  .injection e with e1 _
   subst e1;cases v <;> rfl
theorem xm (prog)(w)(k)(v):(bu prog w).is k v=iG k v:=rfl
theorem vv (prog)(w)(i:Int)(t):(bu prog w).is (.inl i) (.int i t)=true:=yZ i t
theorem vw (prog)(w)(x)(t):(bu prog w).is (.inr x) (.str x t)=true:=y4 x t
inductive V where
 | Qt|bl (b:Bool)|int (i:Int)|str (x:N')|Y7 (b:Array UInt8)|X5 (b:UInt64)|ref (a:f')|ty (n:String)
 deriving DecidableEq
def aG:V->D'->Prop
 | .Qt,u=>u=Ua
 | .bl b,u=>u=UP b
 | .int i,u=>∃t,u=R0 i t
 | .str x,u=>∃t,u=aaK x t
 | .Y7 b,u=>∃t,u=D'.bytes b t
 | .X5 b,u=>∃t,u=adZ b t
 | .ref a,u=>u=Qg a
 | .ty n,u=>u=TD n
abbrev aE:List V->List D'->Prop:=Pl aG
theorem aE.length (r:aE xs us):xs.length=us.length:=ZX r
theorem aE.get:∀{xs:List V}{us:List D'}{i:Nat}{x:V},aE xs us->xs[i]?=some x->∃u,us[i]?=some u/\aG x u
 | _,_,_,_,.nil,e=>by simp at e
 | _,_,0,_,.cons r _,e=>by simp at e;subst e;exact⟨_,rfl,r⟩
 | _,_,i+1,x,.cons _ t,e=>by
  obtain⟨u,c,b⟩:=aE.get (i:=i) (x:=x) t (by simpa using e);exact⟨u,by simpa using c,b⟩
theorem aE.set (r:aG x u):∀{xs:List V}{us:List D'}(i:Nat),aE xs us->aE (xs.set i x) (us.set i u)
 | _,_,_,.nil=>.nil
 | _,_,0,.cons _ t=>.cons r t
 | _,_,i+1,.cons q t=>.cons q (aE.set r i t)
theorem aE.append:∀{xs ys:List V}{us ws:List D'},aE xs us->aE ys ws->aE (xs++ys) (us++ws)
 | _,_,_,_,.nil,s=>s
 | _,_,_,_,.cons r t,s=>.cons r (aE.append t s)
theorem aE.take:∀{xs:List V}{us:List D'}(n:Nat),aE xs us->aE (xs.take n) (us.take n)
 | _,_,0,_=>.nil
 | _,_,_+1,.nil=>.nil
 | _,_,n+1,.cons r t=>.cons r (aE.take n t)
theorem aE.drop:∀{xs:List V}{us:List D'}(n:Nat),aE xs us->aE (xs.drop n) (us.drop n)
 | _,_,0,r=>r
 | _,_,_+1,.nil=>.nil
 | _,_,n+1,.cons _ t=>aE.drop n t
def eR:Option V->Option D'->Prop
 | some v,some u=>aG v u
 | none,none=>True
 | _,_=>False
def KV {κ:Type}:List (κ×V)->List (κ×D')->Prop:=Pl λ(p:κ×V) (q:κ×D')=>p.1=q.1/\aG p.2 q.2
noncomputable def kV:Key->V
 | .inl i=>.int i
 | .inr x=>.str x
inductive HO where
  | lst (xs:List V)
  | tup (xs:List V)
  | dK (kvs:List (Key×V))|dT (kvs:List (List Key×V))
  | set (S:Int->Bool) (n:Nat)
  | ins (C dx:f') (fs:List (N'×V))
  | own (x:f')
  | xd (fs:List (N'×V))
  | met (f x:f')
  | RK (lo hi:Int)
  | Q8 (o:G') (u:HO)
  | Xb (ps:Array D')
  | ext (φ:O8->Prop)
abbrev Hp:=f'->Option HO
noncomputable def upd (H:Hp)(a:f')(o:HO):Hp:=λb=>if b=a then some o else H b
theorem ag:upd H a o a=some o:=by unfold upd;rw[Pf rfl]
theorem aq (h:b≠a):upd H a o b=H b:=by unfold upd;rw[O9 h]
theorem vK:upd (upd H a o) a u=upd H a u:=by
 funext b;unfold upd;split <;> rfl
theorem lG {H:Hp}(h:H a=some o)(h':H b=some u)(d:o≠u):a≠b:=by
 intro e;subst e;rw[h] at h';exact d (Sn h')
theorem au {H:Hp}(h:H a=some o)(h':H b=none):a≠b:=by
 intro e;subst e;rw[h] at h';cases h'
def fJ (h:O8)(a:f')(items:Array D'):Prop:=∃o,h.get? a=some o/\o.cls=.type "tuple"/\∃n,o.data=.seq items n/\o.dict=none
theorem fJ.tup (x:fJ h a items):XT h a items:=let ⟨o,e,c,n,d,_⟩:=x;⟨o,e,c,n,d⟩
theorem fJ.new (h:O8)(items:Array D'):fJ (h.push { cls:=.type "tuple",data:=.seq items }) h.objs.size items:=⟨_,QX _ rfl,rfl,_,rfl,rfl⟩
section
variable (P:Pk) (w:Pd)
def bq (H:Hp)(h:O8)(a:f'):HO->Prop
 | .lst xs=>xs.length<=Pj/\∃(its:List D') (n:Nat),aE xs its/\h.get? a=some { cls:=.type "list",data:=.seq its.toArray n }
 | .tup xs=>xs.length<=Pj/\∃its:List D',aE xs its/\fJ h a its.toArray
 | .dK kvs=>kvs.length<=Pj/\(a==SW)=false/\∃vs,KV kvs vs/\h.DictOf (bu P w) a vs
 | .dT kvs=>kvs.length<=Pj/\(a==SW)=false/\∃xs:List (List Key×f'×D'),
   Pl (λ(p:List Key×V) (q:List Key×f'×D')=>p.1=q.1/\H q.2.1=some (.tup (p.1.map kV))/\aG p.2 q.2.2) kvs xs/\
   ∃o es ep,h.get? a=some o/\o.ExactDict/\o.data=.dict es ep/\es.toList=xs.map (entryOfKey (tupleKind (bu P w)))/\(xs.map (·.1)).Nodup
 | .set S n=>h.SetOf (intKind P w) a S n
 | .ins C dx fs=>H dx=some (.own a)/\fs.length<=1000/\dx≠a/\h.get? a=some (XO C dx)/\
   ∃mA,h.Ns1 dx mA/\(∀f,eR (fs.lookup f) (mA f))/\adQ mA (fs.map (·.1))
 | .own _=>∃o,h.get? a=some o
 | .xd fs=>∃mA,h.Ns1 a mA/\∀f,eR (fs.lookup f) (mA f)
 | .RK lo hi=>∃t u v,h.get? a=some { cls:=.type "range",data:=.fields #[.int lo t,.int hi u,.int 1 v] }
 | .Q8 o u=>h.get? a=some o/\bq H h a u
 | .Xb ps=>h.get? a=some { cls:=.none,data:=.fields ps }
 | .met f x=>h.get? a=some (W.methodObj (.ref f) (.ref x))
 | .ext φ=>φ h/\(∃o,h.get? a=some o)/\∀h1 h2:O8,φ h1->(∀o,h1.get? a=some o->h2.get? a=some o)->φ h2
def Q2 (H:Hp)(h:O8):Prop:=∀a o,H a=some o->bq P w H h a o
end
theorem bq.lt (x:bq P w H h a o):a<h.objs.size:=by
 cases o with
 | lst xs=>obtain⟨_,_,_,_,e⟩:=x;exact P5 e
 | tup xs=>obtain⟨_,_,_,p⟩:=x;exact p.tup.lt
 | dK kvs=>obtain⟨_,_,_,_,o,_,_,e,_⟩:=x;exact P5 e
 | dT kvs=>obtain⟨_,_,_,_,o,_,_,e,_⟩:=x;exact P5 e
 | set S n=>obtain⟨o,_,_,_,e,_⟩:=x;exact P5 e
 | ins C d fs=>obtain⟨_,_,_,e,_⟩:=x;exact P5 e
 | own y=>obtain⟨_,e⟩:=x;exact P5 e
 | xd fs=>obtain⟨_,⟨_,_,_,e,_⟩,_⟩:=x;exact P5 e
 | RK lo b=>obtain⟨_,_,_,e⟩:=x;exact P5 e
 | Q8 ob u=>obtain⟨e,_⟩:=x;exact P5 e
 | Xb ps=>exact P5 (show h.get? a=some _ from x)
 | met f y=>exact P5 (show h.get? a=some _ from x)
 | ext c=>obtain⟨_,⟨_,e⟩,_⟩:=x;exact P5 e
theorem Paired.acp {α β:Type}{F G:α->β->Prop}:∀{RF:List α}{RG:List β},Pl F RF RG->(∀a b,F a b->G a b)->Pl G RF RG
 | _,_,.nil,_=>.nil
 | _,_,.cons r t,f=>.cons (f _ _ r) (Paired.acp t f)
theorem bq.UT (x:bq P w H h a o)(k:∀b u,(b=a\/H b=some (.own a))->h.get? b=some u->h'.get? b=some u)(ho:∀b,H b=some (.own a)->H' b=some (.own a))(ht:∀b xs,H b=some (.tup xs)->H' b=some (.tup xs)):bq P w H' h' a o:=by
 induction o with
 | lst xs=>obtain⟨z,its,n,r,e⟩:=x;exact⟨z,its,n,r,k _ _ (.inl rfl) e⟩
 | tup xs=>obtain⟨z,its,r,ob,e,c⟩:=x;exact⟨z,its,r,ob,k _ _ (.inl rfl) e,c⟩
 | dK kvs=>obtain⟨z,y,vs,r,ob,es,ep,e,c⟩:=x;exact⟨z,y,vs,r,ob,es,ep,k _ _ (.inl rfl) e,c⟩
 | dT kvs=>
  obtain⟨z,y,xs,r,ob,es,ep,e,c⟩:=x;exact⟨z,y,xs,Paired.acp r λp q z=>⟨z.1,ht _ _ z.2.1,z.2.2⟩,ob,es,ep,k _ _ (.inl rfl) e,c⟩
 | set S n=>obtain⟨ob,es,ep,t,e,c⟩:=x;exact⟨ob,es,ep,t,k _ _ (.inl rfl) e,c⟩
 | ins C A fs=>
  obtain⟨d,z,ne,e,g,⟨od,es,ep,j,c⟩,r⟩:=x;exact⟨ho _ d,z,ne,k _ _ (.inl rfl) e,g,⟨od,es,ep,k _ _ (.inr d) j,c⟩,r⟩
 | own y=>obtain⟨ob,e⟩:=x;exact⟨ob,k _ _ (.inl rfl) e⟩
 | xd fs=>obtain⟨g,⟨od,es,ep,e,c⟩,r⟩:=x;exact⟨g,⟨od,es,ep,k _ _ (.inl rfl) e,c⟩,r⟩
 | RK lo m=>obtain⟨t,u,v,e⟩:=x;exact⟨t,u,v,k _ _ (.inl rfl) e⟩
 | Q8 ob u l=>obtain⟨e,q⟩:=x;exact⟨k _ _ (.inl rfl) e,l q⟩
 | Xb ps=>
  have e:h.get? a=some { cls:=.none,data:=.fields ps }:=x;show h'.get? a=some { cls:=.none,data:=.fields ps };exact k a _ (.inl rfl) e
 | met f y=>
  have e:h.get? a=some (W.methodObj (.ref f) (.ref y)):=x;show h'.get? a=some (W.methodObj (.ref f) (.ref y));exact k a _ (.inl rfl) e
 | ext s=>obtain⟨p,⟨o,e⟩,st⟩:=x;exact⟨st _ _ p λo q=>k _ _ (.inl rfl) q,⟨o,k _ _ (.inl rfl) e⟩,st⟩
theorem Q2.lt (x:Q2 P w H h)(e:H a=some o):a<h.objs.size:=(x a o e).lt
theorem Q2.fresh {a:f'}(x:Q2 P w H h)(e:h.objs.size<=a):H a=none:=by
 cases q:H a with
 | none=>rfl
 | some u=>exact Pp (QP (x.lt q) e) (VL _)
theorem Q2.kept (x:Q2 P w H h)(k:∀b u,h.get? b=some u->h'.get? b=some u):Q2 P w H h':=λa o e=>
 (x a o e).UT (λb u _ q=>k b u q) (λ_ q=>q) λ_ _ q=>q
theorem Q2.laid {a:f'}(x:Q2 P w H h)(k:∀b u,h.get? b=some u->h'.get? b=some u)(hp:h.objs.size<=a)(new:bq P w (upd H a o) h' a o):Q2 P w (upd H a o) h':=λb u e=>by
 have f:=x.fresh hp
 by_cases d:b=a
 .subst d;rw[ag] at e;cases e;exact new
 .rw[aq d] at e;exact(x b u e).UT (λc v _ q=>k c v q) (λc q=>by rw[aq (au q f)];exact q) λc xs q=>by rw[aq (au q f)];exact q
def Rd (H:Hp)(a:f')(u:HO):Prop:=H a=some u\/∃o,H a=some (.Q8 o u)
theorem Rd.ok (r:Rd H a u)(x:Q2 P w H h):bq P w H h a u:=by
 rcases r with r|⟨o,r⟩
 .exact x a u r
 .obtain⟨_,q⟩:=x a _ r;exact q
def Mut:Option HO->Prop
 | some (.lst _)=>True
 | some (.dK _)=>True
 | some (.dT _)=>True
 | some (.set _ _)=>True
 | some (.ins _ _ _)=>True
 | some (.ext _)=>True
 | _=>False
theorem Q2.write (ok:Q2 P w H h)(mu:Mut (H x))(he:e=x\/H e=some (.own x))(k:∀b u,b≠e->h.get? b=some u->h'.get? b=some u)(Y8:∃u,h'.get? e=some u)(new:bq P w (upd H x o') h' x o'):Q2 P w (upd H x o') h':=λb u q=>by
 have d:∀c y,H c=some (.own y)->c≠x:=λc y r z=>by subst z;rw[r] at mu;exact mu
 have j:∀c xs,H c=some (.tup xs)->c≠x:=λc xs r z=>by subst z;rw[r] at mu;exact mu
 by_cases f:b=x
 .subst f;rw[ag] at q;cases q;exact new
 .rw[aq f] at q
  by_cases g:b=e
  .have l:H b=some (.own x):=by
    rcases he with z|z
    .exact Pp (g.trans z) f
    .rw[g];exact z
   rw[q] at l;cases l;obtain⟨v,m⟩:=Y8;exact⟨v,by rw[g];exact m⟩
  .refine(ok b u q).UT (λc v hc r=>k c v ?_ r) (λc r=>by rw[aq (d c b r)];exact r) λc xs r=>by rw[aq (j c xs r)];exact r
   rcases hc with rfl|hc
   .exact g
   .rintro rfl;rcases he with z|z
    .exact d c b hc z
    .rw[hc] at z;cases z;exact f rfl
structure Un (fs ex:List f')(H H':Hp)(h h':O8):Prop where
 keep:∀b o,h.get? b=some o->H b=none->b∉fs->b∉ex->h'.get? b=some o
 slot:∀b o,h.get? b=some o->H b=none->b∈fs->b∉ex->∃sl,h'.get? b=some { o with slots:=sl }
 free:∀b o,h.get? b=some o->H b=none->b∉ex->H' b=none
 there:∀b o,h.get? b=some o->b∉ex->∃o',h'.get? b=some o'
 RR:∀b xs,H b=some (.tup xs)->H' b=some (.tup xs)
 TH:∀b o u,H b=some (.Q8 o u)->H' b=some (.Q8 o u)
 Ud:∀b ps,H b=some (.Xb ps)->∃more,H' b=some (.Xb (ps++more))
theorem Un.any (u:Un fs ex H H1 h h1)(q:h.get? b=some ob)(n:H b=none)(hx:b∉ex):∃sl,h1.get? b=some { ob with slots:=sl }:=by
 by_cases c:b∈fs
 .exact u.slot b ob q n c hx
 .exact⟨ob.slots,u.keep b ob q n c hx⟩
theorem Un.kept (k:∀b u,h.get? b=some u->h'.get? b=some u):Un fs ex H H h h':=
 ⟨λb ob q _ _ _=>k b ob q,λb ob q _ _ _=>⟨ob.slots,k b ob q⟩,λ_ _ _ n _=>n,λb ob q _=>⟨ob,k b ob q⟩,λ_ _ q=>q,λ_ _ _ q=>q,λ_ ps q=>⟨#[],by rw[q];simp⟩⟩
theorem Un.refl:Un fs ex H H h h:=Un.kept λ_ _ q=>q
theorem Un.laid (k:∀b u,h.get? b=some u->h'.get? b=some u)(hp:h.objs.size<=a)(hn:H a=none):Un fs ex H (upd H a o) h h' where
 keep:=λb u q _ _ _=>k b u q
 slot:=λb u q _ _ _=>⟨u.slots,k b u q⟩
 free:=λb u q n _=>by rw[aq (Qs (QP (P5 q) hp))];exact n
 there:=λb u q _=>⟨u,k b u q⟩
 RR:=λb xs q=>by rw[aq (au q hn)];exact q
 TH:=λb u xs q=>by rw[aq (au q hn)];exact q
 Ud:=λb ps q=>⟨#[],by rw[aq (au q hn),q];simp⟩
theorem Un.write (mu:Mut (H x))(he:e=x\/H e=some (.own x))(k:∀b u,b≠e->h.get? b=some u->h'.get? b=some u)(Y8:∃u,h'.get? e=some u):Un fs ex H (upd H x o) h h':=by
 have g:∀b,H b=none->b≠x:=λb n z=>by subst z;rw[n] at mu;exact mu
 have d:∀b,H b=none->b≠e:=λb n z=>by
  subst z;rcases he with r|r
  .exact g b n r
  .rw[n] at r;cases r
 have c:∀b u,H b=some u->¬Mut (some u)->b≠x:=λb u q nm z=>by subst z;rw[q] at mu;exact nm mu
 refine⟨λb u q n _ _=>k b u (d b n) q,λb u q n _ _=>⟨u.slots,k b u (d b n) q⟩,λb u q n _=>by rw[aq (g b n)];exact n,λb u q _=>?_,
  λb xs q=>by rw[aq (c b _ q λz=>z)];exact q,λb u xs q=>by rw[aq (c b _ q λz=>z)];exact q,λb ps q=>⟨#[],by rw[aq (c b _ q λz=>z),q];simp⟩⟩
 by_cases f:b=e
 .subst f;exact Y8
 .exact⟨u,k b u f q⟩
noncomputable def trk (h:O8)(H:Hp):List f':=(QK h.objs.size).filter λa=>(H a).isSome
noncomputable def jC (h:O8)(H:Hp):O8:=YW h (trk h H)
theorem y7 (h)(H):(jC h H).objs.size=h.objs.size:=W.hideAll_size _ _
theorem Bs (e:h.get? b=some o)(n:H b=none):(jC h H).get? b=some o:=
 ZY _ e λc=>by
  have q:(H b).isSome=true:=(So.mp c).2;rw[n] at q;simp at q
theorem DZ (e:(jC h H).get? b=some o):h.get? b=some o/\H b=none:=by
 have c:h.get? b=some o:=abM (trk h H) e;refine⟨c,?_⟩;cases q:H b with
 | none=>rfl
 | some x=>
  have d:b∈trk h H:=So.mpr ⟨Sq.mpr (P5 c),by simp[q]⟩;have z:(jC h H).get? b=none:=adD (trk h H) d;rw[z] at e;cases e
structure Mod (K:O6)(mg:N'->Option D')(base:O8):Prop where
 kin:K.In base
 glob:base.Ns Qx mg
 blt:∃mb,base.Ns builtinsNs mb/\∀x:N',x≠"__name__"->mb x=Sr x
 nolimit:base.NoLimit
structure Cx where
 prog:Pk
 w:Pd
 K:O6
 mg:N'->Option D'
 base:O8
 A:Pz
 N:List N'
 QH:J'
 Y1:Hp
 env:QU
 outer:List QU
 stack:List QU
 ex:List f'
 fn:N'->Bool
 calm:Bool
 pn:List (f'×G')
 xe:D'->J'->Prop
noncomputable def QL (l:List QU):List f':=l.filterMap (·.frame)
noncomputable abbrev Cx.fs (X:Cx):List f':=QL X.outer
def Y9 (sc:Sd)(x:N'):Prop:=sc.names.lookup x=some .local \/sc.names.lookup x=some .cell\/sc.names.lookup x=some .free
def Loc (sc:Sd)(x:N'):Prop:=sc.names.lookup x=some .local \/sc.names.lookup x=some .cell
def FJ (env:QU)(h:O8)(m:N'->Option D')(x:N')(u:D'):Prop:=
 (env.kindOf x=some .local /\m x=some u)\/((env.kindOf x=some .cell\/env.kindOf x=some .free)/\∃c,env.cells.lookup x=some c/\h.IsCell c (some u))
structure Cx.Ok (X:Cx):Prop where
 mod:Mod X.K X.mg X.base
 kind:X.env.scope.kind=.function
 glob:X.env.globals=Qx
 blt:X.env.builtins=builtinsNs
 above:X.QH.heap.objs.size<=X.env.locals
 inj:∀x y c,X.env.cells.lookup x=some c->X.env.cells.lookup y=some c->x=y
 has:∀x,(X.env.kindOf x=some .cell\/X.env.kindOf x=some .free)->∃c,X.env.cells.lookup x=some c
 X7:∀x c,X.fn x=true->X.env.cells.lookup x=some c->X.QH.heap.objs.size<=c
 hd:X.calm=true->X.A.handled=none
 frames:X.A.frames=some X.stack
 Y':X.stack=X.outer\/(X.stack=X.env::X.outer/\X.env.frame=some X.env.locals)
 exf:∀b∈X.ex,b≠X.env.locals/\∀x c,X.env.cells.lookup x=some c->c≠b
 bs:∀b o,X.base.get? b=some o->X.QH.heap.get? b=some o/\X.Y1 b=none
 Vk:X.base.objs.size<=X.QH.heap.objs.size
 TJ:∀b o,X.base.get? b=some o->b∉X.ex
 Y2:∀b∈X.ex,b∉X.fs
 TK:X.QH.heap.FunFrames X.base X.outer
 VX:∀b∈X.fs,X.Y1 b=none
structure Inv (X:Cx)(aa:List (f'×G'))(σ:List (Option V))(H:Hp)(s:J'):Prop where
 ok:X.Ok
 os:s.os=X.QH.os
 bare:Vd s.gens
 base:Un X.fs X.ex X.Y1 H X.QH.heap s.heap
 loc:∃m,s.heap.Ns X.env.locals m/\∀(i:Nat) (x:N') (v:V),X.N[i]?=some x->σ[i]?=some (some v)->Y9 X.env.scope x->∃u,aG v u/\FJ X.env s.heap m x u
 cell:∀x c,X.env.cells.lookup x=some c->∃v,s.heap.IsCell c v
 free:H X.env.locals=none
 Tg:∀x c,X.env.cells.lookup x=some c->H c=none
 pin:∀p∈X.pn++aa,s.heap.get? p.1=some p.2/\H p.1=none/\p.1≠X.env.locals/\p.1∉X.fs/\∀v,p.2.data≠.cell v
 Pn:Q2 X.prog X.w H s.heap
 len:σ.length=X.N.length
theorem Cx.Ok.af6 {X:Cx}(ok:X.Ok)(e:X.base.get? b=some o):b∉X.fs:=λc=>by
 have:=(ok.TK.mem c).1;rw[e] at this;cases this
theorem Inv.bs (I:Inv X aa σ H s):∀b o,X.base.get? b=some o->s.heap.get? b=some o/\H b=none:=λb o e=>
 ⟨I.base.keep b o (I.ok.bs b o e).1 (I.ok.bs b o e).2 (I.ok.af6 e) (I.ok.TJ b o e),I.base.free b o (I.ok.bs b o e).1 (I.ok.bs b o e).2 (I.ok.TJ b o e)⟩
theorem Inv.bk (I:Inv X aa σ H s):∀b o,X.base.get? b=some o->s.heap.get? b=some o:=λb o e=>(I.bs b o e).1
theorem Inv.mod (I:Inv X aa σ H s):Mod X.K X.mg X.base:=I.ok.mod
theorem Inv.Q9 (I:Inv X aa σ H s):X.K.In s.heap:=I.ok.mod.kin.keeps I.bk
theorem Inv.lt (I:Inv X aa σ H s):X.env.locals<s.heap.objs.size:=let ⟨_,hn,_⟩:=I.loc;hn.lt
theorem Inv.sz (I:Inv X aa σ H s):X.QH.heap.objs.size<=s.heap.objs.size:=RC I.ok.above (XH I.lt)
theorem Inv.ael (I:Inv X aa σ H s){a:f'}(h:s.heap.objs.size<=a):a∉X.fs:=λb=>by
 obtain⟨_,o,c,_⟩:=I.ok.TK.mem b;exact Pp (QP (P5 c) (RC I.sz h)) (VL _)
theorem Inv.VY (I:Inv X aa σ H s):∀x c,X.env.cells.lookup x=some c->c≠X.env.locals:=λx c e z=>by
 obtain⟨v,o,b,hd⟩:=I.cell x c e;obtain⟨m,⟨g,es,ep,f,d,_⟩,_⟩:=I.loc;rw[z,f] at b;cases b;rw[d] at hd;cases hd
theorem Inv.TK (I:Inv X aa σ H s):s.heap.FunFrames X.base X.outer:=by
 have all:∀(l:List QU),(∀b∈QL l,b∈X.fs)->X.QH.heap.FunFrames X.base l->s.heap.FunFrames X.base l:=by
  intro l
  induction l with
  | nil=>intro _ _;trivial
  | cons env r ih=>
   intro g h;obtain⟨p,⟨L,o,d,n,j,hd⟩,m⟩:=h;have c:L∈X.fs:=g L (by unfold QL;rw[T7,d];exact Px);obtain⟨t,e⟩:=I.base.slot L o j (I.ok.VX L c) c λz=>I.ok.Y2 L z c;exact⟨p,⟨L,_,d,n,e,hd⟩,ih (λb f=>g b (by unfold QL;rw[T7,d];exact PU _ f)) m⟩
 exact all X.outer (λ_ f=>f) I.ok.TK
theorem Inv.stack (I:Inv X aa σ H s):s.heap.FunFrames X.base X.stack:=by
 rcases I.ok.Y' with e|⟨e,b⟩
 .rw[e];exact I.TK
 .rw[e];obtain⟨m,c,_⟩:=I.loc;refine .cons (by rw[I.ok.kind];decide) b c ?_ I.TK;exact afi (RC I.ok.Vk I.ok.above)
theorem Inv.Vf (I:Inv X aa σ H s):∀b∈QL X.stack,b∈X.env.locals::X.fs:=λb c=>by
 rcases I.ok.Y' with e|⟨e,d⟩
 .rw[e] at c;exact PU _ c
 .rw[e] at c;unfold QL at c;rw[T7,d] at c;exact c
theorem Inv.aaO (I:Inv X aa σ H s):∀b∈QL X.stack,H b=none:=λb hb=>by
 rcases PN.mp (I.Vf b hb) with e|hb
 .rw[e];exact I.free
 .obtain⟨_,o,c,_⟩:=I.ok.TK.mem hb;exact I.base.free b o c (I.ok.VX b hb) λz=>I.ok.Y2 b z hb
variable {X:Cx}{aa:List (f'×G')}{σ:List (Option V)}{H:Hp}{H':Hp}{s:J'}{h':O8} in
theorem Inv.step {g':Array aaL}{t':Nat}{d':Drawn}{ch:List f'}(I:Inv X aa σ H s)(RU:∀b∈ch,(b∈X.ex\/X.QH.heap.objs.size<=b)/\b≠X.env.locals/\(∀x c,X.env.cells.lookup x=some c->c≠b)/\∀p∈X.pn++aa,p.1≠b)(keep:∀b o,b≠X.env.locals->b∉X.fs->b∉ch->s.heap.get? b=some o->H b=none->h'.get? b=some o)(slot:∀b o,b≠X.env.locals->b∈X.fs->b∉ch->s.heap.get? b=some o->H b=none->∃sl,h'.get? b=some { o with slots:=sl })(free:∀b o,b∉ch->s.heap.get? b=some o->H b=none->H' b=none)(there:∀b o,b∉ch->s.heap.get? b=some o->∃o',h'.get? b=some o')(RR:∀b xs,H b=some (.tup xs)->H' b=some (.tup xs))(TH:∀b o u,H b=some (.Q8 o u)->H' b=some (.Q8 o u))(Ud:∀b ps,H b=some (.Xb ps)->∃more,H' b=some (.Xb (ps++more)))(ns:∀m,s.heap.Ns X.env.locals m->h'.Ns X.env.locals m)(Pn:Q2 X.prog X.w H' h')(hg:Vd g'):
  Inv X aa σ H' { s with heap:=h',gens:=g',drawn:=d',toks:=t' }:=by
 have F:∀b o,X.QH.heap.get? b=some o->b≠X.env.locals:=λb o e=>Qs (QP (P5 e) I.ok.above);have A:∀b o,X.QH.heap.get? b=some o->b∉X.ex->b∉ch:=λb o e f h=>by
  rcases(RU b h).1 with z|z
  .exact f z
  .exact Pp (QP (P5 e) z) (VL _)
 have cellK:∀x c,X.env.cells.lookup x=some c->∀v,s.heap.IsCell c v->h'.IsCell c v:=λx c e v ⟨o,j,hd⟩=>by
  have y:c∉ch:=λz=>(RU c z).2.2.1 x c e rfl
  by_cases C:c∈X.fs
  .obtain⟨sl,q⟩:=slot c o (I.VY x c e) C y j (I.Tg x c e);exact⟨_,q,hd⟩
  .exact⟨o,keep c o (I.VY x c e) C y j (I.Tg x c e),hd⟩
 refine⟨I.ok,I.os,hg,⟨λb o e n h f=>?_,λb o e n h f=>?_,λb o e n f=>?_,λb o e f=>?_,λb xs e=>RR b xs (I.base.RR b xs e),λb o xs e=>TH b o xs (I.base.TH b o xs e),λb ps e=>?_⟩,?_,λx c e=>?_,?_,λx c e=>?_,λp E=>?_,Pn,I.len⟩
 .exact keep b o (F b o e) h (A b o e f) (I.base.keep b o e n h f) (I.base.free b o e n f)
 .obtain⟨sl,g⟩:=I.base.slot b o e n h f;obtain⟨L,t⟩:=slot b _ (F b o e) h (A b o e f) g (I.base.free b o e n f);exact⟨L,t⟩
 .obtain⟨o',g⟩:=I.base.there b o e f;exact free b o' (A b o e f) g (I.base.free b o e n f)
 .obtain⟨o',g⟩:=I.base.there b o e f;exact there b o' (A b o e f) g
 .obtain⟨O,g⟩:=I.base.Ud b ps e;obtain⟨N,t⟩:=Ud b _ g;exact⟨O++N,by rw[t,Array.append_assoc]⟩
 .obtain⟨m,M,G⟩:=I.loc;refine⟨m,ns m M,λi x v g t J=>?_⟩;obtain⟨u,r,l⟩:=G i x v g t J;refine⟨u,r,?_⟩;rcases l with l|⟨k,c,e,z⟩
  .exact .inl l
  .exact .inr ⟨k,c,e,cellK x c e _ z⟩
 .obtain⟨v,z⟩:=I.cell x c e;exact⟨v,cellK x c e v z⟩
 .obtain⟨m,⟨o,_,_,j,_⟩,_⟩:=I.loc;exact free _ o (λz=>(RU _ z).2.1 rfl) j I.free
 .obtain⟨v,o,j,hd⟩:=I.cell x c e;exact free c o (λz=>(RU c z).2.2.1 x c e rfl) j (I.Tg x c e)
 .obtain⟨e,n,ne,D,d⟩:=I.pin p E;have y:p.1∉ch:=λz=>(RU p.1 z).2.2.2 p E rfl;exact⟨keep p.1 p.2 ne D y e n,free p.1 p.2 y e n,ne,D,d⟩
theorem Inv.un {t':Nat}(I:Inv X aa σ H s)(u:Un X.fs [] H H' s.heap h')(Pn:Q2 X.prog X.w H' h'):Inv X aa σ H' { s with heap:=h',toks:=t' }:=by
 obtain⟨m,⟨o,es,ep,g,r⟩,_⟩:=id I.loc;obtain⟨v,j⟩:=u.any g I.free (by simp);exact I.step (g':=s.gens) (d':=s.drawn) (ch:=[]) (λ_ z=>nomatch z) (λb o _ d _ e n=>u.keep b o e n d (by simp)) (λb o _ d _ e n=>u.slot b o e n d (by simp)) (λb o _ e n=>u.free b o e n (by simp)) (λb o _ e=>u.there b o e (by simp)) u.RR u.TH u.Ud (λx h=>by
  obtain⟨t,p,c,f,l⟩:=h;rw[g] at f;cases f;exact⟨_,p,c,j,l⟩) Pn I.bare
theorem Inv.call {t':Nat}{d':Drawn}(I:Inv X aa σ H s)(u:Un (QL X.stack) ch H H' s.heap h')(Pn:Q2 X.prog X.w H' h')(hg:Vd g')(RU:∀b∈ch,(b∈X.ex\/X.QH.heap.objs.size<=b)/\b≠X.env.locals/\(∀x c,X.env.cells.lookup x=some c->c≠b)/\∀p∈X.pn++aa,p.1≠b):
  Inv X aa σ H' { s with heap:=h',gens:=g',drawn:=d',toks:=t' }:=by
 obtain⟨m,⟨o,es,ep,j,r⟩,_⟩:=id I.loc;obtain⟨C,f⟩:=u.any j I.free λz=>(RU _ z).2.1 rfl;exact I.step (ch:=ch) RU (λb o f v d e n=>u.keep b o e n (λz=>(PN.mp (I.Vf b z)).elim f v) d) (λb o _ _ d e n=>u.any e n d) (λb o d e n=>u.free b o e n d) (λb o d e=>u.there b o e d) u.RR u.TH u.Ud (λD l=>by
  obtain⟨A,y,g,h,t⟩:=l;rw[j] at h;cases h;exact⟨_,y,g,f,t⟩) Pn hg
theorem Inv.turned {t':Nat}(I:Inv X aa σ H s)(k:∀b o,b≠it->s.heap.get? b=some o->h'.get? b=some o)(hn:H it=none)(hL:it≠X.env.locals)(h1:it∈X.ex\/X.QH.heap.objs.size<=it)(h2:∀x c,X.env.cells.lookup x=some c->c≠it)(h3:∀p∈X.pn++aa,p.1≠it):Inv X aa σ H { s with heap:=h',toks:=t' }:=by
 have f:∀b u,H b=some u->b≠it:=λb u e z=>by rw[z,hn] at e;cases e
 refine I.step (g':=s.gens) (d':=s.drawn) (ch:=[it]) (λb j=>?_) (λb o _ _ d e _=>k b o (λz=>d (by simp[z])) e) (λb o _ _ d e _=>⟨o.slots,k b o (λz=>d (by simp[z])) e⟩) (λ_ _ _ _ n=>n)
  (λb o d e=>⟨o,k b o (λz=>d (by simp[z])) e⟩) (λ_ _ e=>e) (λ_ _ _ e=>e) (λb ps e=>⟨#[],by rw[e];simp⟩) (λm g=>?_) (λb u e=>?_) I.bare
 .have e:b=it:=by simpa using j
  subst e;exact⟨h1,hL,h2,h3⟩
 .obtain⟨o,es,ep,h,r⟩:=g;exact⟨o,es,ep,k _ o (Qi hL) h,r⟩
 .refine(I.Pn b u e).UT (λc v d q=>k c v ?_ q) (λ_ q=>q) λ_ _ q=>q;rcases d with z|z
  .rw[z];exact f b u e
  .exact f c _ z
theorem Inv.tok (I:Inv X aa σ H s)(t:Nat):Inv X aa σ H { s with toks:=t }:=I.un (h':=s.heap) (t':=t) Un.refl I.Pn
theorem Inv.kept {t':Nat}(I:Inv X aa σ H s)(k:∀b u,s.heap.get? b=some u->h'.get? b=some u):Inv X aa σ H { s with heap:=h',toks:=t' }:=I.un (Un.kept k) (I.Pn.kept k)
theorem Inv.laid {a:f'}{t':Nat}(I:Inv X aa σ H s)(k:∀b u,s.heap.get? b=some u->h'.get? b=some u)(hp:s.heap.objs.size<=a)(new:bq X.prog X.w (upd H a o) h' a o):
  Inv X aa σ (upd H a o) { s with heap:=h',toks:=t' }:=I.un (Un.laid k hp (I.Pn.fresh hp)) (I.Pn.laid k hp new)
theorem Inv.write {t':Nat}(I:Inv X aa σ H s)(mu:Mut (H x))(he:e=x\/H e=some (.own x))(k:∀b u,b≠e->s.heap.get? b=some u->h'.get? b=some u)(Y8:∃u,h'.get? e=some u)(new:bq X.prog X.w (upd H x o) h' x o):Inv X aa σ (upd H x o) { s with heap:=h',toks:=t' }:=I.un (Un.write mu he k Y8) (I.Pn.write mu he k Y8 new)
theorem Inv.YZ (I:Inv X aa σ H s)(h:∀p∈VU,s.heap.get? p.1=some p.2/\H p.1=none/\p.1≠X.env.locals/\p.1∉X.fs/\∀v,p.2.data≠.cell v):Inv X VU σ H s:=
 ⟨I.ok,I.os,I.bare,I.base,I.loc,I.cell,I.free,I.Tg,λp b=>(QJ.mp b).elim (λz=>I.pin p (R8 _ z)) (h p),I.Pn,I.len⟩
theorem mP {N:List N'}(hN:N.Nodup){i j:Nat}{x:N'}(a:N[i]?=some x)(b:N[j]?=some x):i=j:=by
 obtain⟨f,c⟩:=QE.mp a;obtain⟨e,d⟩:=QE.mp b;exact(List.getElem_inj hN).mp (c.trans d.symm)
theorem qB (I:Inv X aa σ H s)(hN:X.N.Nodup)(hi:X.N[i]?=some x)(hx:Loc X.env.scope x)(r:aG v u)(h:∀s',Inv X aa (σ.set i (some v)) H s'->(∃a,Tz a s.heap s'.heap/\(a=X.env.locals\/X.env.cells.lookup x=some a))->Q () s')(hf:X.fn x=true\/X.env.scope.names.lookup x=some .local :=by first|exact .inl rfl|exact .inr rfl|assumption):O7 M A (storeName X.env x u) Q E s:=by
 obtain⟨m,hn,hl⟩:=id I.loc;have af7:(X.env.scope.kind==.class ||(X.env.scope.kind==.module&&X.env.locals != X.env.globals))=false:=by rw[I.ok.kind];rfl
 have O:i<σ.length:=by rw[I.len];exact(QE.mp hi).1
 have VY:=I.VY;have tracked:∀{a:f'}{h':O8},(∃o,s.heap.get? a=some o/\H a=none)->Tz a s.heap h'->Q2 X.prog X.w H h':=λ{a h'} ha f b ob e=>by
  obtain⟨_,_,L⟩:=ha;refine(I.Pn b ob e).UT (λc R hc q=>(f.2 c ?_).trans q) (λ_ q=>q) λ_ _ q=>q;rintro rfl;rcases hc with rfl|hc
  .rw[L] at e;cases e
  .rw[L] at hc;cases hc
 rcases hx with hk|hk
 .refine wpAny_storeName_local hk hn (λh' hn' f=>?_) af7;obtain⟨oL,_,_,hoL,_⟩:=id hn;refine h _ ⟨I.ok,I.os,I.bare,⟨λb o e n C hx=>?_,λb o e n C hx=>?_,I.base.free,λb o e hx=>?_,I.base.RR,I.base.TH,I.base.Ud⟩,⟨_,hn',λj y v' g l W=>?_⟩,λy c e=>?_,I.free,I.Tg,λp hp=>?_,tracked ⟨oL,hoL,I.free⟩ f,by simpa using I.len⟩ ⟨_,f,.inl rfl⟩
  .exact(f.2 b (Qs (QP (P5 e) I.ok.above))).trans (I.base.keep b o e n C hx)
  .obtain⟨T,g⟩:=I.base.slot b o e n C hx;exact⟨T,(f.2 b (Qs (QP (P5 e) I.ok.above))).trans g⟩
  .obtain⟨S,g⟩:=I.base.there b o e hx;exact⟨S,(f.2 b (Qs (QP (P5 e) I.ok.above))).trans g⟩
  .by_cases D:j=i
   .subst D;rw[hi] at g;cases g;rw[acV O] at l;cases l;exact⟨u,r,.inl ⟨hk,by simp⟩⟩
   .rw[ZH (Qi D)] at l;obtain⟨U,Y,q⟩:=hl j y v' g l W;refine⟨U,Y,?_⟩;rcases q with⟨k,e⟩|⟨k,c,e,z⟩
    .refine .inl ⟨k,?_⟩;have:y≠x:=λe=>D (mP hN g (e▸hi));simp[this,e]
    .exact .inr ⟨k,c,e,z.sameBut f (VY y c e)⟩
  .obtain⟨R,z⟩:=I.cell y c e;exact⟨R,z.sameBut f (VY y c e)⟩
  .obtain⟨e,n,ne,nf,d⟩:=I.pin p hp;exact⟨(f.2 p.1 ne).trans e,n,ne,nf,d⟩
 .have t:X.fn x=true:=by
   rcases hf with z|z
   .exact z
   .rw[z] at hk;cases hk
  obtain⟨c,hc⟩:=I.ok.has x (.inl hk);obtain⟨R,z⟩:=I.cell x c hc;refine wpAny_storeName_cell I.ok.kind hk hc z (λh' J f=>?_);obtain⟨oc,G,Z⟩:=id z;refine h { s with heap:=h' } ⟨I.ok,I.os,I.bare,⟨λb o e n C hx=>?_,λb o e n C hx=>?_,I.base.free,λb o e hx=>?_,I.base.RR,I.base.TH,I.base.Ud⟩,⟨m,hn.sameBut f (Qi (VY x c hc)),λj y v' g l W=>?_⟩,λy P e=>?_,I.free,I.Tg,λp hp=>?_,tracked ⟨oc,G,I.Tg x c hc⟩ f,by simpa using I.len⟩ ⟨c,f,.inr hc⟩
  .exact(f.2 b (Qs (QP (P5 e) (I.ok.X7 x c t hc)))).trans (I.base.keep b o e n C hx)
  .obtain⟨T,g⟩:=I.base.slot b o e n C hx;exact⟨T,(f.2 b (Qs (QP (P5 e) (I.ok.X7 x c t hc)))).trans g⟩
  .obtain⟨S,g⟩:=I.base.there b o e hx;exact⟨S,(f.2 b (Qs (QP (P5 e) (I.ok.X7 x c t hc)))).trans g⟩
  .by_cases D:j=i
   .subst D;rw[hi] at g;cases g;rw[acV O] at l;cases l;exact⟨u,r,.inr ⟨.inl hk,c,hc,J⟩⟩
   .rw[ZH (Qi D)] at l;obtain⟨U,Y,q⟩:=hl j y v' g l W;refine⟨U,Y,?_⟩;rcases q with q|⟨k,P,e,z'⟩
    .exact .inl q
    .refine .inr ⟨k,P,e,z'.sameBut f ?_⟩;rintro rfl;exact D (mP hN g (I.ok.inj _ _ _ e hc▸hi))
  .by_cases F:P=c
   .subst F;exact⟨_,J⟩
   .obtain⟨w2,z2⟩:=I.cell y P e;exact⟨w2,z2.sameBut f F⟩
  .obtain⟨e,n,ne,nf,d⟩:=I.pin p hp;refine⟨(f.2 p.1 ?_).trans e,n,ne,nf,d⟩;intro q;rw[q,G] at e;have q':oc=p.2:=Sn e;exact d R (by rw[<-q'];exact Z)
theorem fQ (I:Inv X aa σ H s)(hN:X.N.Nodup)(hi:X.N[i]?=some x)(hx:Loc X.env.scope x)(r:aG v u)(h:∀s',Inv X aa (σ.set i (some v)) H s'->Q () s')(hf:X.fn x=true\/X.env.scope.names.lookup x=some .local :=by first|exact .inl rfl|exact .inr rfl|assumption):O7 M A (storeName X.env x u) Q E s:=
 qB I hN hi hx r (λs' b _=>h s' b) hf
theorem Inv.acg (I:Inv X aa σ H s)(ho:s'.os=s.os)(u:Un (QL X.stack) ch H H' s.heap s'.heap)(Pn:Q2 X.prog X.w H' s'.heap)(hg:Vd s'.gens)(RU:∀b∈ch,(b∈X.ex\/X.QH.heap.objs.size<=b)/\b≠X.env.locals/\(∀x c,X.env.cells.lookup x=some c->c≠b)/\∀p∈X.pn++aa,p.1≠b):Inv X aa σ H' s':=by
 obtain⟨h',g',d',t',d⟩:=s';have e:d=s.os:=ho;subst e;exact I.call (g':=g') (t':=t') (d':=d') u Pn hg RU
abbrev XK:=D'->Option f'->Hp->Prop
abbrev St:=List (Option V)
abbrev VK:=V->Hp->Prop
abbrev TE:=St->Hp->VK->Prop
abbrev TT:=St->Hp->(Bool->Hp->Prop)->Prop
abbrev TA:=St->Hp->(List V->Hp->Prop)->Prop
structure Ends where
 nx:St->Hp->Prop
 rt:VK
 bk:St->Hp->Prop:=λ_ _=>False
 ct:St->Hp->Prop:=λ_ _=>False
abbrev TS:=Ends->St->Hp->Prop
def EP (X:Cx)(aa:List (f'×G'))(σ:St)(Q:VK)(u:D')(s':J'):Prop:=∃v H',Inv X aa σ H' s'/\aG v u/\Q v H'
def TP (X:Cx)(aa:List (f'×G'))(σ:St)(Q:Bool->Hp->Prop)(b:Bool)(s':J'):Prop:=∃H',Inv X aa σ H' s'/\Q b H'
def AP (X:Cx)(aa:List (f'×G'))(σ:St)(Q:List V->Hp->Prop)(us:List D')(s':J'):Prop:=∃vs H',Inv X aa σ H' s'/\aE vs us/\Q vs H'
def SP (X:Cx)(aa:List (f'×G'))(D:Ends)(f:Flow)(s':J'):Prop:=
 match f with
 | .next=>∃Pu H',Inv X aa Pu H' s'/\D.nx Pu H'
 | .brk=>∃Pu H',Inv X aa Pu H' s'/\D.bk Pu H'
 | .cont=>∃Pu H',Inv X aa Pu H' s'/\D.ct Pu H'
 | .ret u=>∃v Pu H',Inv X aa Pu H' s'/\aG v u/\D.rt v H'
def PE (X:Cx)(e:Pr)(t:TE):Prop:=
 ∀(aa:List (f'×G')) (s:J') (σ:St) (H:Hp) (Q:VK),Inv X aa σ H s->t σ H Q->O7 (Pb X.prog X.w) X.A (eval e X.env) (EP X aa σ Q) X.xe s
def PT (X:Cx)(e:Pr)(t:TT):Prop:=
 ∀(aa:List (f'×G')) (s:J') (σ:St) (H:Hp) (Q:Bool->Hp->Prop),Inv X aa σ H s->t σ H Q->O7 (Pb X.prog X.w) X.A (isTrue e X.env (eval e X.env)) (TP X aa σ Q) X.xe s
def PW (X:Cx)(e:Pr)(t:TT):Prop:=
 ∀(whole:Sem D') (aa:List (f'×G')) (s:J') (σ:St) (H:Hp) (Q:Bool->Hp->Prop),Inv X aa σ H s->t σ H Q->O7 (Pb X.prog X.w) X.A (isTrue e X.env whole) (TP X aa σ Q) X.xe s
theorem PW.pt (h:PW X e t):PT X e t:=h _
def PA (X:Cx)(es:List Pr)(t:TA):Prop:=
 ∀(pos:Qd) (aa:List (f'×G')) (s:J') (σ:St) (H:Hp) (Q:List V->Hp->Prop),Inv X aa σ H s->t σ H Q->O7 (Pb X.prog X.w) X.A (spliced (backTo pos (Qz es X.env))) (AP X aa σ Q) X.xe s
def PS (X:Cx)(st:Pc)(t:TS):Prop:=
 ∀(aa:List (f'×G')) (s:J') (σ:St) (H:Hp) (D:Ends),Inv X aa σ H s->t D σ H->O7 (Pb X.prog X.w) X.A (exec st X.env) (SP X aa D) X.xe s
def Su (X:Cx)(st:List Pc)(t:TS):Prop:=
 ∀(aa:List (f'×G')) (s:J') (σ:St) (H:Hp) (D:Ends),Inv X aa σ H s->t D σ H->O7 (Pb X.prog X.w) X.A (execs st X.env) (SP X aa D) X.xe s
theorem Pm {α:Type}{t:Sem α}{Q Q':α->J'->Prop}{M:Vg}{A:Pz}{E:D'->J'->Prop}{s:J'}(h:O7 M A t Q E s)(hQ:∀a s,Q a s->Q' a s):O7 M A t Q' E s:=UQ h hQ λ_ _ x=>x
def Bt (i:Nat):TE:=λσ H Q=>∃v,σ[i]?=some (some v)/\Q v H
def tC (v:V):TE:=λ_ H Q=>Q v H
theorem y8 (hN:X.N[i]?=some x)(hv:Y9 X.env.scope x)(hd:(x==("__debug__":N'))=false:=by decide)(SL:(x==("__classdict__":N'))=false:=by decide):PE X (.Name x pos) (Bt i):=by
 intro aa s j H Q I h;obtain⟨v,e,h⟩:=h;obtain⟨m,n,f⟩:=I.loc;obtain⟨u,r,l⟩:=f i x v hN e hv;have fin:EP X aa j Q u s:=⟨v,H,I,r,h⟩
 rcases l with⟨hk,g⟩|⟨hk,c,d,b⟩
 .exact wpAny_Name (wpAny_loadName_local I.ok.kind hk n g fin) hd
 .rcases hk with hk|hk
  .exact wpAny_Name (wpAny_loadName_cell I.ok.kind hk d b fin) hd
  .exact wpAny_Name (wpAny_loadName_free I.ok.kind hk d b fin SL) hd
theorem ao {i j pos}:PE X (.Constant (.int i) j pos) (tC (.int i)):=λ_ _ _ H _ I h=>wpAny_Constant_int ⟨.int i,H,I.tok _,⟨_,rfl⟩,h⟩
theorem gn {b j pos}:PE X (.Constant (.bool b) j pos) (tC (.bl b)):=λ_ _ _ H _ I h=>Constant_bool ⟨.bl b,H,I,rfl,h⟩
theorem j9 {j pos}:PE X (.Constant .none j pos) (tC .Qt):=λ_ _ _ H _ I h=>Constant_none ⟨.Qt,H,I,rfl,h⟩
theorem dS {x j pos}:PE X (.Constant (.str x) j pos) (tC (.str x)):=λ_ _ _ H _ I h=>afw ⟨.str x,H,I.tok _,⟨_,rfl⟩,h⟩
def Gl (X:Cx)(x:N'):Prop:=X.env.kindOf x=some .globalImplicit
theorem jg {σ:St}(I:Inv X aa σ H s)(hg:Gl X x)(hm:X.mg x=some u)(h:Q u s)(hd:(x==("__debug__":N'))=false:=by decide):O7 (Pb X.prog X.w) X.A (eval (.Name x pos) X.env) Q E s:=
 aeU I.ok.kind hg (Calls.loadGlobal_global (by rw[I.ok.glob];exact I.mod.glob.keeps I.bk) hm h) hd
theorem gX {σ:St}(I:Inv X aa σ H s)(hg:Gl X x)(hm:X.mg x=none)(hv:Sr x=some u)(h:Q u s)(hn:x≠"__name__":=by decide)(hd:(x==("__debug__":N'))=false:=by decide):O7 (Pb X.prog X.w) X.A (eval (.Name x pos) X.env) Q E s:=by
 obtain⟨d,c,b⟩:=I.mod.blt;exact aeU I.ok.kind hg (Calls.loadGlobal_builtin (by rw[I.ok.glob];exact I.mod.glob.keeps I.bk) hm (by rw[I.ok.blt];exact c.keeps I.bk) ((b x hn).trans hv) h) hd
theorem aR (hg:Gl X x)(hm:X.mg x=some u)(r:aG v u)(hd:(x==("__debug__":N'))=false:=by decide):PE X (.Name x pos) (tC v):=
 λ_ _ _ H _ I h=>jg I hg hm ⟨v,H,I,r,h⟩ hd
theorem eF (hg:Gl X x)(hm:X.mg x=none)(hv:Sr x=some u)(r:aG v u)(hn:x≠"__name__":=by decide)(hd:(x==("__debug__":N'))=false:=by decide):PE X (.Name x pos) (tC v):=
 λ_ _ _ H _ I h=>gX I hg hm hv ⟨v,H,I,r,h⟩ hn hd
def PC (X:Cx)(op:CmpOp)(a b:Pr)(t:TE):Prop:=
 ∀(aa:List (f'×G')) (s:J') (σ:St) (H:Hp) (Q:VK),Inv X aa σ H s->t σ H Q->
  O7 (Pb X.prog X.w) X.A (eval a X.env) (λv PH=>O7 (Pb X.prog X.w) X.A (eval b X.env) (λu PZ=>O7 (Pb X.prog X.w) X.A (RD op v u) (EP X aa σ Q) X.xe PZ) X.xe PH) X.xe s
def tB (t:TE):TT:=λσ H Q=>t σ H λx H1=>∃c,x=.bl c/\Q c H1
theorem y9 (h:PC X op a b t)(h1:behindInMarks op b=false:=by first|exact agL _ (by decide) (by decide)|rfl):PT X (.Compare a [op] [b] pos) (tB t):=by
 intro aa s f H Q I m;refine wpAny_isTrue_Compare1 (Pm (h aa s f H _ I m) λv s1 h1=>Pm h1 λu s2 g=>Pm g λc s3 n=>Qb n λx l e o j=>?_) h1;obtain⟨d,rfl,q⟩:=j;cases o;exact Ut ⟨l,e,q⟩
theorem cX (h:PE X e t)(he:∀whole,isTrue e X.env whole=(do let v <-whole;standAt e.pos;holding [v] (truthy v)):=by intro _;rfl):PT X e (tB t):=by
 intro aa s j H Q I g;refine isTrue_plain (Pm (h aa s j H _ I g) λv s1 l=>Qb l λx f c m b=>?_) (he _);obtain⟨d,rfl,q⟩:=b;cases m;exact Ut ⟨f,c,q⟩
def tOr (t u:TT):TT:=λσ H Q=>t σ H λc H1=>if c=true then Q true H1 else u σ H1 Q
def Lg (t:TT):TT:=λσ H Q=>t σ H λc H1=>Q (!c) H1
theorem jh (ha:PT X a tA):PW X (.BoolOp .Or [a] pos) tA:=by
 intro d aa s b H Q I h;refine isTrue_or (Pm (ha aa s b H Q I h) λc s1 e=>?_);cases c with
 | false=>exact isTrue_or_nil e
 | true=>exact e
theorem lH (ha:PT X a tA)(hb:PW X (.BoolOp .Or (b::rest) pos) tB'):PW X (.BoolOp .Or (a::b::rest) pos) (tOr tA tB'):=by
 intro l aa s g H Q I h;refine isTrue_or (Pm (ha aa s g H _ I h) λc s1 j=>?_);obtain⟨f,e,d⟩:=j;cases c with
 | true=>exact⟨f,e,d⟩
 | false=>exact hb l aa s1 g f Q e d
theorem cK (ha:PT X a tA):PT X (.UnaryOp .Not a pos) (Lg tA):=by
 intro aa s d H Q I h;exact isTrue_not (ha aa s d H (λc b=>Q (!c) b) I h)
def JS (ta tb:TE):TE:=λσ H Q=>ta σ H λx H1=>∃c,x=.bl c/\if c=true then tb σ H1 Q else Q (.bl false) H1
def JT (ta:TE):TE:=λσ H Q=>ta σ H λx H1=>∃c,x=.bl c/\Q (.bl (!c)) H1
theorem nP {op}(h:PE X a t):PE X (.BoolOp op [a] pos) t:=λaa s c H Q I b=>BoolOp_one (h aa s c H Q I b)
theorem ji (ha:PE X a ta)(hb:PE X (.BoolOp .And (b::rest) pos) tb):PE X (.BoolOp .And (a::b::rest) pos) (JS ta tb):=by
 intro aa s f H Q I h;refine BoolOp_and (Pm (ha aa s f H _ I h) λv s1 j=>Qb j λx g e l d=>?_);obtain⟨c,rfl,d⟩:=d;cases l;refine Ut ?_;cases c with
 | true=>exact hb aa s1 f g Q e d
 | false=>exact⟨.bl false,g,e,rfl,d⟩
theorem FK (ha:PE X a ta):PE X (.UnaryOp .Not a pos) (JT ta):=by
 intro aa s f H Q I h;refine UnaryOp_ (Pm (ha aa s f H _ I h) λv s1 g=>Qb g λx e d j b=>?_);obtain⟨c,rfl,b⟩:=b;cases j;exact not_of (Ut ⟨.bl (!c),e,d,rfl,b⟩)
def tIf (t:TT)(ta tb:TE):TE:=λσ H Q=>t σ H λc H1=>if c=true then ta σ H1 Q else tb σ H1 Q
theorem sS (hc:PT X c tA)(ha:PE X a ta)(hb:PE X b tb):PE X (.IfExp c a b pos) (tIf tA ta tb):=by
 intro aa s e H Q I h;refine wpAny_IfExp (Pm (hc aa s e H _ I h) λd s1 l=>?_);obtain⟨j,g,f⟩:=l;cases d with
 | true=>exact ha aa s1 e j Q g f
 | false=>exact hb aa s1 e j Q g f
def Pg (K:O6)(H:Hp)(a:f')(xs:List V):Prop:=
 Rd H a (.lst xs)\/
  ∃(o:G') (its:Array D') (n:Nat),K.lookup a=some o/\o.cls=.type "list"/\o.dict=none/\o.data=.seq its n/\its.size<=Pj/\aE xs its.toList
def Pw (K:O6)(H:Hp)(a:f')(xs:List V):Prop:=
 Rd H a (.tup xs)\/
  ∃(o:G') (its:Array D') (n:Nat),K.lookup a=some o/\o.cls=.type "tuple"/\o.data=.seq its n/\its.size<=Pj/\aE xs its.toList/\o.dict=none
noncomputable def Lh:D'->Option V
 | .none=>some .Qt
 | .bool b=>some (.bl b)
 | .int i _=>some (.int i)
 | .str x _=>some (.str x)
 | .bytes b _=>some (.Y7 b)
 | .float b _=>some (.X5 b)
 | .ref a=>some (.ref a)
 | .type n=>some (.ty n)
 | _=>none
theorem aG.abs (r:aG x u):Lh u=some x:=by
 cases x with
 | Qt=>cases r;rfl
 | bl _=>cases r;rfl
 | int _=>obtain⟨t,rfl⟩:=r;rfl
 | str _=>obtain⟨t,rfl⟩:=r;rfl
 | Y7 _=>obtain⟨t,rfl⟩:=r;rfl
 | X5 _=>obtain⟨t,rfl⟩:=r;rfl
 | ref _=>cases r;rfl
 | ty _=>cases r;rfl
theorem aG.inj (r:aG x u)(q:aG y u):x=y:=Sn (r.abs.symm.trans q.abs)
theorem aE.inj:∀{xs ys:List V}{us:List D'},aE xs us->aE ys us->xs=ys
 | _,_,_,.nil,.nil=>rfl
 | _,_,_,.cons r t,.cons b t'=>by rw[r.inj b,aE.inj t t']
theorem Pg.of {K:O6}(h:H a=some (.lst xs)):Pg K H a xs:=.inl (.inl h)
theorem Pw.of {K:O6}(h:H a=some (.tup xs)):Pw K H a xs:=.inl (.inl h)
theorem Inv.list {σ:St}(I:Inv X aa σ H s)(h:Pg X.K H a xs):∃its:List D',aE xs its/\PlainL s.heap a its.toArray/\xs.length<=Pj:=by
 rcases h with h|⟨o,its,n,c,d,hd,b,hz,r⟩
 .obtain⟨z,its,n,r,e⟩:=h.ok I.Pn;exact⟨its,r,⟨_,n,e,rfl,rfl,rfl⟩,z⟩
 .refine⟨its.toList,r,⟨o,n,I.Q9 a o c,d,hd,by simpa using b⟩,?_⟩;have e:=r.length;simp only[Ri] at e;lia
theorem Inv.tuple {σ:St}(I:Inv X aa σ H s)(h:Pw X.K H a xs):∃its:List D',aE xs its/\XT s.heap a its.toArray/\xs.length<=Pj:=by
 rcases h with h|⟨o,its,n,c,d,b,hz,r,_⟩
 .obtain⟨z,its,r,p⟩:=h.ok I.Pn;exact⟨its,r,p.tup,z⟩
 .refine⟨its.toList,r,⟨o,I.Q9 a o c,d,n,by simpa using b⟩,?_⟩;have e:=r.length;simp only[Ri] at e;lia
theorem Inv.ab8 {σ:St}(I:Inv X aa σ H s)(h:Pg X.K H a xs)(h':Pg X.K H a ys):xs=ys:=by
 obtain⟨its,r,⟨o,n,e,_,_,d⟩,_⟩:=I.list h;obtain⟨its',c,⟨f,g,b,_,_,d'⟩,_⟩:=I.list h';rw[e] at b;cases b;rw[d] at d';injection d' with d1 _
 have:its=its':=by simpa using congrArg adR d1
 subst this;exact r.inj c
theorem Inv.YX {σ:St}(I:Inv X aa σ H s)(h:Pw X.K H a xs)(h':Pw X.K H a ys):xs=ys:=by
 obtain⟨its,r,⟨o,e,_,n,d⟩,_⟩:=I.tuple h;obtain⟨its',c,⟨f,b,_,g,d'⟩,_⟩:=I.tuple h';rw[e] at b;cases b;rw[d] at d';injection d' with d1 _
 have:its=its':=by simpa using congrArg adR d1
 subst this;exact r.inj c
noncomputable abbrev Cx.UU (X:Cx)(E:D'->J'->Prop):Cx:={ X with xe:=E }
noncomputable abbrev Cx.Sg (X:Cx):Cx:=X.UU λ_ _=>False
theorem Cx.Ok.UU {X:Cx}(ok:X.Ok)(E:D'->J'->Prop):(X.UU E).Ok:=
 ⟨ok.mod,ok.kind,ok.glob,ok.blt,ok.above,ok.inj,ok.has,ok.X7,ok.hd,ok.frames,ok.Y',ok.exf,ok.bs,ok.Vk,ok.TJ,ok.Y2,ok.TK,ok.VX⟩
theorem Cx.Ok.VR {X:Cx}(ok:(X.UU E).Ok):X.Ok:=
 ⟨ok.mod,ok.kind,ok.glob,ok.blt,ok.above,ok.inj,ok.has,ok.X7,ok.hd,ok.frames,ok.Y',ok.exf,ok.bs,ok.Vk,ok.TJ,ok.Y2,ok.TK,ok.VX⟩
theorem Inv.UU {σ:St}(I:Inv X aa σ H s)(E:D'->J'->Prop):Inv (X.UU E) aa σ H s:=⟨I.ok.UU E,I.os,I.bare,I.base,I.loc,I.cell,I.free,I.Tg,I.pin,I.Pn,I.len⟩
theorem Inv.VR {σ:St}(I:Inv (X.UU E) aa σ H s):Inv X aa σ H s:=⟨I.ok.VR,I.os,I.bare,I.base,I.loc,I.cell,I.free,I.Tg,I.pin,I.Pn,I.len⟩
theorem SP.VR (h:SP (X.UU E) aa D f s'):SP X aa D f s':=by
 cases f with
 | next=>obtain⟨b,c,I,q⟩:=h;exact⟨b,c,I.VR,q⟩
 | brk=>obtain⟨b,c,I,q⟩:=h;exact⟨b,c,I.VR,q⟩
 | cont=>obtain⟨b,c,I,q⟩:=h;exact⟨b,c,I.VR,q⟩
 | ret u=>obtain⟨v,b,c,I,r,q⟩:=h;exact⟨v,b,c,I.VR,r,q⟩
theorem Su.Sg {st:List Pc}(h:Su X.Sg st t):Su X st t:=λaa s c H D I b=>
 UQ (h aa s c H D (I.UU _) b) (λ_ _ q=>q.VR) λ_ _ z=>SF z
def JU:TS:=λD σ H=>D.nx σ H
def Li (t u:TS):TS:=λD σ H=>t { D with nx:=u D } σ H
theorem aI:Su X [] JU:=λ_ _ b H _ I h=>aau ⟨b,H,I,h⟩
theorem ae {st:Pc}(h1:PS X st t)(h2:Su X rest u):Su X (st::rest) (Li t u):=by
 intro aa s d H D I h;refine wpAny_execs_cons (Pm (h1 aa s d H { D with nx:=u D } I h) λf s1 q=>?_);cases f with
 | next=>
  obtain⟨b,c,e,q⟩:=q;exact h2 aa s1 b c D e q
 | ret v=>exact q
 | brk=>exact q
 | cont=>exact q
theorem ai {st:Pc}(h1:PS X st t):Su X [st] t:=by
 intro aa s b H D I h;refine wpAny_execs_cons (Pm (h1 aa s b H D I h) λf s1 q=>?_);cases f with
 | next=>exact aau q
 | ret v=>exact q
 | brk=>exact q
 | cont=>exact q
theorem Inv.quiet {σ:St}(I:Inv X aa σ H s):interactive X.env=false:=by simp[interactive,I.ok.kind]
def JV (te:TE):TS:=λD σ H=>te σ H λ_ H1=>D.nx σ H1
theorem bA (he:PE X e te)(hs:swapsWith e none pos.line X.env=pure false:=by rfl):PS X (.Expr e pos) (JV te):=by
 intro aa s b H D I h;exact wpAny_Expr_any (Pm (he aa s b H _ I h) λv s1 g=>Qb g λx f d j c=>⟨b,f,d,c⟩) I.quiet hs
def Lj (te:TE):TS:=λD σ H=>te σ H D.rt
theorem aH (he:PE X e te):PS X (.Return (some e) pos) (Lj te):=by
 intro aa s b H D I h;exact wpAny_Return_some (Pm (he aa s b H _ I h) λv s1 g=>Qb g λx f d j c=>⟨x,b,f,d,j,c⟩)
def JW:TS:=λD _ H=>D.rt .Qt H
theorem pD:PS X (.Return none pos) JW:=λ_ _ b H _ I h=>wpAny_Return_none ⟨.Qt,b,H,I,rfl,h⟩
def Lk (c:TT)(t u:TS):TS:=λD σ H=>c σ H λb H1=>if b=true then t D σ H1 else u D σ H1
theorem aY (hc:PT X c tc)(ha:Su X a t)(hb:Su X b u):PS X (.If c a b pos) (Lk tc t u):=by
 intro aa s e H D I h;refine wpAny_If (Pm (hc aa s e H _ I h) λd s1 l=>?_);obtain⟨j,g,f⟩:=l;cases d with
 | true=>exact ha aa s1 e j D g f
 | false=>exact hb aa s1 e j D g f
def FM:TS:=λ_ _ _=>False
theorem aM {st:Pc}:PS X st FM:=λ_ _ _ _ _ _ h=>h.elim
abbrev TG:=V->St->Hp->(St->Hp->Prop)->Prop
abbrev X9:=List V->St->Hp->(St->Hp->Prop)->Prop
def PG (X:Cx)(target:Pr)(t:TG):Prop:=
 ∀(aa:List (f'×G')) (s:J') (σ:St) (H:Hp) (v:V) (u:D') (Q:St->Hp->Prop),Inv X aa σ H s->aG v u->t v σ H Q->
  O7 (Pb X.prog X.w) X.A (assign target X.env u) (λ_ s'=>∃Pu H',Inv X aa Pu H' s'/\Q Pu H') X.xe s
def PGs (X:Cx)(ts:List Pr)(t:X9):Prop:=
 ∀(aa:List (f'×G')) (s:J') (σ:St) (H:Hp) (vs:List V) (us:List D') (Q:St->Hp->Prop),Inv X aa σ H s->aE vs us->t vs σ H Q->
  O7 (Pb X.prog X.w) X.A (assignInOrder ((assignEach ts X.env).map (·.2)) us) (λ_ s'=>∃Pu H',Inv X aa Pu H' s'/\Q Pu H') X.xe s
abbrev sU:=V->V->V->Hp->(Hp->Prop)->Prop
def Bu (X:Cx)(t:sU):Prop:=
 ∀(aa:List (f'×G')) (s:J') (σ:St) (H:Hp) (o i v:V) (ov iv u:D') (Q:Hp->Prop),Inv X aa σ H s->aG o ov->aG i iv->aG v u->t o i v H Q->
  O7 (Pb X.prog X.w) X.A (setItem ov iv u) (λ_ s'=>∃H',Inv X aa σ H' s'/\Q H') X.xe s
abbrev TIp:=V->V->Hp->VK->Prop
def PIp (X:Cx)(op:Operator)(t:TIp):Prop:=
 ∀(aa:List (f'×G')) (s:J') (σ:St) (H:Hp) (x y:V) (v u:D') (Q:VK),Inv X aa σ H s->aG x v->aG y u->t x y H Q->
  O7 (Pb X.prog X.w) X.A (inplaceOp op v u) (EP X aa σ Q) X.xe s
def xn (i:Nat):TG:=λv σ H Q=>Q (σ.set i (some v)) H
theorem bw (hN:X.N.Nodup)(hi:X.N[i]?=some x)(hx:Loc X.env.scope x)(hf:X.fn x=true\/X.env.scope.names.lookup x=some .local :=by first|exact .inl rfl|exact .inr rfl|assumption):PG X (.Name x pos) (xn i):=by
 intro aa s d H v u Q I r h;exact abp (fQ I hN hi hx r (λc b=>⟨_,H,b,h⟩) hf)
noncomputable def Ll:X9:=λvs σ H Q=>vs=[]/\Q σ H
noncomputable def JX (t:TG)(u:X9):X9:=λvs σ H Q=>∃v r,vs=v::r/\t v σ H λPu H'=>u r Pu H' Q
theorem pE:PGs X [] Ll:=by
 intro aa s b H vs us Q I r h;obtain⟨e,h⟩:=h;subst e;cases r;exact assignInOrder_nil ⟨b,H,I,h⟩
theorem fR (h1:PG X e t)(h2:PGs X es u)(hs:(assignEach (e::es) X.env).map (·.2)=assign e X.env::(assignEach es X.env).map (·.2):=by rfl):PGs X (e::es) (JX t u):=by
 intro aa s c H vs us Q I r h;obtain⟨v,n,m,h⟩:=h;subst m;cases r with
 | cons r l=>
  rw[hs];refine assignInOrder_cons (Pm (h1 aa s c H _ _ _ I r h) λ_ s1 d=>?_);obtain⟨f,j,b,g⟩:=d;exact h2 aa s1 f j _ _ Q b l g
def Lm (K:O6)(n:Nat)(t:X9):TG:=λv σ H Q=>∃a xs,v=.ref a/\Pw K H a xs/\xs.length=n/\t xs σ H Q
theorem sV (hc:X.calm=true)(h:PGs X es t)(hn:(assignEach es X.env).length=n:=by rfl)(X':(assignEach es X.env).findIdx? (·.1)=none:=by rfl):PG X (.Tuple es k pos) (Lm X.K n t):=by
 intro aa s d H v u Q I r c;obtain⟨a,xs,w,j,g,c⟩:=c;subst w;cases r;obtain⟨its,f,m,hz⟩:=I.tuple j;refine assign_Tuple_tuple (I.ok.hd hc) m (by simp[hn,<-g,f.length]) X' λh' p=>?_;have l:Inv X aa d H { s with heap:=h' }:=I.kept (t':=s.toks) λb o e=>p b o (Qs (P5 e)) e;exact h aa _ d H xs _ Q l (by simpa using f) c
def Ln (to ti:TE)(t:sU):TG:=λv σ H Q=>to σ H λo H1=>ti σ H1 λi H2=>t o i v H2 λH3=>Q σ H3
theorem FN (ho:PE X o to)(hi:PE X i ti)(hs:Bu X t)(ha:∀v,assign (.Subscript o i pos) X.env v=(do
   let ov <-holding [v] (eval o X.env);let iv <-holding [v,ov] (eval i X.env)
   standAt pos
   holding [v,ov,iv] (setItem ov iv v)
   release [v,ov,iv] []):=by intro _;rfl):PG X (.Subscript o i pos) (Ln to ti t):=by
 intro aa s b H v u Q I r h;rw[ha];refine O4 (RY (Pm (ho aa s b H _ I h) λov s1 c=>Qb c λx p d A n=>?_));refine O4 (RY (Pm (hi aa s1 b p _ d n) λiv s2 c=>Qb c λy e j w l=>?_));refine O4 (ZZ (O4 (RY (Pm (hs aa s2 b e x y v ov iv u _ j A w r l) λ_ s3 g=>?_))));obtain⟨f,C,m⟩:=g;exact wpAny_release ⟨b,f,C,m⟩
def Bv (te:TE)(g:TG):TS:=λD σ H=>te σ H λx H1=>g x σ H1 D.nx
theorem FO (he:PE X e te)(hg:PG X tg g)(hs:swapsWithSole [tg] e pos.line X.env=pure false:=by rfl)(hw:swappedStores [tg] e X.env=pure none:=by rfl)(h1:(assignEach [tg] X.env).map (·.2)=[assign tg X.env]:=by rfl):PS X (.Assign [tg] e pos) (Bv te g):=by
 intro aa s b H D I h;refine wpAny_Assign_stores (Pm (he aa s b H _ I h) λv s1 j=>Qb j λx f d l c=>?_) hs hw;rw[h1];exact Pm (hg aa s1 b f x v _ d l c) λ_ s2 q=>q
theorem ay (hN:X.N.Nodup)(hi:X.N[i]?=some x)(hx:Loc X.env.scope x)(he:PE X e te)(hs:swapsWith e (some (.Name x pos')) pos.line X.env=pure false:=by rfl)(hf:X.fn x=true\/X.env.scope.names.lookup x=some .local :=by first|exact .inl rfl|exact .inr rfl|assumption):
  PS X (.Assign [.Name x pos'] e pos) (Bv te (xn i)):=by
 intro aa s g H D I h;refine wpAny_Assign_Name (Pm (he aa s g H _ I h) λv s1 j=>Qb j λy f d l b=>?_) hs;exact fQ d hN hi hx l (λs2 c=>⟨_,f,c,b⟩) hf
def Lo (i:Nat)(te:TE)(ti:TIp):TS:=λD σ H=>∃x,σ[i]?=some (some x)/\te σ H λy H1=>ti x y H1 λz H2=>D.nx (σ.set i (some z)) H2
theorem sW (hN:X.N.Nodup)(hi:X.N[i]?=some x)(hx:Loc X.env.scope x)(he:PE X e te)(ho:PIp X op ti)(hf:X.fn x=true\/X.env.scope.names.lookup x=some .local :=by first|exact .inl rfl|exact .inr rfl|assumption):
  PS X (.AugAssign (.Name x pos') op e pos) (Lo i te ti):=by
 intro aa s g H D I h;obtain⟨v,R,h⟩:=h;obtain⟨m,O,j⟩:=I.loc;have f:Y9 X.env.scope x:=by rcases hx with k|k;exact .inl k;exact .inr (.inl k)
 obtain⟨u,r,l⟩:=j i x v hi R f;refine wpAny_AugAssign_Name ?_;have go:O7 (Pb X.prog X.w) X.A (eval e X.env) (λw L=>O7 (Pb X.prog X.w) X.A (inplaceOp op u w) (λr P=>O7 (Pb X.prog X.w) X.A (storeName X.env x r) (λ_=>SP X aa D .next) X.xe P) X.xe L) X.xe s:=by
  refine Pm (he aa s g H _ I h) λw s1 d=>Qb d λy G o M F=>?_;refine Pm (ho aa s1 g G v y u w _ o r M F) λz s2 d=>Qb d λS p C J E=>?_;exact fQ C hN hi hx J (λs3 Q=>⟨_,p,Q,E⟩) hf
 rcases l with⟨hk,n⟩|⟨hk,c,t,b⟩
 .exact wpAny_loadName_local I.ok.kind hk O n go
 .rcases hk with hk|hk
  .exact wpAny_loadName_cell I.ok.kind hk t b go
  .rcases hx with k|k
   .have:X.env.scope.names.lookup x=some .free:=hk;rw[k] at this;cases this
   .have:X.env.scope.names.lookup x=some .free:=hk;rw[k] at this;cases this
def JZ (to ti te:TE)(aaU:V->V->Hp->VK->Prop)(tip:TIp)(aaV:sU):TS:=λD σ H=>to σ H λo H1=>ti σ H1 λi H2=>aaU o i H2 λx H3=>te σ H3 λy H4=>tip x y H4 λz H5=>aaV o i z H5 λH6=>D.nx σ H6
def FP (X:Cx)(t:V->V->Hp->VK->Prop):Prop:=
 ∀(aa:List (f'×G')) (s:J') (σ:St) (H:Hp) (o i:V) (ov iv:D') (Q:VK),Inv X aa σ H s->aG o ov->aG i iv->t o i H Q->
  O7 (Pb X.prog X.w) X.A (getItem ov iv) (EP X aa σ Q) X.xe s
theorem D8 (ho:PE X o to)(hi:PE X i ti)(hg:FP X aaU)(he:PE X e te)(hp:PIp X op tip)(hs:Bu X aaV)(ha:∀ov iv new,augStore i ov iv new=(do holding [new,ov,iv] (setItem ov iv new);release [new,ov,iv] [];pure .next):=by intros;rfl):PS X (.AugAssign (.Subscript o i ξ) op e pos) (JZ to ti te aaU tip aaV):=by
 intro aa s c H D I h;refine wpAny_AugAssign_SubscriptAny (Pm (ho aa s c H _ I h) λov s1 b=>Qb b λd J m g F=>?_) ha;refine Pm (hi aa s1 c J _ m F) λiv s2 b=>Qb b λj p y f A=>?_;refine Pm (hg aa s2 c p d j ov iv _ y g f A) λold s3 b=>Qb b λM w S Q E=>?_;refine Pm (he aa s3 c w _ S E) λv s4 b=>Qb b λn L t l R=>?_;refine Pm (hp aa s4 c L M n old v _ t Q l R) λnew s5 b=>Qb b λN G x C u=>?_;exact Pm (hs aa s5 c G d j N ov iv new _ x g f C u) λ_ s6 ⟨O,T,P⟩=>⟨c,O,T,P⟩
def FQ (c:TT)(tb:TS):TS:=λD σ H=>∃W:Nat->St->Hp->Prop,(∃m,W m σ H)/\∀m σ H,W m σ H->
 c σ H λb H1=>if b=true then ∃N:St->Hp->Prop,(∀Pu H',N Pu H'->∃m',m' < m/\W m' Pu H')/\tb { D with nx:=N,ct:=N,bk:=D.nx } σ H1 else D.nx σ H1
theorem sX (hp:PassesOwn (Pb X.prog X.w) X.A X.env X.xe)(hc:PT X c tc)(hb:Su X body tb):PS X (.While c body [] pos) (FQ tc tb):=by
 intro aa s M H D I h;obtain⟨W,⟨J,R⟩,turn⟩:=h;refine wpAny_While (codeAny_whileLoop (λn P=>∃C E,Inv X aa C E P/\W n C E) ?_ J ⟨M,H,I,R⟩);rintro n s1 ⟨j,F,L,Q⟩;refine YI hp (Pm (hc aa s1 j F _ L (turn n j F Q)) λb s2 O=>?_);obtain⟨x,y,g⟩:=O;cases b with
 | true=>
  obtain⟨N,G,g⟩:=g;rw[Pf rfl];refine YI hp (Pm (hb aa s2 j x _ y g) λf s3 l=>?_);cases f with
  | next=>
   obtain⟨e,d,u,o⟩:=l;obtain⟨p,m,t⟩:=G e d o;exact⟨p,m,e,d,u,t⟩
  | cont=>
   obtain⟨e,d,u,o⟩:=l;obtain⟨p,m,t⟩:=G e d o;exact⟨p,m,e,d,u,t⟩
  | brk=>exact l
  | ret v=>exact l
 | false=>
  rw[O9 Rt];exact aau ⟨j,x,y,g⟩
structure It where
 go:Nat->Hp->Prop
 Xe:Nat->Hp->V->Hp->Prop
 stop:Nat->Hp->Prop
def i6 (X:Cx)(aa:List (f'×G'))(H:Hp)(b:f'):Prop:=
 H b=none/\b≠X.env.locals/\b∉X.fs/\(b∈X.ex\/X.QH.heap.objs.size<=b)/\(∀x c,X.env.cells.lookup x=some c->c≠b)/\∀p∈X.pn++aa,p.1≠b
theorem Inv.XX {X:Cx}{aa:List (f'×G')}{σ:St}{H H':Hp}{s:J'}{b:f'}(I:Inv X aa σ H s)(hb:s.heap.objs.size<=b)(hn:H' b=none):i6 X aa H' b:=by
 refine⟨hn,XI (QP I.lt hb),I.ael hb,.inr (RC I.sz hb),λx c e z=>?_,λp d z=>?_⟩
 .obtain⟨v,q⟩:=I.cell x c e;exact Pp (QP q.lt (by rw[z];exact hb)) (VL _)
 .exact Pp (QP (P5 (I.pin p d).1) (by rw[z];exact hb)) (VL _)
structure Turn (P:Pk)(w:Pd)(K:O6)(tg:Pr)(J:It)(fp:List f')(it:f')(tn:Nat->O8->Prop):Prop where
 mem:it∈fp
 obj:∀i h,tn i h->∀b∈fp,∃o,h.get? b=some o/\∀v,o.data≠.cell v
 keep:∀i h h',tn i h->(∀b∈fp,∀o,h.get? b=some o->h'.get? b=some o)->tn i h'
 item:∀(X:Cx),X.prog=P->X.w=w->X.K=K->X.calm=true->∀(i:Nat) (aa:List (f'×G')) (s:J') (σ:St) (H:Hp) (E:D'->J'->Prop),Inv X aa σ H s->(∀b∈fp,i6 X aa H b)->tn i s.heap->J.go i H->
  O7 (Pb P w) X.A (pyNext (.ref it)) (λr s1=>∃u,r=some u/\
   O7 (Pb P w) X.A (letOwnedTupleGo tg (.ref it) u) (λ_ s2=>∃x H',Inv X aa σ H' s2/\aG x u/\J.Xe i H x H'/\tn (i+1) s2.heap/\∀b∈fp,H' b=none) E s1) E s
 done:∀(X:Cx),X.prog=P->X.w=w->X.K=K->X.calm=true->∀(i:Nat) (aa:List (f'×G')) (s:J') (σ:St) (H:Hp) (E:D'->J'->Prop),Inv X aa σ H s->(∀b∈fp,i6 X aa H b)->tn i s.heap->J.stop i H->
  O7 (Pb P w) X.A (pyNext (.ref it)) (λr s1=>r=none/\Inv X aa σ H s1) E s
 self:∀(A:Pz) (i:Nat) (s:J') (Q:D'->J'->Prop) (E:D'->J'->Prop),tn i s.heap->Q (.ref it) s->O7 (Pb P w) A (pyIter (.ref it)) Q E s
abbrev TI:=St->Hp->(It->Hp->Prop)->Prop
def PIE (X:Cx)(aa:List (f'×G'))(σ:St)(tg:Pr)(R:It->Hp->Prop)(itv:D')(s2:J'):Prop:=
 ∃(it:f') (fp:List f') (tn:Nat->O8->Prop) (J:It) (H':Hp),itv=.ref it/\Inv X aa σ H' s2/\Turn X.prog X.w X.K tg J fp it tn/\tn 0 s2.heap/\(∀b∈fp,i6 X aa H' b)/\R J H'
def PI (X:Cx)(tg iter:Pr)(wi:TI):Prop:=
 ∀(aa:List (f'×G')) (s:J') (σ:St) (H:Hp) (R:It->Hp->Prop),Inv X aa σ H s->wi σ H R->
  O7 (Pb X.prog X.w) X.A (eval iter X.env) (λv s1=>O7 (Pb X.prog X.w) X.A (pyIter v) (PIE X aa σ tg R) X.xe s1) X.xe s
theorem nQ (ho:s.heap.get? it=some o)(hc:o.cls=.type n)(hd:o.data=.fields vs)(hn:["enumerate","zip","dict_itemiterator","dict_reverseitemiterator","odict_iterator","itertools.zip_longest","itertools.pairwise"].contains n=false)(hQ:Q () s):O7 M A (letOwnedTupleGo tg (.ref it) u) Q E s:=by
 unfold letOwnedTupleGo;cases tg <;> first
  | exact Pa hQ
  | (cases u <;> first
    | exact Pa hQ
    | (refine O4 (ab2 ho ?_);rw[hc,hd];show O7 M A (if (["enumerate","zip","dict_itemiterator","dict_reverseitemiterator","odict_iterator","itertools.zip_longest","itertools.pairwise"].contains n&&vs[0]?==some (rawInt _))=true then _ else _) Q E s;rw[O9 (by intro h;rw[hn,abF] at h;cases h)];exact Pa hQ))
noncomputable def Za (K:O6)(a:f'):It:=
 ⟨λi H=>∃xs x,Pg K H a xs/\xs[i]?=some x,λi H x H'=>H'=H/\∀xs,Pg K H a xs->xs[i]?=some x,λi H=>∃xs,Pg K H a xs/\xs.length<=i⟩
noncomputable def Zb (K:O6)(a:f'):It:=
 ⟨λi H=>∃xs x,Pw K H a xs/\xs[i]?=some x,λi H x H'=>H'=H/\∀xs,Pw K H a xs->xs[i]?=some x,λi H=>∃xs,Pw K H a xs/\xs.length<=i⟩
noncomputable def Xf (lo:Int)(n:Nat):It:=⟨λi _=>i<n,λi H x H'=>H'=H/\x=.int (lo+i),λi _=>n<=i⟩
theorem za {K:O6}(a it:f'):Turn P w K tg (Za K a) [it] it (λi h=>h.IsListIter it a i) where
 mem:=by simp
 obj:=λi h st b f=>by
  have e:b=it:=by simpa using f
  subst e;obtain⟨o,e,c,d⟩:=st;exact⟨o,e,λv z=>by rw[d] at z;cases z⟩
 keep:=λi h h' st k=>st.at λo e=>k it (by simp) o e
 item:=by
  intro X C A y M i aa s L H E I j st F;subst C A y;obtain⟨xs,x,g,D⟩:=F;obtain⟨its,m,p,hz⟩:=I.list g;obtain⟨u,Q,T⟩:=m.get D;obtain⟨n,J,R,t,G,l⟩:=j it (by simp);refine wpAny_pyNext_list_item st p.isList (x:=u) (by simpa using Q) λh' N sb=>?_;have O:Inv X aa L H { s with heap:=h' }:=I.turned (t':=s.toks) (λb o f e=>(sb.2 b f).trans e) n J t G l;obtain⟨o,e,c,d⟩:=id N;exact⟨u,rfl,nQ (s:={ s with heap:=h' }) e c d (by decide) ⟨x,H,O,T,⟨rfl,λY U=>by rw[I.ab8 U g];exact D⟩,N,λb f=>(j b f).1⟩⟩
 done:=by
  intro X C A y M i aa s L H E I j st F;subst C A y;obtain⟨xs,g,D⟩:=F;obtain⟨its,m,p,hz⟩:=I.list g;obtain⟨n,J,R,t,G,l⟩:=j it (by simp);have W:=m.length;exact wpAny_pyNext_list_end (I.ok.hd M) st p.isList (by simp;lia) λh' S=>⟨rfl,I.turned (t':=s.toks) (λb o f e=>S b o f e) n J t G l⟩
 self:=λ_ _ _ _ _ st h=>wpAny_pyIter_listiter st h
theorem xp {K:O6}(a it:f'):Turn P w K tg (Zb K a) [it] it (λi h=>h.IsTupleIter it a i) where
 mem:=by simp
 obj:=λi h st b f=>by
  have e:b=it:=by simpa using f
  subst e;obtain⟨o,e,c,d⟩:=st;exact⟨o,e,λv z=>by rw[d] at z;cases z⟩
 keep:=λi h h' st k=>st.at λo e=>k it (by simp) o e
 item:=by
  intro X C A y M i aa s L H E I j st F;subst C A y;obtain⟨xs,x,g,D⟩:=F;obtain⟨its,m,p,hz⟩:=I.tuple g;obtain⟨u,Q,T⟩:=m.get D;obtain⟨n,J,R,t,G,l⟩:=j it (by simp);refine wpAny_pyNext_tuple_item st (show s.heap.IsTuple a its.toArray from p) (x:=u) (by simpa using Q) λh' N sb=>?_;have O:Inv X aa L H { s with heap:=h' }:=I.turned (t':=s.toks) (λb o f e=>(sb.2 b f).trans e) n J t G l;obtain⟨o,e,c,d⟩:=id N;exact⟨u,rfl,nQ (s:={ s with heap:=h' }) e c d (by decide) ⟨x,H,O,T,⟨rfl,λY U=>by rw[I.YX U g];exact D⟩,N,λb f=>(j b f).1⟩⟩
 done:=by
  intro X C A y M i aa s L H E I j st F;subst C A y;obtain⟨xs,g,D⟩:=F;obtain⟨its,m,p,hz⟩:=I.tuple g;obtain⟨n,J,R,t,G,l⟩:=j it (by simp);have W:=m.length;exact wpAny_pyNext_tuple_end (I.ok.hd M) st (show s.heap.IsTuple a its.toArray from p) (by simp;lia) λh' S=>⟨rfl,I.turned (t':=s.toks) (λb o f e=>S b o f e) n J t G l⟩
 self:=λ_ _ _ _ _ st h=>wpAny_pyIter_tupleiter st h
theorem xq {K:O6}(it:f')(lo:Int)(n:Nat):Turn P w K tg (Xf lo n) [it] it (λi h=>abU h it (lo+(i:Nat)*1) ((n:Int)-(i:Nat)) 1) where
 mem:=by simp
 obj:=λi h st b c=>by
  have e:b=it:=by simpa using c
  subst e;exact⟨_,st,λv z=>by
   have L:Data.fields _=Data.cell v:=z;cases L⟩
 keep:=λi h h' st k=>k it (by simp) _ st
 item:=by
  intro X u p m g i aa s C H E I d st x;subst u p m;obtain⟨j,A,M,l,y,f⟩:=d it (by simp);have W:=Walks.range (prog:=X.prog) (w:=X.w) (I.ok.hd g) it lo 1 n;refine W.item i s _ _ x st λv h' D J F O=>?_;obtain⟨t,rfl⟩:=J;have G:Inv X aa C H { s with heap:=h',toks:=D }:=I.turned (λb o c e=>O b o (by simpa using c) e) j A l y f;refine⟨_,rfl,nQ (s:={ s with heap:=h',toks:=D }) (n:="range_iterator") F rfl rfl (by decide) ⟨.int (lo+i),H,G,⟨t,?_⟩,⟨rfl,rfl⟩,F,λb c=>(d b c).1⟩⟩;rw[ad0]
 done:=by
  intro X u p m g i aa s C H E I d st x;subst u p m;obtain⟨j,A,M,l,y,f⟩:=d it (by simp);exact wpAny_pyNext_range_end (I.ok.hd g) st (by have:n<=i:=x;lia) λh' N=>⟨rfl,I.turned (t':=s.toks) (λb o c e=>N b o c e) j A l y f⟩
 self:=λ_ _ _ _ _ st h=>wpAny_pyIter_rangeiter st h
def J0 (K:O6)(tl:TE):TI:=λσ H R=>tl σ H λx H1=>∃a,x=.ref a/\(∃xs,Pg K H1 a xs)/\R (Za K a) H1
def Lp (K:O6)(tl:TE):TI:=λσ H R=>tl σ H λx H1=>∃a,x=.ref a/\(∃xs,Pw K H1 a xs)/\R (Zb K a) H1
theorem cf (hl:PE X l tl):PI X tg l (J0 X.K tl):=by
 intro aa s f H R I h;refine Pm (hl aa s f H _ I h) λv s1 m=>Qb m λx j c n g=>?_;obtain⟨a,e,⟨xs,d⟩,q⟩:=g;subst e;cases n;obtain⟨its,u,p,hz⟩:=c.list d;refine adg p.isList ?_;refine⟨s1.heap.objs.size,[s1.heap.objs.size],_,_,j,rfl,c.kept (t':=s1.toks) λb o e=>Qe _ e,za a _,⟨_,QX _ rfl,rfl,rfl⟩,λb t=>?_,q⟩;have e:b=s1.heap.objs.size:=by simpa using t
 subst e;exact c.XX (Po _) (c.Pn.fresh (Po _))
theorem fK (hl:PE X l tl):PI X tg l (Lp X.K tl):=by
 intro aa s f H R I h;refine Pm (hl aa s f H _ I h) λv s1 m=>Qb m λx j c n g=>?_;obtain⟨a,e,⟨xs,d⟩,q⟩:=g;subst e;cases n;obtain⟨its,u,p,hz⟩:=c.tuple d;refine ac9 (show s1.heap.IsTuple a its.toArray from p) ?_;refine⟨s1.heap.objs.size,[s1.heap.objs.size],_,_,j,rfl,c.kept (t':=s1.toks) λb o e=>Qe _ e,xp a _,⟨_,QX _ rfl,rfl,rfl⟩,λb t=>?_,q⟩;have e:b=s1.heap.objs.size:=by simpa using t
 subst e;exact c.XX (Po _) (c.Pn.fresh (Po _))
theorem sY {X:Cx}{tg:Pr}{aa:List (f'×G')}{σ:St}{H:Hp}{s:J'}{R:It->Hp->Prop}{E:D'->J'->Prop}{lo hi:Int}{t u v:Tok}{tk:Nat}(I:Inv X aa σ H s)(h1:-(2 ^ 62)<=lo)(h2:lo<2 ^ 62)(h3:-(2 ^ 62)<=hi)(h4:hi<2 ^ 62)(q:R (Xf lo (hi-lo).toNat) H):O7 (Pb X.prog X.w) X.A (pyIter (.ref s.heap.objs.size)) (PIE X aa σ tg R) E { s with heap:=s.heap.push { cls:=.type "range",data:=.fields #[.int lo t,.int hi u,.int 1 v] },toks:=tk }:=by
 refine wpAny_pyIter_range (ζ.new ..) (small_one h1 h2 h3 h4) ?_;have c:Inv X aa σ H { s with heap:=s.heap.push { cls:=.type "range",data:=.fields #[.int lo t,.int hi u,.int 1 v] },toks:=tk }:=I.kept λb o e=>Qe _ e;refine⟨(s.heap.push { cls:=.type "range",data:=.fields #[.int lo t,.int hi u,.int 1 v] }).objs.size,[(s.heap.push { cls:=.type "range",data:=.fields #[.int lo t,.int hi u,.int 1 v] }).objs.size],_,_,H,rfl,
  c.kept (t':=tk) λb o e=>Qe _ e,xq _ lo (hi-lo).toNat,?_,λb f=>?_,q⟩
 .have g:lo+((0:Nat):Int)*1=lo:=by simp
  have d:(((hi-lo).toNat:Nat):Int)-((0:Nat):Int)=Wn lo hi 1:=by rw[rangeSize_one];split <;> lia
  show abU _ _ (lo+((0:Nat):Int)*1) ((((hi-lo).toNat:Nat):Int)-((0:Nat):Int)) 1;rw[g,d];exact QX _ rfl
 .have e:b=(s.heap.push { cls:=.type "range",data:=.fields #[.int lo t,.int hi u,.int 1 v] }).objs.size:=by simpa using f
  subst e;exact c.XX (Po _) (c.Pn.fresh (Po _))
def J3 (ta:TA):TI:=λσ H R=>ta σ H λvs H1=>∃j:Int,vs=[.int j]/\-(2 ^ 62)<=j/\j<2 ^ 62/\R (Xf 0 j.toNat) H1
def J4 (ta:TA):TI:=λσ H R=>ta σ H λvs H1=>∃i j:Int,vs=[.int i,.int j]/\(-(2 ^ 62)<=i/\i<2 ^ 62/\-(2 ^ 62)<=j/\j<2 ^ 62)/\R (Xf i (j-i).toNat) H1
theorem dF (hg:Gl X "range")(hm:X.mg "range"=none)(ha:PA X [a] ta)(hs:Qz [a] X.env=[(false,eval a X.env)]:=by rfl):PI X tg (.Call (.Name "range" p) [a] [] pos) (J3 ta):=by
 intro aa s d H R I h;refine Call_ (gX I hg hm boot_range (aac (Pm (ha pos aa s d H _ I h) λus s1 g=>Qb g λvs n c l b=>?_) hs rfl));obtain⟨j,e,b,f,q⟩:=b;subst e;cases l with
 | cons r m=>
  cases m;obtain⟨t,rfl⟩:=r;exact call_range_1 (sY c (by lia) (by lia) b f (by simpa using q))
theorem zb (hg:Gl X "range")(hm:X.mg "range"=none)(ha:PA X [a,b] ta)(hs:Qz [a,b] X.env=[(false,eval a X.env),(false,eval b X.env)]:=by rfl)(Xg:Qz [b] X.env=[(false,eval b X.env)]:=by rfl):
  PI X tg (.Call (.Name "range" p) [a,b] [] pos) (J4 ta):=by
 intro aa s g H R I h;refine Call_ (gX I hg hm boot_range (aac (Pm (ha pos aa s g H _ I h) λus s1 n=>Qb n λvs v f o c=>?_) (by rw[hs,Xg]) (by rw[Xg];rfl)));obtain⟨i,j,e,⟨c,l,m,u⟩,q⟩:=c;subst e;cases o with
 | cons r d=>
  cases d with
  | cons r' d=>
   cases d;obtain⟨t,rfl⟩:=r;obtain⟨t',rfl⟩:=r';exact call_range_2 (sY f c l m u q)
def Lq (wi:TI)(g:TG)(tb:TS):TS:=λD σ H=>wi σ H λJ H1=>∃W:Nat->Nat->St->Hp->Prop,(∃m,W 0 m σ H1)/\∀i m σ H,W i m σ H->
 (J.stop i H/\D.nx σ H)\/(J.go i H/\∃N:St->Hp->Prop,(∀Pu H',N Pu H'->∃m',m' < m/\W (i+1) m' Pu H')/\∀x H',J.Xe i H x H'->g x σ H' λRp H2=>tb { D with nx:=N,ct:=N,bk:=D.nx } Rp H2)
noncomputable def jj (fp:List f')(h:O8):List (f'×G'):=fp.filterMap λb=>(h.get? b).map λo=>(b,o)
theorem eG (hb:b∈fp)(e:h.get? b=some o):(b,o)∈jj fp h:=Us.mpr ⟨b,hb,by rw[e];rfl⟩
theorem zc (hp:p∈jj fp h):p.1∈fp/\h.get? p.1=some p.2:=by
 obtain⟨b,c,e⟩:=Us.mp hp;cases q:h.get? b with
 | none=>rw[q] at e;cases e
 | some o=>
  rw[q] at e;have d:(b,o)=p:=Sn e;subst d;exact⟨c,q⟩
theorem Inv.pinned {σ:St}(I:Inv X aa σ H s)(hf:∀b∈fp,i6 X aa H b)(ho:∀b∈fp,∃o,s.heap.get? b=some o/\∀v,o.data≠.cell v):Inv X (aa++jj fp s.heap) σ H s:=
 I.YZ λp j=>(QJ.mp j).elim (λz=>I.pin p (RA _ z)) λz=>by
  obtain⟨c,e⟩:=zc z;obtain⟨h,l,g,_⟩:=hf p.1 c;obtain⟨o,f,d⟩:=ho p.1 c;rw[e] at f;cases f;exact⟨e,h,l,g,d⟩
theorem Inv.XQ {σ:St}(I:Inv X (aa++pl) σ H s):Inv X aa σ H s:=I.YZ λp b=>I.pin p (RA _ (R8 _ b))
theorem bL (hp:PassesOwn (Pb X.prog X.w) X.A X.env X.xe)(hc:X.calm=true)(hi:PI X tg iter wi)(hg:PG X tg g)(hb:Su X body tb)(hs:∀x,foldedSetIterable iter X.env x=pure x:=by intro _;rfl):PS X (.For tg iter body [] pos) (Lq wi g tb):=by
 intro aa s σ H D I h;refine wpAny_For (Pm (hi aa s σ H _ I h) λv s1 h1=>Pm h1 λitv s2 h2=>?_) hs;obtain⟨it,E,tn,J,H2,e,I2,T,Rf,f2,W,⟨m0,w0⟩,turn⟩:=h2;subst e;have S:∀{p:Hp},(∀b∈E,p b=none)->∀b∈E,i6 X aa p b:=λhn b hb=>⟨hn b hb,(f2 b hb).2⟩
 refine codeAny_forLoop_any (λn Y=>∃i L p,Inv X aa L p Y/\tn i Y.heap/\(∀b∈E,p b=none)/\W i n L p) ?_ m0 ⟨0,σ,H2,I2,Rf,λb hb=>(f2 b hb).1,w0⟩;rintro n s3 ⟨i,F,M,I3,Sh,U,w3⟩;rcases turn i n F M w3 with⟨stop,qn⟩|⟨go,N,hN,step⟩
 .refine YI hp (Pm (T.done X rfl rfl rfl hc i aa s3 F M X.xe I3 (S U) Sh stop) λr s4 C=>?_);obtain⟨Q,I4⟩:=C;subst Q;exact aau ⟨F,M,I4,qn⟩
 .refine YI hp (Pm (T.item X rfl rfl rfl hc i aa s3 F M X.xe I3 (S U) Sh go) λr s4 C=>?_);obtain⟨u,Q,h4⟩:=C;subst Q;refine YI hp (Pm h4 λ_ s5 C=>?_);obtain⟨x,Z,I5,r5,y5,y,O⟩:=C;have P:=I5.pinned (S O) (T.obj _ _ y);refine YI hp (Pm (hg _ s5 F Z x u _ P r5 (step x Z y5)) λ_ s6 C=>?_);obtain⟨R,H6,I6,q6⟩:=C;refine YI hp (Pm (hb _ s6 R H6 _ I6 q6) λf s7 t=>?_);have again:∀{l:St}{j:Hp},Inv X (aa++jj E s5.heap) l j s7->N l j->∃m,m<n/\∃i L p,Inv X aa L p s7/\tn i s7.heap/\(∀b∈E,p b=none)/\W i m L p:=λ{l j} c G=>by
   obtain⟨m',hm,w7⟩:=hN l j G;refine⟨m',hm,i+1,l,j,c.XQ,T.keep _ _ _ y λb hb o e=>(c.pin (b,o) (RA _ (RA _ (eG hb e)))).1,λb hb=>?_,w7⟩;obtain⟨o,e,d⟩:=T.obj _ _ y b hb;exact(c.pin (b,o) (RA _ (RA _ (eG hb e)))).2.1
  cases f with
  | next=>obtain⟨l,j,c,G⟩:=t;exact again c G
  | cont=>obtain⟨l,j,c,G⟩:=t;exact again c G
  | brk=>obtain⟨l,j,c,t⟩:=t;exact⟨l,j,c.XQ,t⟩
  | ret v=>obtain⟨x7,l,j,c,r7,t⟩:=t;exact⟨x7,l,j,c.XQ,r7,t⟩
theorem cP {K:O6}{a:f'}{xs:List V}{g:TG}{tb:TS}{D:Ends}{σ:St}{H:Hp}(Pv:Nat->St->Hp->Prop)(h0:Pv 0 σ H)(hl:∀i σ H,i<=xs.length->Pv i σ H->Pg K H a xs)(hs:∀i x σ H,xs[i]?=some x->Pv i σ H->g x σ H λRp H2=>tb { D with nx:=Pv (i+1),ct:=Pv (i+1),bk:=D.nx } Rp H2)(hd:∀σ H,Pv xs.length σ H->D.nx σ H):
  ∃W:Nat->Nat->St->Hp->Prop,(∃m,W 0 m σ H)/\∀i m σ H,W i m σ H->
   ((Za K a).stop i H/\D.nx σ H)\/((Za K a).go i H/\∃N:St->Hp->Prop,(∀Pu H',N Pu H'->∃m',m' < m/\W (i+1) m' Pu H')/\∀x H',(Za K a).Xe i H x H'->g x σ H' λRp H2=>tb { D with nx:=N,ct:=N,bk:=D.nx } Rp H2):=by
 refine⟨λi m σ H=>m=xs.length-i/\i<=xs.length/\Pv i σ H,⟨xs.length,by simp,QN _,h0⟩,?_⟩;rintro i m σ H ⟨rfl,c,p⟩;have q:=hl i σ H c p
 by_cases b:i<xs.length
 .refine .inr ⟨⟨xs,xs[i],q,by simp[b]⟩,Pv (i+1),λPu H' d=>⟨xs.length-(i+1),by lia,rfl,b,d⟩,λx H' y=>?_⟩;obtain⟨e,y⟩:=y;subst e;exact hs i x σ _ (y xs q) p
 .have e:i=xs.length:=by lia
  subst e;exact .inl ⟨⟨xs,q,Po _⟩,hd σ H p⟩
theorem jk {K:O6}{a:f'}{xs:List V}{g:TG}{tb:TS}{D:Ends}{σ:St}{H:Hp}(Pv:Nat->St->Hp->Prop)(h0:Pv 0 σ H)(hl:∀i σ H,i<=xs.length->Pv i σ H->Pw K H a xs)(hs:∀i x σ H,xs[i]?=some x->Pv i σ H->g x σ H λRp H2=>tb { D with nx:=Pv (i+1),ct:=Pv (i+1),bk:=D.nx } Rp H2)(hd:∀σ H,Pv xs.length σ H->D.nx σ H):
  ∃W:Nat->Nat->St->Hp->Prop,(∃m,W 0 m σ H)/\∀i m σ H,W i m σ H->
   ((Zb K a).stop i H/\D.nx σ H)\/((Zb K a).go i H/\∃N:St->Hp->Prop,(∀Pu H',N Pu H'->∃m',m' < m/\W (i+1) m' Pu H')/\∀x H',(Zb K a).Xe i H x H'->g x σ H' λRp H2=>tb { D with nx:=N,ct:=N,bk:=D.nx } Rp H2):=by
 refine⟨λi m σ H=>m=xs.length-i/\i<=xs.length/\Pv i σ H,⟨xs.length,by simp,QN _,h0⟩,?_⟩;rintro i m σ H ⟨rfl,c,p⟩;have q:=hl i σ H c p
 by_cases b:i<xs.length
 .refine .inr ⟨⟨xs,xs[i],q,by simp[b]⟩,Pv (i+1),λPu H' d=>⟨xs.length-(i+1),by lia,rfl,b,d⟩,λx H' y=>?_⟩;obtain⟨e,y⟩:=y;subst e;exact hs i x σ _ (y xs q) p
 .have e:i=xs.length:=by lia
  subst e;exact .inl ⟨⟨xs,q,Po _⟩,hd σ H p⟩
theorem iH {lo:Int}{n:Nat}{g:TG}{tb:TS}{D:Ends}{σ:St}{H:Hp}(Pv:Nat->St->Hp->Prop)(h0:Pv 0 σ H)(hs:∀i σ H,i<n->Pv i σ H->g (.int (lo+i)) σ H λRp H2=>tb { D with nx:=Pv (i+1),ct:=Pv (i+1),bk:=D.nx } Rp H2)(hd:∀σ H,Pv n σ H->D.nx σ H):
  ∃W:Nat->Nat->St->Hp->Prop,(∃m,W 0 m σ H)/\∀i m σ H,W i m σ H->
   ((Xf lo n).stop i H/\D.nx σ H)\/((Xf lo n).go i H/\∃N:St->Hp->Prop,(∀Pu H',N Pu H'->∃m',m' < m/\W (i+1) m' Pu H')/\∀x H',(Xf lo n).Xe i H x H'->g x σ H' λRp H2=>tb { D with nx:=N,ct:=N,bk:=D.nx } Rp H2):=by
 refine⟨λi m σ H=>m=n-i/\i<=n/\Pv i σ H,⟨n,by simp,QN _,h0⟩,?_⟩;rintro i m σ H ⟨rfl,d,p⟩
 by_cases b:i<n
 .refine .inr ⟨b,Pv (i+1),λPu H' c=>⟨n-(i+1),by lia,rfl,b,c⟩,λx H' y=>?_⟩;obtain⟨e,y⟩:=y;subst e y;exact hs i σ _ b p
 .have e:i=n:=by lia
  subst e;exact .inl ⟨Po _,hd σ H p⟩
abbrev R2:=V->V->Hp->VK->Prop
def Qy (X:Cx)(f:D'->D'->Sem D')(r:R2):Prop:=
 ∀(aa:List (f'×G')) (s:J') (σ:St) (H:Hp) (x y:V) (v u:D') (Q:VK),Inv X aa σ H s->aG x v->aG y u->r x y H Q->
  O7 (Pb X.prog X.w) X.A (f v u) (EP X aa σ Q) X.xe s
def UnR (X:Cx)(f:D'->Sem D')(r:V->Hp->VK->Prop):Prop:=
 ∀(aa:List (f'×G')) (s:J') (σ:St) (H:Hp) (x:V) (v:D') (Q:VK),Inv X aa σ H s->aG x v->r x H Q->
  O7 (Pb X.prog X.w) X.A (f v) (EP X aa σ Q) X.xe s
def cR (X:Cx)(f:D')(r:List V->Hp->VK->Prop):Prop:=
 ∀(aa:List (f'×G')) (s:J') (σ:St) (H:Hp) (xs:List V) (us:List D') (Q:VK),Inv X aa σ H s->aE xs us->r xs H Q->
  O7 (Pb X.prog X.w) X.A (call f us) (EP X aa σ Q) X.xe s
def Lr (X:Cx)(r:V->Hp->(Bool->Hp->Prop)->Prop):Prop:=
 ∀(aa:List (f'×G')) (s:J') (σ:St) (H:Hp) (x:V) (v:D') (Q:Bool->Hp->Prop),Inv X aa σ H s->aG x v->r x H Q->
  O7 (Pb X.prog X.w) X.A (truthy v) (TP X aa σ Q) X.xe s
def tOp (r:R2)(ta tb:TE):TE:=λσ H Q=>ta σ H λx H1=>tb σ H1 λy H2=>r x y H2 Q
def tUn (r:V->Hp->VK->Prop)(ta:TE):TE:=λσ H Q=>ta σ H λx H1=>r x H1 Q
def rI (C:Int->Int->Prop)(g:Int->Int->V):R2:=λx y H Q=>∃i j,x=.int i/\y=.int j/\C i j/\Q (g i j) H
def VZ (g:Int->Int->V):R2:=λx y H Q=>∃i j,x=.int i/\y=.int j/\Q (g i j) H
def rU (g:Int->V):V->Hp->VK->Prop:=λx H Q=>∃i,x=.int i/\Q (g i) H
theorem Bw {X:Cx}{a:Pr}{b:Pr}{ta:TE}{tb:TE}(ha:PE X a ta)(hb:PE X b tb){aa:List (f'×G')}{s:J'}{σ:St}{H:Hp}{R:V->V->Hp->Prop}(I:Inv X aa σ H s)(h:ta σ H λx H1=>tb σ H1 λy H2=>R x y H2){Q:D'->J'->Prop}{f:D'->D'->Sem D'}(hf:∀v u s2 x y H2,Inv X aa σ H2 s2->aG x v->aG y u->R x y H2->O7 (Pb X.prog X.w) X.A (f v u) Q X.xe s2):
  O7 (Pb X.prog X.w) X.A (eval a X.env) (λv PH=>O7 (Pb X.prog X.w) X.A (eval b X.env) (λu PZ=>O7 (Pb X.prog X.w) X.A (f v u) Q X.xe PZ) X.xe PH) X.xe s:=by
 refine Pm (ha aa s σ H _ I h) λv s1 c=>Qb c λx H1 g m d=>?_;refine Pm (hb aa s1 σ H1 _ g d) λu s2 c=>Qb c λy H2 e l j=>?_;exact hf v u s2 x y H2 e m l j
theorem av (ho:Qy X (binaryOp op) r)(ha:PE X a ta)(hb:PE X b tb):PE X (.BinOp a op b pos) (tOp r ta tb):=by
 intro aa s e H Q I h;exact wpAny_BinOp (Bw ha hb I h λv u s2 x y g d f c q=>ho aa s2 e g x y v u Q d f c q)
theorem sj (ho:UnR X (unaryOp op) r)(ha:PE X a ta):PE X (.UnaryOp op a pos) (tUn r ta):=by
 intro aa s b H Q I h;exact UnaryOp_ (Pm (ha aa s b H _ I h) λv s1 f=>Qb f λx e d g c=>ho aa s1 b e x v Q d g c)
theorem opI {g:Int->Int->Int}(rule:∀(i j:Int) (t u:Tok) (s:J') (Q:D'->J'->Prop) (E:D'->J'->Prop),C i j->Q (.int (g i j) s.toks) { s with toks:=s.toks+1 }->O7 (Pb X.prog X.w) X.A (f (.int i t) (.int j u)) Q E s):
  Qy X f (rI C λi j=>.int (g i j)):=by
 intro aa s e H x y v u Q I d c h;obtain⟨i,j,rfl,rfl,b,q⟩:=h;obtain⟨t,rfl⟩:=d;obtain⟨t',rfl⟩:=c;exact rule i j t t' s _ _ b ⟨.int (g i j),H,I.tok _,⟨_,rfl⟩,q⟩
theorem xr {g:Int->Int->Int}(rule:∀(i j:Int) (t u:Tok) (s:J') (Q:D'->J'->Prop) (E:D'->J'->Prop),Q (.int (g i j) s.toks) { s with toks:=s.toks+1 }->O7 (Pb X.prog X.w) X.A (f (.int i t) (.int j u)) Q E s):
  Qy X f (VZ λi j=>.int (g i j)):=by
 intro aa s d H x y v u Q I c b h;obtain⟨i,j,rfl,rfl,q⟩:=h;obtain⟨t,rfl⟩:=c;obtain⟨t',rfl⟩:=b;exact rule i j t t' s _ _ ⟨.int (g i j),H,I.tok _,⟨_,rfl⟩,q⟩
theorem Bx {g:Int->Int->Bool}(rule:∀(i j:Int) (t u:Tok) (s:J') (Q:D'->J'->Prop) (E:D'->J'->Prop),Q (.bool (g i j)) s->O7 (Pb X.prog X.w) X.A (f (.int i t) (.int j u)) Q E s):
  Qy X f (VZ λi j=>.bl (g i j)):=by
 intro aa s d H x y v u Q I c b h;obtain⟨i,j,rfl,rfl,q⟩:=h;obtain⟨t,rfl⟩:=c;obtain⟨t',rfl⟩:=b;exact rule i j t t' s _ _ ⟨.bl (g i j),H,I,rfl,q⟩
def Ls (i j:Int):Prop:=0<j/\j<1073741824
def xt (i j:Int):Prop:=0<=j/\j<=1000000/\i.natAbs<2 ^ 64
def xu (i j:Int):Prop:=(-(2 ^ 64)<i/\i<2 ^ 64)\/(-(2 ^ 64)<j/\j<2 ^ 64)
theorem xu.ok (h:xu i j):IntMulOk i j:=by
 rcases h with⟨c,b⟩|⟨c,b⟩
 .exact .of_left (intBits_le_64 c b)
 .exact .of_right (intBits_le_64 c b)
theorem xw (k:Nat):(0:Int)<=2 ^ k:=by
 rw[two_pow_cast];exact Int.natCast_nonneg _
theorem bT:Qy X (binaryOp .Add) (VZ λi j=>.int (i+j)):=xr λ_ _ _ _ _ _ _ q=>add_int q
theorem bM:Qy X (binaryOp .Sub) (VZ λi j=>.int (i-j)):=xr λ_ _ _ _ _ _ _ q=>sub_int q
theorem e8:Qy X (binaryOp .Mult) (rI xu λi j=>.int (i*j)):=opI λ_ _ _ _ _ _ _ b q=>mul_int q b.ok
theorem fS:Qy X (binaryOp .FloorDiv) (rI Ls λi j=>.int (i / j)):=opI λi j _ _ _ _ _ b q=>by
 have d:(0:Int)<j:=b.1;have c:j<1073741824:=b.2;exact floordiv_int (by lia) (by rw[aeV i (by lia)];exact q) (.inl (PyProof.noPylong_small (by lia)))
theorem cL:Qy X (binaryOp .Mod) (rI (λ_ j=>0<j) λi j=>.int (i % j)):=opI λi j _ _ _ _ _ b q=>by
 have c:(0:Int)<j:=b;exact mod_int' (by lia) (by rw[Int.fmod_eq_emod_of_nonneg i (by lia)];exact q)
theorem gY:Qy X (binaryOp .LShift) (rI xt λi j=>.int (i*2 ^ j.toNat)):=opI λ_ _ _ _ _ _ _ b q=>lshift_int_small b.1 b.2.1 b.2.2 q
theorem sZ:Qy X (binaryOp .RShift) (rI (λ_ j=>0<=j) λi j=>.int (i / 2 ^ j.toNat)):=opI λi j _ _ _ _ _ b q=>
 rshift_int b (by rw[aeV i (xw _)];exact q)
theorem kb:Qy X (binaryOp .BitAnd) (VZ λi j=>.int (UO i j)):=xr λ_ _ _ _ _ _ _ q=>and_int q
theorem De:Qy X (binaryOp .BitOr) (VZ λi j=>.int (XF i j)):=xr λ_ _ _ _ _ _ _ q=>or_int q
theorem unI {g:Int->Int}(rule:∀(i:Int) (t:Tok) (s:J') (Q:D'->J'->Prop) (E:D'->J'->Prop),Q (.int (g i) s.toks) { s with toks:=s.toks+1 }->O7 (Pb X.prog X.w) X.A (f (.int i t)) Q E s):
  UnR X f (rU λi=>.int (g i)):=by
 intro aa s c H x v Q I b h;obtain⟨i,rfl,q⟩:=h;obtain⟨t,rfl⟩:=b;exact rule i t s _ _ ⟨.int (g i),H,I.tok _,⟨_,rfl⟩,q⟩
theorem nS:UnR X (unaryOp .USub) (rU λi=>.int (-i)):=unI λ_ _ _ _ _ q=>neg_int q
noncomputable def FR:V->V->Bool
 | .int _,.int _=>true | .bl _,.bl _=>true | .str _,.str _=>true
 | _,_=>false
def rEq:R2:=λx y H Q=>FR x y=true/\Q (.bl (decide (x=y))) H
def rNe:R2:=λx y H Q=>FR x y=true/\Q (.bl (!decide (x=y))) H
theorem vL:decide (V.int i=V.int j)=(i==j):=by
 rw[Wz];simp
theorem zd:decide (V.bl i=V.bl j)=(i==j):=by
 rw[Wz];simp
theorem vM:decide (V.str i=V.str j)=(i==j):=by
 rw[Wz];simp
theorem gZ {σ:St}(I:Inv X aa σ H s)(q:Q (.bl k) H)(e:k=k'):EP X aa σ Q (.bool k') s:=by
 subst e;exact⟨.bl k,H,I,rfl,q⟩
theorem cY:Qy X (RD .Eq) rEq:=by
 intro aa s e H x y v u Q I c b h;obtain⟨d,q⟩:=h;cases x <;> cases y <;> first|exact Pp (show false=true from d) Rt|skip
 .cases c;cases b;exact eq_bool (gZ I q zd)
 .obtain⟨t,rfl⟩:=c;obtain⟨t',rfl⟩:=b;exact eq_int (gZ I q vL)
 .obtain⟨t,rfl⟩:=c;obtain⟨t',rfl⟩:=b;exact eq_str (gZ I q vM)
theorem iI:Qy X (RD .NotEq) rNe:=by
 intro aa s e H x y v u Q I c b h;obtain⟨d,q⟩:=h;cases x <;> cases y <;> first|exact Pp (show false=true from d) Rt|skip
 .cases c;cases b;exact ne_bool (gZ I q (congrArg not zd))
 .obtain⟨t,rfl⟩:=c;obtain⟨t',rfl⟩:=b;exact ne_int (gZ I q (congrArg not vL))
 .obtain⟨t,rfl⟩:=c;obtain⟨t',rfl⟩:=b;exact ne_str (gZ I q (congrArg not vM))
theorem lI:Qy X (RD .Lt) (VZ λi j=>.bl (decide (i<j))):=Bx λ_ _ _ _ _ _ _ q=>lt_int q
theorem xx:Qy X (RD .LtE) (VZ λi j=>.bl (decide (i<=j))):=Bx λ_ _ _ _ _ _ _ q=>le_int q
theorem xy:Qy X (RD .Gt) (VZ λi j=>.bl (decide (j<i))):=Bx λ_ _ _ _ _ _ _ q=>gt_int q
theorem tf:Qy X (RD .Is) (λx y H Q=>y=.Qt/\Q (.bl (decide (x=.Qt))) H):=by
 intro aa s d H x y v u Q I b c h;obtain⟨rfl,q⟩:=h;cases c;refine is_none_gen (gZ I q ?_);cases x <;> first
  | (cases b;rfl)
  | (obtain⟨t,rfl⟩:=b;rfl)
theorem aW (b)(h:op≠.In:=by decide)(h2:op≠.NotIn:=by decide):behindInMarks op b=false:=by
 have c:(op==CmpOp.In)=false:=by cases op <;> first|rfl|exact Pp rfl h
 have d:(op==CmpOp.NotIn)=false:=by cases op <;> first|rfl|exact Pp rfl h2
 cases b <;> simp[behindInMarks,c,d]
theorem gQ (ho:Qy X (RD op) r)(ha:PE X a ta)(hb:PE X b tb)(hm:behindInMarks op b=false):PE X (.Compare a [op] [b] pos) (tOp r ta tb):=by
 intro aa s e H Q I h;exact wpAny_Compare1 (Bw ha hb I h λv u s2 x y g d f c q=>ho aa s2 e g x y v u Q d f c q) hm
def Dg (t:TE):TT:=λσ H Q=>t σ H λx H'=>∃k,x=.bl k/\Q k H'
theorem aP (ho:Qy X (RD op) r)(ha:PE X a ta)(hb:PE X b tb)(hm:behindInMarks op b=false):PT X (.Compare a [op] [b] pos) (Dg (tOp r ta tb)):=by
 intro aa s d H Q I h;refine wpAny_isTrue_Compare1 (Pm (ha aa s d H _ I h) λv s1 f=>Qb f λx t g A p=>Pm (hb aa s1 d t _ g p) λu s2 f=>Qb f λy j m w n=>
  Pm (ho aa s2 d j x y v u _ m A w n) λc s3 ⟨z,l,D,C,k,e,o⟩=>?_) hm
 subst e;cases C;exact Ut ⟨l,D,o⟩
def ze (r r':R2)(ta tb tc:TE):TE:=λσ H Q=>ta σ H λx H1=>tb σ H1 λy H2=>r x y H2 λz H3=>∃k,z=.bl k/\
 (if k=true then tc σ H3 λw' H4=>r' y w' H4 Q else Q (.bl false) H3)
theorem Bz (ho:Qy X (RD op) r)(Q4:Qy X (RD Yb) r')(ha:PE X a ta)(hb:PE X b tb)(hc:PE X c tc)(hm:lastMarks [op,Yb] [b,c]=false:=by with_unfolding_all rfl):PE X (.Compare a [op,Yb] [b,c] pos) (ze r r' ta tb tc):=by
 intro aa s f H Q I h;refine Compare_chain (Pm (ha aa s f H _ I h) λv s1 g=>Qb g λx F p J E=>chain_link (Pm (hb aa s1 f F _ p E) λu s2 g=>Qb g λy t A m C=>
  Pm (ho aa s2 f t x y v u _ A J m C) λd s3 ⟨z,j,n,L,k,e,l⟩=>?_)) hm
 subst e;cases L;refine Ut ?_;cases k with
 | false=>exact ite_ff ⟨.bl false,j,n,rfl,l⟩
 | true=>exact ite_tt (chain_last (Pm (hc aa s3 f j _ n l) λN s4 ⟨D,G,w,o,M⟩=>Q4 aa s4 f G y D u N Q w m o M))
theorem mQ (ho:Qy X (RD op) r)(Q4:Qy X (RD Yb) r')(ha:PE X a ta)(hb:PE X b tb)(hc:PE X c tc)(hm:lastMarks [op,Yb] [b,c]=false:=by with_unfolding_all rfl):PT X (.Compare a [op,Yb] [b,c] pos) (Dg (ze r r' ta tb tc)):=by
 intro aa s f H Q I h;refine isTrue_chain (Pm (ha aa s f H _ I h) λv s1 g=>Qb g λx O w R M=>test_link (Pm (hb aa s1 f O _ w M) λu s2 g=>Qb g λy A F m G=>
  Pm (ho aa s2 f A x y v u _ F R m G) λd s3 ⟨z,j,n,S,k,e,l⟩=>?_)) hm
 subst e;cases S;refine Ut ?_;cases k with
 | false=>
  obtain⟨Z,t,W⟩:=l;cases t;exact ite_ff ⟨j,n,W⟩
 | true=>
  refine ite_tt (test_last (Pm (hc aa s3 f j _ n l) λU s4 ⟨J,P,C,p,T⟩=>Pm (Q4 aa s4 f P y J u U _ C m p T) λd' s5 ⟨Y,N,E,L,k2,o,D⟩=>?_));subst o;cases L;exact Ut ⟨N,E,D⟩
def FT (K:O6)(x:V)(H:Hp)(k:Bool):Prop:=
 match x with
 | .Qt=>k=false
 | .bl b=>k=b
 | .int i=>k=(i != 0)
 | .str y=>y.length<=Pj/\k=((y.length:Int) != 0)
 | .Y7 y=>y.size<=Pj/\k=((y.size:Int) != 0)
 | .ref p=>(∃xs,Pg K H p xs/\k=!xs.isEmpty)\/(∃xs,Pw K H p xs/\k=!xs.isEmpty)\/∃kvs,H p=some (.dK kvs)/\k=!kvs.isEmpty
 | _=>False
theorem xz {κ:Type}{kvs:List (κ×V)}{vs:List (κ×D')}(r:KV kvs vs):(!vs.isEmpty)=!kvs.isEmpty:=by
 cases r <;> rfl
theorem nT (r:aE xs its):(!its.toArray.isEmpty)=!xs.isEmpty:=by
 cases r <;> simp
theorem jm:(Pj:Nat)<2 ^ 63:=by rw[PY];decide
theorem FU:Lr X (λx H Q=>∃k,FT X.K x H k/\Q k H):=by
 intro aa s j H x v Q I d h;obtain⟨k,e,q⟩:=h;have g:=jm;have l:Pj=16777216:=PY;cases x with
 | Qt=>
  cases d;have c:k=false:=e;subst c;exact truthy_none ⟨H,I,q⟩
 | bl b=>
  cases d;have c:k=b:=e;subst c;exact Ut ⟨H,I,q⟩
 | int i=>
  obtain⟨t,rfl⟩:=d;have c:k=(i != 0):=e;subst c;exact PySem.P.truthy_int ⟨H,I,q⟩
 | str y=>
  obtain⟨t,rfl⟩:=d;obtain⟨hy,c⟩:y.length<=Pj/\k=((y.length:Int) != 0):=e;subst c;exact PySem.P.truthy_str (by lia) ⟨H,I.tok _,q⟩
 | Y7 y=>
  obtain⟨t,rfl⟩:=d;obtain⟨hy,c⟩:y.size<=Pj/\k=((y.size:Int) != 0):=e;subst c;exact W.truthy_bytes (by lia) ⟨H,I.tok _,q⟩
 | ref p=>
  cases d;have c:(∃xs,Pg X.K H p xs/\k=!xs.isEmpty)\/(∃xs,Pw X.K H p xs/\k=!xs.isEmpty)\/∃kvs,H p=some (.dK kvs)/\k=!kvs.isEmpty:=e;rcases c with⟨xs,f,c⟩|⟨xs,f,c⟩|⟨kvs,f,c⟩
  .subst c;obtain⟨its,r,pl,hz⟩:=I.list f;have hlen:=r.length;exact wpAny_truthy_list pl.isList (by simp only[Qv];lia) ⟨H,I.tok _,by rw[nT r];exact q⟩
  .subst c;obtain⟨its,r,pl,hz⟩:=I.tuple f;have hlen:=r.length;exact truthy_tuple pl (by simp only[Qv];lia) ⟨H,I.tok _,by rw[nT r];exact q⟩
  .subst c;obtain⟨hz,hS,vs,r,m⟩:kvs.length<=Pj/\(p==SW)=false/\∃vs,KV kvs vs/\s.heap.DictOf (bu X.prog X.w) p vs:=I.Pn p _ f;have hlen:kvs.length=vs.length:=ZX r;exact wpAny_truthy_dict hS m (by lia) ⟨H,I.tok _,by rw[xz r];exact q⟩
 | _=>exact(show False from e).elim
theorem tj (ha:PE X a ta)(he:∀whole,isTrue a X.env whole=(do let v <-whole;standAt a.pos;holding [v] (truthy v))):
  PT X a (λσ H Q=>ta σ H λx H'=>∃k,FT X.K x H' k/\Q k H'):=by
 intro aa s σ H Q I h;exact isTrue_plain (Pm (ha aa s σ H _ I h) λv s1 e=>Qb e λx d c f b=>FU aa s1 σ d x v Q c f b) (he _)
theorem dH (r:aE [x] us):∃u,us=[u]/\aG x u:=by
 cases r with
 | cons c b=>cases b;exact⟨_,rfl,c⟩
structure XY (h:O8)(x dx C:f')(mA:N'->Option D'):Prop where
 obj:h.get? x=some (XO C dx)
 ns:h.Ns1 dx mA
 ne:dx≠x
theorem zf {h:O8}(n:h.Ns1 dx mA):∃od,h.get? dx=some od/\∀name,W.lookIn name od=some (mA name):=by
 obtain⟨o,es,ep,g,hd,f,_,d⟩:=n;refine⟨o,g,λname=>?_⟩;have e:=d name;unfold nsFind findBy at e;rw[<-Array.find?_toList] at e;unfold W.lookIn;rw[hd];dsimp only
 split
 .rename_i y q;rw[q] at e;exact congrArg some e
 .rename_i q;rw[q] at e;have a:es.toList.any (·.refKey)=false:=by
   rw[List.any_eq_false];intro y b;obtain⟨z,t,j⟩:=f y (ac3.mp b);simp[Rc.refKey,j]
  have c:¬es.toList.any (·.refKey)=true:=by rw[a];exact Rt
  rw[O9 c];exact congrArg some e
theorem XY.look (I:XY h x dx C mA):∃od,W.InstAt h x (XO C dx) C (some od)/\∀name,W.lookIn name od=some (mA name):=
 let ⟨od,ho,hl⟩:=zf I.ns
 ⟨od,⟨I.obj,rfl,rfl,ho⟩,hl⟩
theorem Ea {K:O6}(X:K.In s.heap)(I:XY s.heap x dx C mA)(hg:aaI K C name=true)(hh:abV K C=true)(ha:R' K (.ref C) name=some none)(hv:mA name=some v)(hv':W.handedIn v=true)(h:Q v { s with toks:=s.toks+1 }):
  O7 (Pb prog w) A (getAttr (.ref x) name expr) Q E s:=by
 obtain⟨od,J,b⟩:=I.look;exact W.get_value X J (adK hg).1 (W.findObj_own hh ha rfl (by rw[b,hv])) hv' h
theorem BA {K:O6}(X:K.In s.heap)(I:XY s.heap x dx C mA)(hg:aaI K C name=true)(hf:R' K (.ref C) name=some (some (.ref f)))(ht:W.isFn K (.ref f)=true)(hv:mA name=none)(h:Q (.ref f,[.ref x]) s):
  O7 (Pb prog w) A (getMethod (.ref x) name pl) Q E s:=by
 obtain⟨od,J,b⟩:=I.look;exact W.method_fn X J (adK hg).1 (adK hg).2 hf (beq_iff_eq.mp ht) (by show(W.lookIn name od).map (·.isSome)=some false;rw[b,hv];rfl) h
theorem Eb {K:O6}(X:K.In s.heap)(I:XY s.heap x dx C mA)(hs:R' K (.ref C) "__setattr__"=some (some (.builtin "object.__setattr__")))(hp:W.plainOver K C=true)(ht:W.takerIn K C name=some none)(hh:abV K C=true)(hw:adQ mA ns)(hsz:ns.length<=Pj)(h:∀h',XY h' x dx C (λy=>if y=name then some v else mA y)->Tz dx s.heap h'->Q () { s with heap:=h',toks:=s.toks+2 }):
  O7 (Pb prog w) A (setAttr (.ref x) name v) Q E s:=by
 obtain⟨od,J,p⟩:=I.look;refine W.set_plain X J hs (W.osa_open (s:={ s with toks:=s.toks+1 }) (r:=none) X J hp ht λb=>?_);obtain⟨t,n,j⟩:=W.any_some hh;have o:s.heap.get? x=some ⟨.ref C,some dx,.plain,#[]⟩:=I.obj;refine O4 (Pa (O4 (O4 (wpAny_loadPart o (O4 (W.Looks.here (s:={ s with toks:=s.toks+1 }) (W.looks_clsIn X n) ?_))))));rw[j];refine Pa (a:=some dx) (O4 (Pa (O4 ?_)));refine wpAny_nsSet1 (s:={ s with toks:=s.toks+1 }) I.ns λh' c g=>?_;obtain⟨u,l,m,d,f,e⟩:=c.count (adQ.cons name v hw);refine O4 (wpAny_lookBehind d (by rw[f];exact pastItsLine_dict (RC e (by rw[Q0];lia))) ?_);exact Pa (h _ ⟨(g.2 _ (Qi I.ne)).trans I.obj,c,I.ne⟩ g)
theorem BB {K:O6}(X:K.In s.heap)(hm:W.makesIn K C=true)(hi:R' K (.ref C) "__init__"=some (some (.ref f)))(hf:Vc K (.ref f)=some (.type "function"))(h:codeAny (Pb prog w) (A.under (.builtin "type.__call__" ⟨.ref C::vs,kw⟩)) (.call (.ref f) ⟨.ref (s.heap.objs.size+1)::vs,kw⟩) (W.InitBack (s.heap.objs.size+1) R)
   { s with heap:=(s.heap.push WU).push (XO C s.heap.objs.size) }):
  codeAny (Pb prog w) A (.call (.ref C) ⟨vs,kw⟩) R s:=by
 obtain⟨b,g,d,t,os⟩:=s;exact W.make_core (W.makes_of X hm) (abG X hi) (λself=>W.bind_fn X self hf) (.inl rfl) h
noncomputable def eT (f:N')(v:V):List (N'×V)->List (N'×V)
 | []=>[(f,v)]
 | (g,x)::r=>if g=f then (g,v)::r else (g,x)::eT f v r
theorem mB (f g)(v):∀fs:List (N'×V),(eT f v fs).lookup g=if g=f then some v else fs.lookup g
 | []=>by
  show VM g [(f,v)]=_
  by_cases h:g=f
  .have b:(g==f)=true:=beq_iff_eq.mpr h;simp only[VM,b,Pf h]
  .have b:(g==f)=false:=beq_eq_false_iff_ne.mpr h;simp only[VM,b,O9 h]
 | (k,x)::r=>by
  have d:=mB f g v r;rw[show eT f v ((k,x)::r)=(if k=f then (k,v)::r else (k,x)::eT f v r) from rfl]
  by_cases c:k=f
  .rw[Pf c]
   by_cases h:g=k
   .have b:(g==k)=true:=beq_iff_eq.mpr h;simp only[VM,b,Pf (h.trans c)]
   .have b:(g==k)=false:=beq_eq_false_iff_ne.mpr h;simp only[VM,b,O9 (λe:g=f=>h (e.trans c.symm))]
  .rw[O9 c]
   by_cases h:g=k
   .have b:(g==k)=true:=beq_iff_eq.mpr h;simp only[VM,b,O9 (λe:g=f=>c (h.symm.trans e))]
   .have b:(g==k)=false:=beq_eq_false_iff_ne.mpr h;simp only[VM,b];exact d
theorem ke (f)(v):∀fs:List (N'×V),f∈(eT f v fs).map (·.1)/\∀g,g∈fs.map (·.1)->g∈(eT f v fs).map (·.1)
 | []=>⟨by simp[eT],λg h=>by simp at h⟩
 | (k,x)::r=>by
  obtain⟨d,c⟩:=ke f v r;rw[show eT f v ((k,x)::r)=(if k=f then (k,v)::r else (k,x)::eT f v r) from rfl]
  by_cases b:k=f
  .rw[Pf b];subst b;exact⟨by simp,λg h=>by simpa using h⟩
  .rw[O9 b];refine⟨?_,λg h=>?_⟩
   .rw[Qr];exact PU _ d
   .rw[Qr] at h ⊢;rcases PN.mp h with e|e
    .exact PN.mpr (.inl e)
    .exact PU _ (c g e)
theorem mD (f)(v):∀fs:List (N'×V),(eT f v fs).length<=fs.length+1
 | []=>by simp[eT]
 | (k,x)::r=>by
  have c:=mD f v r;rw[show eT f v ((k,x)::r)=(if k=f then (k,v)::r else (k,x)::eT f v r) from rfl]
  by_cases b:k=f
  .rw[Pf b,Q0,Q0];lia
  .rw[O9 b,Q0,Q0];lia
theorem eR.some_of (r:eR (some v) o):∃u,o=some u/\aG v u:=by
 cases o with
 | none=>exact(show False from r).elim
 | some u=>exact⟨u,rfl,r⟩
theorem eR.none_of (r:eR none o):o=none:=by
 cases o with
 | none=>rfl
 | some u=>exact(show False from r).elim
theorem zg (r:aG v u):W.handedIn u=true:=by
 cases v with
 | Qt=>cases (show u=Ua from r);rfl
 | bl b=>cases (show u=UP b from r);rfl
 | int i=>obtain⟨t,e⟩:=(show ∃t,u=R0 i t from r);cases e;rfl
 | str x=>obtain⟨t,e⟩:=(show ∃t,u=aaK x t from r);cases e;rfl
 | Y7 b=>obtain⟨t,e⟩:=(show ∃t,u=D'.bytes b t from r);cases e;rfl
 | X5 b=>obtain⟨t,e⟩:=(show ∃t,u=adZ b t from r);cases e;rfl
 | ref a=>cases (show u=Qg a from r);rfl
 | ty n=>cases (show u=TD n from r);rfl
theorem lJ (Pn:Q2 P w H h)(e:H a=some (.ins C dx fs)):∃mA,XY h a dx C mA/\(∀f,eR (fs.lookup f) (mA f))/\adQ mA (fs.map (·.1))/\fs.length<=1000/\H dx=some (.own a):=by
 obtain⟨d,z,ne,ob,mA,n,r,q⟩:=(show bq P w H h a (.ins C dx fs) from Pn a _ e)
 exact⟨mA,⟨ob,n,ne⟩,r,q,z,d⟩
structure Vl (K)(C:f'):Prop where
 pg:aaI K C N'.empty=true
 hd:abV K C=true
 po:W.plainOver K C=true
 sa:R' K (.ref C) "__setattr__"=some (some (.builtin "object.__setattr__"))
theorem Vl.get {K:O6}(c:Vl K C)(f:N'):aaI K C f=true:=c.pg
def gu (K:O6)(C:f')(f:N'):Prop:=R' K (.ref C) f=some none
theorem gu.afS {K:O6}(n:gu K C f):W.takerIn K C f=some none:=by
 unfold W.takerIn;rw[show R' K (.ref C) f=some none from n];rfl
structure W' (K)(C:f')(m)(f:f'):Prop where
 at_:R' K (.ref C) m=some (some (.ref f))
 fn:W.isFn K (.ref f)=true
 kp:WX K (.ref f)=true
theorem xA {σ:St}(I:Inv X aa σ H s)(e:H a=some (.ins C dx fs))(c:Vl X.K C)(n:gu X.K C f)(l:fs.lookup f=some v)(h:∀u s',Inv X aa σ H s'->aG v u->Q u s'):O7 (Pb X.prog X.w) A (getAttr (.ref a) f b) Q E s:=by
 obtain⟨g,O,r,_,_,_⟩:=lJ I.Pn e;obtain⟨u,j,d⟩:=eR.some_of (v:=v) (o:=g f) (by rw[<-l];exact r f);exact Ea I.Q9 O (c.get f) c.hd n j (zg d) (h u _ (I.tok _) d)
theorem xB {σ:St}(I:Inv X aa σ H s)(e:H a=some (.ins C dx fs))(c:Vl X.K C)(k:W' X.K C m g)(l:fs.lookup m=none)(h:Q (.ref g,[.ref a]) s):O7 (Pb X.prog X.w) A (getMethod (.ref a) m pl) Q E s:=by
 obtain⟨b,O,r,_,_,_⟩:=lJ I.Pn e;have d:b m=none:=eR.none_of (by rw[<-l];exact r m);exact BA I.Q9 O (c.get m) k.at_ k.fn d h
theorem xC {σ:St}(I:Inv X aa σ H s)(e:H a=some (.ins C dx fs))(c:Vl X.K C)(n:gu X.K C f)(hl:fs.length<1000)(ry:aG y u)(h:∀s',Inv X aa σ (upd H a (.ins C dx (eT f y fs))) s'->Q () s'):O7 (Pb X.prog X.w) A (setAttr (.ref a) f u) Q E s:=by
 obtain⟨j,O,r,l,_,m⟩:=lJ I.Pn e;have hz:(fs.map (·.1)).length<=Pj:=by rw[PP,PY];lia
 refine Eb I.Q9 O c.sa c.po n.afS c.hd l hz λh' d sb=>h _ ?_;have hd:∃o,h'.get? dx=some o:=let ⟨o,_,_,e',_⟩:=d.ns;⟨o,e'⟩;refine I.write (x:=a) (e:=dx) (by rw[e];exact SG) (.inr m) (λb q p z=>(sb.2 b p).trans z) hd ?_;refine⟨by rw[aq O.ne];exact m,?_,O.ne,d.obj,_,d.ns,λg=>?_,λg t=>?_⟩
 .have:=mD f y fs;lia
 .show eR ((eT f y fs).lookup g) (if g=f then some u else j g);rw[mB]
  by_cases q:g=f
  .rw[Pf q,Pf q];exact ry
  .rw[O9 q,O9 q];exact r g
 .by_cases q:g=f
  .rw[q];exact(ke f y fs).1
  .refine(ke f y fs).2 g (l g λz=>t ?_);show(if g=f then some u else j g)=none;rw[O9 q];exact z
theorem Inv.made {σ:St}(I:Inv X aa σ H s):Inv X aa σ (upd (upd H s.heap.objs.size (.own (s.heap.objs.size+1))) (s.heap.objs.size+1) (.ins C s.heap.objs.size []))
  { s with heap:=(s.heap.push WU).push (XO C s.heap.objs.size) }:=by
 have c:(s.heap.push WU).get? s.heap.objs.size=some WU:=QX s.heap rfl;have f:((s.heap.push WU).push (XO C s.heap.objs.size)).get? (s.heap.objs.size+1)=some (XO C s.heap.objs.size):=by
  have:=QX (s.heap.push WU) (o:=XO C s.heap.objs.size) rfl;rwa[YN] at this
 have j:(s.heap.push WU).Ns s.heap.objs.size (λ_=>none):=⟨WU,#[],_,c,rfl,(λe d=>Pp d (by simp)),λ_=>rfl⟩
 have h:=I.laid (a:=s.heap.objs.size) (o:=.own (s.heap.objs.size+1)) (h':=s.heap.push WU) (t':=s.toks) (λb u q=>Qe _ q) (Po _) ⟨_,c⟩;refine h.laid (a:=s.heap.objs.size+1) (o:=.ins C s.heap.objs.size []) (t':=s.toks) (λb u q=>Qe _ q) (abN (YN _ _)) ?_;have ne:s.heap.objs.size≠s.heap.objs.size+1:=Qs (ZS _);refine⟨by rw[aq ne,ag],QN _,ne,f,λ_=>none,(O8.Ns1.of_empty j).at λo q=>Qe _ q,λ_=>SG,λy g=>Pp rfl g⟩
theorem Ec (hb:attributeBase e f env (eval e env)=eval e env)(h:O7 (Pb prog w) A (eval e env) (λo PH=>O7 (Pb prog w) A (getAttr o f true) Q E PH) E s):O7 (Pb prog w) A (eval (.Attribute e f pos) env) Q E s:=
 Attribute_any_ h (by rw[arm_eval_Attribute,hb])
def Lu (K:O6)(ta:TE)(f:N'):TE:=λσ H Q=>ta σ H λx H1=>∃a C dx fs v,x=.ref a/\H1 a=some (.ins C dx fs)/\Vl K C/\gu K C f/\fs.lookup f=some v/\Q v H1
def Lv (K:O6)(ta tv:TE)(f:N'):TS:=λD σ H=>tv σ H λy H1=>ta σ H1 λx H2=>∃a C dx fs,x=.ref a/\H2 a=some (.ins C dx fs)/\Vl K C/\gu K C f/\fs.length<1000/\
 D.nx σ (upd H2 a (.ins C dx (eT f y fs)))
theorem hG (he:PE X e ta)(hb:attributeBase e f X.env (eval e X.env)=eval e X.env):PE X (.Attribute e f pos) (Lu X.K ta f):=by
 intro aa s g H Q I h;refine Ec hb (Pm (he aa s g H _ I h) λu s1 j=>?_);obtain⟨x,o,d,p,a,C,y,fs,v,ex,b,c,n,l,q⟩:=j;subst ex;obtain rfl:u=Qg a:=p;exact xA d b c n l λw s2 m t=>⟨v,o,m,t,q⟩
theorem zh (ha:PE X o ta)(hv:PE X value tv)(hs:swapsWith value (some (.Attribute o f pos')) pos.line X.env=pure false):PS X (.Assign [.Attribute o f pos'] value pos) (Lv X.K ta tv f):=by
 intro aa s b H D I h;refine plainObj_wpAny_Assign_Attribute (Pm (hv aa s b H _ I h) λu s1 w=>Qb w λy t e p q=>Pm (ha aa s1 b t _ e q) λA s2 g=>?_) hs;obtain⟨x,F,j,v,a,C,G,fs,ex,d,c,n,l,m⟩:=g;subst ex;obtain rfl:A=Qg a:=v;exact xC j d c n l p λs3 E=>⟨b,_,E,m⟩
inductive Ue (K:O6)(H:Hp):V->D'->Prop where
 | Qt:Ue K H .Qt (.type "NoneType")
 | bl (x:Bool):Ue K H (.bl x) (.type "bool")
 | int (i:Int):Ue K H (.int i) (.type "int")
 | str (x:N'):Ue K H (.str x) (.type "str")
 | X5 (x:UInt64):Ue K H (.X5 x) (.type "float")
 | lst {a:f'}{xs:List V}(e:H a=some (.lst xs)):Ue K H (.ref a) (.type "list")
 | Q8 {a:f'}{o:G'}{xs:List V}(e:H a=some (.Q8 o (.lst xs))):Ue K H (.ref a) (.type "list")
 | tup {a:f'}{xs:List V}(e:H a=some (.tup xs)):Ue K H (.ref a) (.type "tuple")
 | dK {a:f'}{kvs:List (Key×V)}(e:H a=some (.dK kvs)):Ue K H (.ref a) (.type "dict")
 | dT {a:f'}{kvs:List (List Key×V)}(e:H a=some (.dT kvs)):Ue K H (.ref a) (.type "dict")
 | ins {a C dx:f'}{fs:List (N'×V)}(e:H a=some (.ins C dx fs)) (cl:Vl K C) (ha:R' K (.ref C) "__class__"=some (some (.builtin "object.__class__")))
   (hn:W.specialIn K (.builtin "object.__class__") "__get__"=some (some (.builtin "getset_descriptor.__get__"))) (htk:W.takesIn K (.builtin "object.__class__")=some true)
   (hm:Rj K C (.type "object")=some true):Ue K H (.ref a) (.ref C)
theorem zi {σ:St}(I:Inv X aa σ H s)(rx:aG x u)(ty:Ue X.K H x t)(e:UB X.K t c=some b)(h:∀tk,Q (.bool b) { s with toks:=tk }):
  O7 (Pb X.prog X.w) A (call (.builtin "isinstance") [u,c]) Q E s:=by
 cases ty with
 | Qt=>cases (show u=Ua from rx);exact Ub W.kitx_none I.Q9 SG e (λz=>nomatch z) h
 | bl y=>cases (show u=UP y from rx);exact Ub W.kitx_bool I.Q9 SG e (λz=>nomatch z) h
 | int i=>obtain⟨t,q⟩:=(show ∃t,u=R0 i t from rx);cases q;exact Ub W.kitx_int I.Q9 SG e (λz=>nomatch z) h
 | str y=>obtain⟨t,q⟩:=(show ∃t,u=aaK y t from rx);cases q;exact Ub W.kitx_str I.Q9 SG e (λz=>nomatch z) h
 | X5 y=>obtain⟨t,q⟩:=(show ∃t,u=adZ y t from rx);cases q;exact Ub W.kitx_float I.Q9 SG e (λz=>nomatch z) h
 | @lst a xs d=>
  cases (show u=Qg a from rx);obtain⟨_,_,n,_,f⟩:=(show bq X.prog X.w H s.heap a (.lst xs) from I.Pn a _ d)
  exact Ub W.kitx_list I.Q9 ⟨_,f,rfl⟩ e (λz=>nomatch z) h
 | @Q8 a ob xs d=>
  cases (show u=Qg a from rx);obtain⟨_,_,_,n,_,f⟩:=(show bq X.prog X.w H s.heap a (.Q8 ob (.lst xs)) from I.Pn a _ d)
  exact Ub W.kitx_list I.Q9 ⟨_,f,rfl⟩ e (λz=>nomatch z) h
 | @tup a xs d=>
  cases (show u=Qg a from rx);obtain⟨_,_,_,p⟩:=(show bq X.prog X.w H s.heap a (.tup xs) from I.Pn a _ d)
  obtain⟨o,f,g,_⟩:=p;exact Ub W.kitx_tuple I.Q9 ⟨o,f,g⟩ e (λz=>nomatch z) h
 | @dK a kvs d=>
  cases (show u=Qg a from rx);obtain⟨_,_,vs,_,p⟩:=(show bq X.prog X.w H s.heap a (.dK kvs) from I.Pn a _ d)
  obtain⟨o,es,ep,f,g,_⟩:=p;exact Ub W.kitx_dict I.Q9 ⟨o,f,g.1⟩ e (λz=>nomatch z) h
 | @dT a kvs d=>
  cases (show u=Qg a from rx);obtain⟨_,_,xs,_,o,es,ep,f,g,_⟩:=(show bq X.prog X.w H s.heap a (.dT kvs) from I.Pn a _ d)
  exact Ub W.kitx_dict I.Q9 ⟨o,f,g.1⟩ e (λz=>nomatch z) h
 | @ins a C F fs d cl m v j l=>
  cases (show u=Qg a from rx);obtain⟨D,O,_⟩:=lJ I.Pn d;obtain⟨od,J,_⟩:=O.look;exact Ub (W.kitx_own (cl.get _) cl.hd m v j l) I.Q9 J e (λz=>nomatch z) h
structure O5 (k:Nat)(A:Pz):Prop where
 hd:A.handled=none
 dp:A.depth+3*k+5<recursionLimit
 un:A.units+16*k+200<PK
 gd:A.guards=some []
theorem O5.mono (r:O5 k A)(h:j<=k):O5 j A:=⟨r.hd,by have:=r.dp;lia,by have:=r.un;lia,r.gd⟩
theorem O5.deeper (r:O5 (k+1) A)(env):O5 k (A.deeper env):=
 ⟨r.hd,by have:=r.dp;show A.depth+1+3*k+5<_;lia,by have:=r.un;show A.units+3+16*k+200<_;lia,r.gd⟩
theorem xD {A:Pz}:(A.under (.builtin "type.__call__" ⟨.ref C::us,kw⟩)).depth=A.depth+1:=by
 first|rfl|simp[abO,Code.weight,Code.isCreation,Code.isGuard,Code.isCaller,Code.frames,adS,guardIds]
theorem xE {A:Pz}:(A.under (.builtin "type.__call__" ⟨.ref C::us,kw⟩)).units=A.units+1:=by
 first|rfl|simp[abO,Code.cUnits,Code.frames,adS]
theorem O5.make (r:O5 (k+1) A)(C:f')(us)(kw):O5 k (A.under (.builtin "type.__call__" ⟨.ref C::us,kw⟩)):=
 ⟨r.hd,by have:=r.dp;rw[xD];lia,by have:=r.un;rw[xE];lia,by
  first|exact r.gd|(have g:=r.gd;simp[abO,Code.guards,Code.isGuard,guardIds,pushGuards,g])⟩
theorem O5.depth (r:O5 k A):A.depth<recursionLimit:=by have:=r.dp;lia
theorem O5.units (r:O5 k A):A.units+64<PK:=by have:=r.un;lia
theorem O5.θ (r:O5 k A):A.units<PK:=by have:=r.un;lia
def pF:TA:=λ_ H Q=>Q [] H
def J6 (ta:TE)(tr:TA):TA:=λσ H Q=>ta σ H λx H1=>tr σ H1 λxs H2=>Q (x::xs) H2
theorem ad:PA X [] pF:=λ_ _ _ _ H Q I h=>Calls.spliced_nil ⟨[],H,I,.nil,h⟩
theorem ac (ha:PE X e te)(hr:PA X es t)(hs:Qz (e::es) X.env=(false,eval e X.env)::Qz es X.env:=by rfl):PA X (e::es) (J6 te t):=by
 intro pos aa s c H Q I h;rw[hs];show O7 _ _ (spliced ((false,eval e X.env)::backTo pos (Qz es X.env))) _ _ s;refine Calls.spliced_cons (Pm (ha aa s c H _ I h) λu s1 b=>Qb b λx m d o l=>?_);exact Pm (hr pos aa s1 c m _ d l) λus s2 b=>Qb b λxs f g n j=>⟨x::xs,f,g,.cons o n,j⟩
def Lw (t:TA):TE:=λσ H Q=>t σ H λxs H1=>xs.length<=Pj/\∀p,H1 p=none->Q (.ref p) (upd H1 p (.tup xs))
def Lx (t:TA):TE:=λσ H Q=>t σ H λxs H1=>xs.length<=Pj/\∀p,H1 p=none->Q (.ref p) (upd H1 p (.lst xs))
theorem cz {x1}(h:PA X es t):PE X (.Tuple es x1 pos) (Lw t):=by
 intro aa s g H Q I f;refine wpAny_Tuple_spliced (Pm (h pos aa s g H _ I f) λus s1 ⟨xs,d,c,r,z,q⟩=>⟨by rw[<-r.length];exact z,?_⟩);have j:d s1.heap.objs.size=none:=c.Pn.fresh (Po _);refine⟨.ref s1.heap.objs.size,upd d s1.heap.objs.size (.tup xs),c.laid (t':=s1.toks) (λb u e=>Qe _ e) (Po _) ?_,rfl,q _ j⟩;exact⟨z,us,r,⟨_,QX _ rfl,rfl,_,rfl,rfl⟩⟩
theorem bf (h:PA X es t):PE X (.List es pos) (Lx t):=by
 intro aa s g H Q I f;refine wpAny_List_spliced (Pm (h pos aa s g H _ I f) λus s1 ⟨xs,d,c,r,z,q⟩=>⟨by rw[<-r.length];exact z,?_⟩);have j:d s1.heap.objs.size=none:=c.Pn.fresh (Po _);refine⟨.ref s1.heap.objs.size,upd d s1.heap.objs.size (.lst xs),c.laid (t':=s1.toks) (λb u e=>Qe _ e) (Po _) ?_,rfl,q _ j⟩;exact⟨z,us,0,r,QX _ rfl⟩
abbrev Sp:=List V->Hp->VK->XK->Prop
abbrev R4:=List QU->Hp->J'->XK->D'->J'->Prop
structure XZ (P:Pk)(w:Pd)(K:O6)(mg:N'->Option D')(base:O8)(A:Pz)(outer:List QU)(s:J')(H:Hp):Prop where
 frames:A.frames=some outer
 mod:Mod K mg base
 bs:∀b o,base.get? b=some o->s.heap.get? b=some o/\H b=none
 Vk:base.objs.size<=s.heap.objs.size
 TK:s.heap.FunFrames base outer
 VX:∀b∈QL outer,H b=none
 Pn:Q2 P w H s.heap
 bare:Vd s.gens
def CE (outer:List QU)(P:Pk)(w:Pd)(H:Hp)(s:J')(Q:VK)(u:D')(s':J'):Prop:=
 ∃v H',s'.os=s.os/\Vd s'.gens/\Un (QL outer) [] H H' s.heap s'.heap/\Q2 P w H' s'.heap/\aG v u/\Q v H'
def CR (CX:R4)(outer:List QU)(P:Pk)(w:Pd)(H:Hp)(s:J')(Q:VK)(E:XK)(r:Result)(s':J'):Prop:=
 match r with
 | .ok (.ret u)=>CE outer P w H s Q u s'
 | .ok _=>False
 | .error e=>CX outer H s E e s'
structure Py (P:Pk)(w:Pd)(K:O6)(mg:N'->Option D')(base:O8)(CX:R4)(k:Nat)(f:f')(fd:PD)(ps:List N')(sp:Sp):Prop where
 len:∀vs H Q E,sp vs H Q E->vs.length=ps.length
 run:∀(A:Pz) (outer:List QU) (s:J') (H:Hp) (args:Args) (us:List D') (vs:List V) (Q:VK) (E:XK),O5 k A->XZ P w K mg base A outer s H->δ s fd args (ps.zip us)->aE vs us->sp vs H Q E->
  codeAny (Pb P w) A (.call (.ref f) args) (CR CX outer P w H s Q E) s
theorem XZ.make {K:O6}(e:XZ P w K mg base A outer s H)(C:f')(us:List D')(kw:List (N'×D')):
  XZ P w K mg base (A.under (.builtin "type.__call__" ⟨.ref C::us,kw⟩)) outer s H:=⟨by first|exact e.frames|(simpa [abO,Code.envs,adS,pushEnvs] using e.frames),e.mod,e.bs,e.Vk,e.TK,e.VX,e.Pn,e.bare⟩
theorem Inv.acq {σ:St}(I:Inv X aa σ H s):XZ X.prog X.w X.K X.mg X.base X.A X.stack s H:=
 ⟨I.ok.frames,I.ok.mod,I.bs,RC I.ok.Vk I.sz,I.stack,I.aaO,I.Pn,I.bare⟩
theorem Inv.after {σ:St}(I:Inv X aa σ H s)(h:CE X.stack X.prog X.w H s Q u s'):EP X aa σ Q u s':=by
 obtain⟨v,e,os,bare,un,f,r,q⟩:=h;obtain⟨c,g,d,t,os'⟩:=s';obtain rfl:os'=s.os:=os;exact⟨v,e,I.call (h':=c) (g':=g) (d':=d) (t':=t) (ch:=[]) un f bare (λb z=>Pp z (by simp)),r,q⟩
def Ka (C:f')(m:N')(sp:Sp)(Rk:List V)(E:XK)(ta:TE)(t:TA):TE:=λσ H Q=>ta σ H λx H1=>∃a dx fs,x=.ref a/\H1 a=some (.ins C dx fs)/\fs.lookup m=none/\
 t σ H1 λvs H2=>sp (x::(vs++Rk)) H2 Q E
def Kb (C:f')(sp:Sp)(Rk:List V)(E:XK)(t:TA):TE:=λσ H Q=>t σ H λvs H1=>∀x dx,H1 x=none->H1 dx=none->dx≠x->
 sp (.ref x::(vs++Rk)) (upd (upd H1 dx (.own x)) x (.ins C dx [])) (λv H2=>v=.Qt/\Q (.ref x) H2) E
def bK (K:O6)(fd:PD)(ps:List N')(ds:List D'):Prop:=
 ∀(s:J') (us:List D'),K.In s.heap->(us++ds).length=ps.length->δ s fd ⟨us,[]⟩ (ps.zip (us++ds))
theorem bK.all {K:O6}(h:∀us:List D',us.length=ps.length->bindArgs fd ⟨us,[]⟩=pure (ps.zip us)):bK K fd ps []:=λs us _ b=>by
 rw[SV] at b ⊢;exact .of_eq (h us b)
def kh (CX:R4)(X:Cx)(E:XK):Prop:=∀(aa:List (f'×G')) (σ:St) (H:Hp) (s:J') (e:D') (s':J'),Inv X aa σ H s->CX X.stack H s E e s'->X.xe e s'
theorem FV {X:Cx}{CX:R4}{k:Nat}{f:f'}{fd:PD}{ps:List N'}{sp:Sp}{Rk:List V}{ds:List D'}{E:XK}{aa:List (f'×G')}{σ:St}{H:Hp}{s:J'}{Q:VK}{us:List D'}{vs:List V}(F:Py X.prog X.w X.K X.mg X.base CX k f fd ps sp)(hr:O5 k X.A)(hb:bK X.K fd ps ds)(hd:aE Rk ds)(hx:kh CX X E)(I:Inv X aa σ H s)(r:aE vs us)(h:sp (vs++Rk) H Q E):O7 (Pb X.prog X.w) X.A (call (.ref f) us) (EP X aa σ Q) X.xe s:=by
 have c:aE (vs++Rk) (us++ds):=r.append hd;have d:(us++ds).length=ps.length:=by rw[<-c.length];exact F.len _ _ _ _ h
 refine ab3 (XJ (F.run X.A X.stack s H ⟨us,[]⟩ (us++ds) (vs++Rk) Q E hr I.acq (hb s us I.Q9 d) c h) λr j b=>?_);cases r with
 | error e=>exact hx aa σ H s e j I b
 | ok g=>
  cases g with
  | ret u=>exact I.after b
  | next=>exact SF b
  | brk=>exact SF b
  | cont=>exact SF b
theorem vN (he:PE X o ta)(c:Vl X.K C)(hm:W' X.K C m f)(F:Py X.prog X.w X.K X.mg X.base CX k f fd ps sp)(hr:O5 k X.A)(hb:bK X.K fd ps ds)(hd:aE Rk ds)(hx:kh CX X E)(ha:PA X (e::es) t)(X':Qz (e::es) X.env=(false,eval e X.env)::Qz es X.env:=by rfl)(Sw:(backTo pos (Qz es X.env)).any (·.1)=false:=by rfl)(ht:eval (.Call (.Attribute o m apos) (e::es) [] pos) X.env=(do
   let ov <-eval o X.env
   standAt apos.atName
   let (f,first) <-holding [ov] (getMethod ov m pl)
   callWith pos f first (backTo pos (Qz (e::es) X.env)) (backToKw pos (keywordEach [] X.env))):=by rfl):
  PE X (.Call (.Attribute o m apos) (e::es) [] pos) (Ka C m sp Rk E ta t):=by
 intro aa s d H Q I h;refine W.methodCall_KW (pl:=pl) (Pm (he aa s d H _ I h) λu s1 n=>?_) ht;obtain⟨x,v,b,y,a,J,fs,ex,j,l,q⟩:=n;subst ex;obtain rfl:u=Qg a:=y;refine xB b j c hm l ?_;refine W.callWith_K (first:=[.ref a]) (h₀:=X.base) I.ok.mod.kin hm.kp (Pm (ha pos aa s1 d v _ b q) λus s2 D=>Qb D λvs G g r p=>⟨g.Q9,?_⟩) X' Sw;exact FV (us:=.ref a::us) (vs:=.ref a::vs) F hr hb hd hx g (.cons rfl r) p
structure Mk (K)(C f:f'):Prop where
 makes:W.makesIn K C=true
 init:R' K (.ref C) "__init__"=some (some (.ref f))
 fn:W.isFn K (.ref f)=true
 kp:WX K (.ref C)=true
variable {X:Cx}{CX:R4}{k:Nat}{f:f'}{C:f'}{fd:PD}{ps:List N'}{sp:Sp}{Rk:List V}{ds:List D'}{E:XK}{x:N'} in
theorem BC {aa:List (f'×G')}{σ:St}{H:Hp}{s:J'}{Q:VK}{us:List D'}{vs:List V}(M:Mk X.K C f)(F:Py X.prog X.w X.K X.mg X.base CX k f fd ps sp)(hr:O5 (k+1) X.A)(hb:bK X.K fd ps ds)(hd:aE Rk ds)(hx:kh CX X E)(I:Inv X aa σ H s)(r:aE vs us)(h:∀x dx,H x=none->H dx=none->dx≠x->sp (.ref x::(vs++Rk)) (upd (upd H dx (.own x)) x (.ins C dx [])) (λv H2=>v=.Qt/\Q (.ref x) H2) E):
  O7 (Pb X.prog X.w) X.A (call (.ref C) us) (EP X aa σ Q) X.xe s:=by
 have d:=h (s.heap.objs.size+1) s.heap.objs.size (I.Pn.fresh (XN _)) (I.Pn.fresh (Po _)) (Qs (ZS _));have c:=Inv.made (C:=C) I;have g:aE (V.ref (s.heap.objs.size+1)::(vs++Rk)) (Qg (s.heap.objs.size+1)::(us++ds)):=.cons rfl (r.append hd);have l:(Qg (s.heap.objs.size+1)::us++ds).length=ps.length:=by
  have e:=g.length;rw[F.len _ _ _ _ d] at e;exact e.symm
 refine ab3 (BB (f:=f) I.Q9 M.makes M.init (beq_iff_eq.mp M.fn) (XJ (F.run _ X.stack _ _ ⟨Qg (s.heap.objs.size+1)::us,[]⟩ (Qg (s.heap.objs.size+1)::(us++ds)) _ _ E (hr.make C us [])
  (c.acq.make C us []) (hb _ (Qg (s.heap.objs.size+1)::us) c.Q9 l) g d) λr o b=>?_))
 cases r with
 | error e=>exact hx aa σ _ _ e o c b
 | ok m=>
  cases m with
  | ret u=>
   obtain⟨v,p,n,j,ev,t⟩:=c.after b;subst ev;exact⟨j,⟨V.ref (s.heap.objs.size+1),p,n,rfl,t⟩⟩
  | next=>exact SF b
  | brk=>exact SF b
  | cont=>exact SF b
theorem tu (M:Mk X.K C f)(F:Py X.prog X.w X.K X.mg X.base CX k f fd ps sp)(hr:O5 (k+1) X.A)(hg:Gl X x)(hm:X.mg x=some (.ref C))(hb:bK X.K fd ps ds)(hd:aE Rk ds)(hx:kh CX X E)(UZ:(x==("__debug__":N'))=false:=by decide):PE X (.Call (.Name x p) [] [] pos) (Kb C sp Rk E pF):=by
 intro aa s b H Q I h;refine aaj (jg I hg hm ?_ UZ);exact W.callWith_K0 I.Q9 M.kp (BC (us:=[]) M F hr hb hd hx I .nil h)
structure Qc (N P:List N')(sc:Sd):Prop where
 kind:sc.kind=.function:=by rfl
 co:sc.isCoroutine=false:=by rfl
 gen:sc.isGenerator=false:=by rfl
 nd:N.Nodup:=by decide +kernel
 pre:N.take P.length=P:=by rfl
 par:∀x∈P,sc.names.lookup x=some .local \/sc.names.lookup x=some .cell:=by decide +kernel
 afO:∀y∈sc.names,y.2≠.free:=by decide +kernel
theorem qC {kindOf:N'->Option Uc}:∀{binds:List (N'×D')}{m:N'->Option D'},(∀v,(x,v)∉binds)->bindL kindOf binds m x=m x
 | [],_,_=>rfl
 | (n,v)::r,m,h=>by
  unfold bindL;rw[qC λw b=>h w (PU _ b)]
  split
  .have:x≠n:=by rintro rfl;exact h v Px
   simp[this]
  .rfl
theorem qD {kindOf:N'->Option Uc}:∀{binds:List (N'×D')}{m:N'->Option D'},(∀v,(x,v)∉binds)->bindC kindOf binds m x=m x
 | [],_,_=>rfl
 | (n,v)::r,m,h=>by
  unfold bindC;rw[qD λw b=>h w (PU _ b)]
  split
  .rfl
  .have:x≠n:=by rintro rfl;exact h v Px
   simp[this]
theorem qE {kindOf:N'->Option Uc}:∀{P:List N'}{vs:List D'}{i:Nat}{m:N'->Option D'},P.Nodup->P[i]?=some x->vs[i]?=some v->kindOf x=some .local ->
  bindL kindOf (P.zip vs) m x=some v
 | [],_,_,_,_,h,_,_=>by simp at h
 | _::_,[],_,_,_,_,h,_=>by simp at h
 | p::P,w::vs,0,m,d,c,b,e=>by
  simp at c b;subst c;subst b;show bindL kindOf ((p,w)::P.zip vs) m p=_;unfold bindL;rw[qC λv f=>(Td.mp d).1 (ads f).1,Pf e];simp
 | p::P,w::vs,i+1,m,d,c,b,e=>by
  show bindL kindOf ((p,w)::P.zip vs) m x=_;unfold bindL;exact qE (i:=i) (Td.mp d).2 (by simpa using c) (by simpa using b) e
theorem qF {kindOf:N'->Option Uc}:∀{P:List N'}{vs:List D'}{i:Nat}{m:N'->Option D'},P.Nodup->P[i]?=some x->vs[i]?=some v->kindOf x≠some .local ->
  bindC kindOf (P.zip vs) m x=some v
 | [],_,_,_,_,h,_,_=>by simp at h
 | _::_,[],_,_,_,_,h,_=>by simp at h
 | p::P,w::vs,0,m,d,c,b,e=>by
  simp at c b;subst c;subst b;show bindC kindOf ((p,w)::P.zip vs) m p=_;unfold bindC;rw[qD λv f=>(Td.mp d).1 (ads f).1,O9 e];simp
 | p::P,w::vs,i+1,m,d,c,b,e=>by
  show bindC kindOf ((p,w)::P.zip vs) m x=_;unfold bindC;exact qF (i:=i) (Td.mp d).2 (by simpa using c) (by simpa using b) e
noncomputable def gL (N:List N')(vs:List V):St:=vs.map some++Qq (N.length-vs.length) none
noncomputable def dI (CX:R4)(P:Pk)(w:Pd)(K:O6)(mg:N'->Option D')(base:O8)(N:List N')(qual:N')(scope:Sd)(f:f')(cd:D')(A:Pz)(outer:List QU)(s:J')(H:Hp)(E:XK):Cx where
 prog:=P
 w:=w
 K:=K
 mg:=mg
 base:=base
 A:=A.deeper (envOfC qual scope s.heap.objs.size f cd)
 N:=N
 QH:=s
 Y1:=H
 env:=envOfC qual scope s.heap.objs.size f cd
 outer:=outer
 stack:=envOfC qual scope s.heap.objs.size f cd::outer
 ex:=[]
 calm:=true
 fn:=λ_=>true
 pn:=[]
 xe:=λe s'=>O7 (Pb P w) (A.deeper (envOfC qual scope s.heap.objs.size f cd)) (leaving (envOfC qual scope s.heap.objs.size f cd) e) (λ_ Rl=>CX outer H s E e Rl) (λe' Rl=>CX outer H s E e' Rl) s'
theorem tz {sc:Sd}(h:sc.names.lookup x=some .cell):∃c,(cellsFrom n sc.names []).lookup x=some c:=by
 have q:=W.cellsFrom_some sc.names n [] (.inl h);exact Xy.mp q
theorem zj {K:O6}(S:Qc N ps scope)(hd:A.handled=none)(e0:XZ P w K mg base A outer s H)(hl:vs.length=ps.length)(r:aE vs us)(x:InCallC s s.heap.objs.size (bindL (envOfC qual scope s.heap.objs.size f cd).kindOf (ps.zip us) λ_=>none) (cellsFrom (s.heap.objs.size+1) scope.names []) (bindC (envOfC qual scope s.heap.objs.size f cd).kindOf (ps.zip us) λ_=>none) s1):
  Inv (dI CX P w K mg base N qual scope f cd A outer s H E) [] (gL N vs) H s1:=by
 have I:ps.length<=N.length:=by have:=congrArg Ux S.pre;rw[RW] at this;lia
 obtain⟨m,G,rfl,C⟩:=x.done;have g:∀b:f',b∉(dI CX P w K mg base N qual scope f cd A outer s H E).ex:=λb z=>Pp (show b∈([]:List f') from z) (by simp);refine⟨⟨e0.mod,S.kind,rfl,rfl,Po _,λy z c m d=>?_,λy hy=>?_,λy c _ h=>?_,λ_=>hd,Pz.frames_deeper e0.frames,.inr ⟨rfl,rfl⟩,λb z=>Pp z (g b),e0.bs,e0.Vk,λb _ _=>g b,λb z=>Pp z (g b),e0.TK,e0.VX⟩,
  rfl,e0.bare,Un.kept C,⟨_,x.toInCall.ns,λi y v m d J=>?_⟩,λy c h=>⟨_,x.cell y c h⟩,e0.Pn.fresh (Po _),λy c h=>?_,λp j=>Pp (show p∈([]:List (f'×G')) from j) (by simp),e0.Pn.kept C,?_⟩
 .exact name_of_addr x.apart (Ws m) (Ws d)
 .have hy:scope.names.lookup y=some .cell\/scope.names.lookup y=some .free:=hy;rcases hy with hy|hy
  .exact tz hy
  .exact Pp rfl (S.afO _ (Ws hy))
 .exact XH (x.above y c (Ws h))
 .have l:i<vs.length:=by
   unfold gL at d
   by_cases l:i<vs.length
   .exact l
   .rw[Xx (by simpa using l)] at d;rw[abe] at d
    split at d <;> cases d
  have F:vs[i]?=some v:=by
   unfold gL at d;rw[VB (by simpa using l),Q6] at d;cases e:vs[i]? with
   | none=>rw[e] at d;cases d
   | some a=>rw[e] at d;cases d;rfl
  obtain⟨u,o,D⟩:=r.get F;have j:ps[i]?=some y:=by
   rw[<-S.pre,List.getElem?_take_of_lt (by lia)];exact m
  have t:ps.Nodup:=by rw[<-S.pre];exact S.nd.sublist (abq _ _)
  refine⟨u,D,?_⟩;rcases S.par y (QF j) with k|k
  .exact .inl ⟨k,qE t j o k⟩
  .obtain⟨c,e⟩:=tz (n:=s.heap.objs.size+1) k;refine .inr ⟨.inl k,c,e,?_⟩;have q:=x.cell y c e;rw[qF t j o (by show scope.names.lookup y≠_;rw[k];decide)] at q;exact q
 .exact e0.Pn.fresh (XH (x.above y c (Ws h)))
 .unfold gL;show _=N.length;rw[QI,PP,abi];lia
theorem Dh {CX:R4}{P:Pk}{w:Pd}{K:O6}{mg:N'->Option D'}{base:O8}{k:Nat}{f:f'}{name qual:N'}{params:Arguments}{body:List Pc}{scope:Sd}{dV kV doc pm Pi ct oc:D'}{an od:Option f'}{Tl:Array (Option D')}{N ps:List N'}{sp:Sp}(lk:K.lookup f=some ⟨oc,od,.func (VP name qual params body scope dV kV doc pm an Pi ct),Tl⟩)(SL:aaM K Pi qual=true)(S:Qc N ps scope)(len:∀vs H Q E,sp vs H Q E->vs.length=ps.length)(ι:∀(A:Pz) (outer:List QU) (s:J') (H:Hp) (vs:List V) (Q:VK) (E:XK),O5 k (A.deeper (envOfC qual scope s.heap.objs.size f Pi))->sp vs H Q E->
   ∃t,Su (dI CX P w K mg base N qual scope f Pi A outer s H E) body t/\t { nx:=λ_ H'=>Q .Qt H',rt:=Q } (gL N vs) H):
  Py P w K mg base CX (k+1) f (VP name qual params body scope dV kV doc pm an Pi ct) ps sp:=by
 refine⟨len,λA outer s H args us vs Q E l d R r p=>?_⟩;have D:=len _ _ _ _ p;have C:K.In s.heap:=d.mod.kin.keeps λb o e=>(d.bs b o e).1;have lim:s.heap.NoLimit:=d.mod.nolimit.keeps λb o e=>(d.bs b o e).1;have m:∀y∈ps.zip us,scope.names.lookup y.1=some .local \/(scope.names.lookup y.1=some .cell/\((cellsFrom (s.heap.objs.size+1) scope.names []).lookup y.1).isSome=true):=λ⟨n,v⟩ O=>by
  rcases S.par n (ads O).1 with q|q
  .exact .inl q
  .exact .inr ⟨q,W.cellsFrom_some _ _ _ (.inl q)⟩
 refine codeAny_call_function l.depth (C _ _ lk) rfl S.co S.gen rfl (W.codeRec_of C SL) (R _ _ _ _ ?_);refine wpAny_newFunctionEnv_cells S.kind m λenv M s1 x=>?_;subst M;refine⟨lim.keeps x.toInCall.keep,codeAny_func ?_⟩;obtain⟨t,L,G⟩:=ι A outer s H vs Q E (l.deeper _) p;have I:Inv (dI CX P w K mg base N qual scope f Pi A outer s H E) [] (gL N vs) H s1:=zj S l.hd d D r x;refine UQ (L [] s1 (gL N vs) H _ I G) (λF j c=>?_) λe j c=>c;have fin:∀{g:St}{H':Hp}{v:V}{u:D'},Inv (dI CX P w K mg base N qual scope f Pi A outer s H E) [] g H' j->aG v u->Q v H'->CE outer P w H s Q u j:=
  λ{g H' v u} J h q=>⟨v,H',J.os,J.bare,J.base,J.Pn,h,q⟩
 cases F with
 | ret u=>
  obtain⟨v,g,H',J,h,q⟩:=c;exact fin J h q
 | next=>
  obtain⟨g,H',J,q⟩:=c;exact fin (v:=V.Qt) (u:=Ua) J rfl q
 | brk=>
  obtain⟨_,_,_,q⟩:=c;exact SF q
 | cont=>
  obtain⟨_,_,_,q⟩:=c;exact SF q
def tCB (r:List V->Hp->VK->Prop)(t:TA):TE:=λσ H Q=>t σ H λvs H1=>r vs H1 Q
theorem aB {id:String}(hc:cR X (.builtin id) r)(hg:Gl X x)(hm:X.mg x=none)(hv:Sr x=some (.builtin id))(ha:PA X (e::es) t)(hn:x≠"__name__":=by decide)(UZ:(x==("__debug__":N'))=false:=by decide)(he:Qz (e::es) X.env=(false,eval e X.env)::Qz es X.env:=by rfl)(Sw:(backTo pos (Qz es X.env)).any (·.1)=false:=by rfl):PE X (.Call (.Name x p) (e::es) [] pos) (tCB r t):=by
 intro aa s b H Q I h;refine aaj (gX I hg hm hv ?_ hn UZ);exact PyProof.Rows.callWith_builtin1 (Pm (ha pos aa s b H _ I h) λus s1 g=>Qb g λvs f d j c=>hc aa s1 b f vs us Q d j c) he Sw
theorem aV (hc:cR X (.type T) r)(hg:Gl X x)(hm:X.mg x=none)(hv:Sr x=some (.type T))(ha:PA X (e::es) t)(hn:x≠"__name__":=by decide)(UZ:(x==("__debug__":N'))=false:=by decide)(he:Qz (e::es) X.env=(false,eval e X.env)::Qz es X.env:=by rfl)(Sw:(backTo pos (Qz es X.env)).any (·.1)=false:=by rfl):PE X (.Call (.Name x p) (e::es) [] pos) (tCB r t):=by
 intro aa s b H Q I h;refine aaj (gX I hg hm hv ?_ hn UZ);exact aac (Pm (ha pos aa s b H _ I h) λus s1 g=>Qb g λvs f d j c=>hc aa s1 b f vs us Q d j c) he Sw
end L2
namespace HT
open PySem PyProof.Rows
noncomputable def bR:List Int->List Int->Bool
 | [],[]=>false
 | [],_::_=>true
 | _::_,[]=>false
 | x::xs,y::ys=>if x=y then bR xs ys else decide (x<y)
theorem eI (x y:Int)(xs ys):bR (x::xs) (y::ys)=if x=y then bR xs ys else decide (x<y):=rfl
theorem FD:bR [] []=false:=rfl
theorem pG (y:Int)(ys):bR [] (y::ys)=true:=rfl
theorem pH (x:Int)(xs):bR (x::xs) []=false:=rfl
section
open PySem.SeqAt
open PySem.AutoSeq1 (wpAny_loadPart')
open PySem.MeetsSeq PySem.MeetsSeq2 PySem.MeetsSeq3
end
theorem Ed (ht:XT s.heap t vs.toArray)(hb:XT s.heap b ws.toArray)(hv:vs≠[])(h1:ws=[]->Q (.ref t) s)(h2:ws≠[]->Q (.ref s.heap.objs.size) { s with heap:=s.heap.push { cls:=.type "tuple",data:=.seq (vs++ws).toArray } })(hsz:vs.length+ws.length<=Pj):O7 (Pb prog w) A (binaryOp .Add (.ref t) (.ref b)) Q E s:=by
 obtain⟨⟨cls,dd,data,l⟩,j,m,n,hd⟩:=id ht;obtain⟨⟨p,c,data2,f⟩,g,d,o,hd2⟩:=id hb;simp only at m hd d hd2;subst m hd d hd2;have e:vs.toArray++ws.toArray=(vs++ws).toArray:=by simp
 by_cases h:ws=[]
 .exact concat_meets ⟨_,j,rfl⟩ ⟨_,g,rfl⟩ adn adL acW acT (acR _ _)
   (tuple_addW1 t b vs.toArray ws.toArray n o dd c l f (by simpa using hv) (by simp[h])) ⟨j,g,h1 h⟩
 .refine concat_meets ⟨_,j,rfl⟩ ⟨_,g,rfl⟩ adn adL acW acT (acR _ _)
   (tuple_addW2 t b vs.toArray ws.toArray n o dd c l f (by simpa using hv) (by simpa using h) (by rw[Qv,Qv];exact hsz)) ⟨j,g,?_⟩
  rw[e];exact h2 h
noncomputable def P3 (n d:Nat):Option Int->Nat
 | none=>d
 | some v=>if v<0 then (v+(n:Int)).toNat else min v.toNat n
theorem mR (n d:Nat):P3 n d none=d:=rfl
theorem vO (n d k:Nat):P3 n d (some (k:Int))=min k n:=by
 show(if (k:Int)<0 then ((k:Int)+(n:Int)).toNat else min (k:Int).toNat n)=min k n;rw[O9 (by lia),Rb]
theorem FW (n d:Nat)(hd:d<=n)(o):P3 n d o<=n:=by
 cases o with
 | none=>exact hd
 | some v=>
  show(if v<0 then (v+(n:Int)).toNat else min v.toNat n)<=n
  by_cases b:v<0
  .rw[Pf b];lia
  .rw[O9 b];exact Nat.min_le_right _ _
theorem vP (v:Int)(n d:Nat):(if v<0 then max (v+(n:Int)) 0 else min v (n:Int))=((P3 n d (some v):Nat):Int):=by
 show(if v<0 then max (v+(n:Int)) 0 else min v (n:Int))=(((if v<0 then (v+(n:Int)).toNat else min v.toNat n):Nat):Int)
 by_cases b:v<0
 .simp only[Pf b];lia
 .simp only[O9 b];lia
theorem xF (lo hi)(n:Nat):acN lo hi 1 (n:Int)=(((P3 n 0 lo:Nat):Int),((P3 n n hi:Nat):Int)):=by
 have b:¬((1:Int)<0):=by lia
 unfold acN;simp only[b,if_false];refine Z9 ?_ ?_
 .cases lo with
  | none=>rfl
  | some v=>exact vP v n 0
 .cases hi with
  | none=>rfl
  | some v=>exact vP v n n
theorem xG (i j:Nat):aa9 (i:Int) (j:Int) 1=j-i:=by
 unfold aa9;have b:(1:Int) > 0:=by lia
 simp only[b,if_true,Int.ediv_one]
 split <;> lia
theorem nU (p:VQ v o)(h:Q o s):O7 (Pb prog w) A (Tf.Slice.slicePartIndex v) Q E s:=by
 cases p with
 | none=>exact slicePart_none h
 | int i t=>exact slicePart_int h
theorem hJ {prog:Pk}{w:Pd}{A:Pz}{E:D'->J'->Prop}{s:J'}{sl:f'}{vl vu:D'}{lo hi:Option Int}{n:Nat}{Q:Int×Int×Nat->J'->Prop}(hs:s.heap.IsSliceOf sl vl vu .none)(pl:VQ vl lo)(pu:VQ vu hi)(h:Q (((P3 n 0 lo:Nat):Int),1,P3 n n hi-P3 n 0 lo) s):O7 (Pb prog w) A (aeW (.ref sl) (pure (n:Int))) Q E s:=by
 obtain⟨os,c,d,b⟩:=id hs;unfold aeW Tf.Slice.sliceFields;refine O4 (O4 (YT c b (x:=vl) rfl (O4 (YT c b (x:=vu) rfl (O4 (YT c b (x:=.none) rfl (Pa ?_)))))));refine O4 (slicePart_none ?_);show O7 _ _ (if ((1:Int)==0)=true then _ else _) _ _ s;rw[O9 (by decide)];refine O4 (nU pl (O4 (nU pu (O4 (Pa ?_)))));show O7 _ _ (match acN lo hi 1 (n:Int) with|(lo,hi)=>pure (lo,(1:Int),aa9 lo hi 1)) _ _ s;rw[xF lo hi n];show O7 _ _ (pure (((P3 n 0 lo:Nat):Int),(1:Int),aa9 ((P3 n 0 lo:Nat):Int) ((P3 n n hi:Nat):Int) 1)) _ _ s;rw[xG];exact Pa h
theorem BD (xs:Array D')(i k:Nat):((QK k).filterMap λ(m:Nat)=>xs[((i:Int)+(m:Int)*1).toNat]?).toArray=((xs.toList.drop i).take k).toArray:=by
 have e:(λ(m:Nat)=>xs[((i:Int)+(m:Int)*1).toNat]?)=λm=>xs[i+m]?:=by
  funext m
  have:((i:Int)+(m:Int)*1).toNat=i+m:=by lia
  rw[this]
 rw[e];have:=pick_run xs i k;rw[List.filterMap_map] at this;have b:((λx=>xs[x]?)∘λx=>i+x)=λm=>xs[i+m]?:=rfl;rw[b] at this;rw[this]
theorem mz {prog:Pk}{w:Pd}{A:Pz}{E:D'->J'->Prop}{s:J'}{t sl:f'}{items:Array D'}{vl vu:D'}{lo hi:Option Int}{Q:D'->J'->Prop}(ht:XT s.heap t items)(hs:s.heap.IsSliceOf sl vl vu .none)(pl:VQ vl lo)(pu:VQ vu hi)(hw:¬(P3 items.size 0 lo=0/\P3 items.size items.size hi=items.size))(h:Q (.ref s.heap.objs.size) { s with heap:=s.heap.push { cls:=.type "tuple",data:=.seq ((items.toList.drop (P3 items.size 0 lo)).take (P3 items.size items.size hi-P3 items.size 0 lo)).toArray } })(hsz:items.size<=Pj):O7 (Pb prog w) A (getItem (.ref t) (.ref sl)) Q E s:=by
 have b:sizeOk (.seq ((items.toList.drop (P3 items.size 0 lo)).take (P3 items.size items.size hi-P3 items.size 0 lo)).toArray):=by
  show((items.toList.drop (P3 items.size 0 lo)).take (P3 items.size items.size hi-P3 items.size 0 lo)).toArray.size<=Pj
  rw[Qv,RW,YH,Ri]
  lia
 have n:P3 items.size items.size hi<=items.size:=FW _ _ (Po _) hi
 obtain⟨os,f,c,g⟩:=id hs
 have d:s.TypeIs (.ref sl) "slice":=⟨os,f,c⟩
 unfold getItem
 try with_reducible refine RY ?_
 first|refine O4 (Pa ?_)|skip
 refine O4 (abr ht.typeIs (by decide) ?_)
 refine O4 (Xz (name:=TB "__getitem__") ht.typeIs ZD
  (Tc ZD ht.typeIs entry_tuple_getitem ?_ (args_tuple_getitem _ _)))
 show O7 _ _ (aa7 (.ref t) >>= _) _ _ s
 refine O4 (tupleItemsOf_ ht ?_)
 refine O4 (XM d ?_)
 rw[Pf (by decide)]
 refine O4 (hJ hs pl pu ?_)
 have e:¬((((P3 items.size 0 lo:Nat):Int)==0&&(1:Int)==1&&(P3 items.size items.size hi-P3 items.size 0 lo)==items.size)=true):=by
  intro q
  rw[Tyq,Tyq] at q
  have j:((P3 items.size 0 lo:Nat):Int)=0:=eq_of_beq q.1.1
  have l:P3 items.size items.size hi-P3 items.size 0 lo=items.size:=eq_of_beq q.2
  exact hw ⟨by lia,by lia⟩
 show O7 _ _ (if (((P3 items.size 0 lo:Nat):Int)==0&&(1:Int)==1&&(P3 items.size items.size hi-P3 items.size 0 lo)==items.size)=true then _ else _) _ _ s
 rw[O9 e,BD]
 first
  | exact O4 (m:=ZE _) (Uu (Pa ⟨_,rfl,Pa h⟩) b)
  | exact O4 (m:=ZE _) (Uu (O4 (Pa (Pa ⟨_,rfl,Pa h⟩))) b)
  | exact O4 (O4 (m:=ZE _) (Uu (Pa (Pa ⟨_,rfl,Pa h⟩)) b))
  | exact O4 (O4 (m:=ZE _) (Uu (Pa ⟨_,rfl,Pa h⟩) b))
end HT
namespace L2
open PySem PySem.Spec PyProof.Rows
abbrev TO:=St->Hp->(Option Int->Hp->Prop)->Prop
def PO (X:Cx)(e:Option Pr)(t:TO):Prop:=
 ∀(aa:List (f'×G')) (s:J') (σ:St) (H:Hp) (Q:Option Int->Hp->Prop),Inv X aa σ H s->t σ H Q->
  O7 (Pb X.prog X.w) X.A (evalPart e X.env) (λu s'=>∃o H',Inv X aa σ H' s'/\VQ u o/\Q o H') X.xe s
def Ee:TO:=λ_ H Q=>Q none H
def Kc (t:TE):TO:=λσ H Q=>t σ H λx H1=>∃i,x=.int i/\Q (some i) H1
theorem nV:∀{us:List D'},aE (ns.map V.int) us->VO us ns:=by
 induction ns with
 | nil=>intro us r;rw[aaD] at r;cases r;exact .nil
 | cons n ns b=>
  intro us r;rw[Qr] at r;cases r with
  | cons r1 r2=>
   obtain⟨t,e⟩:=r1;subst e;exact .cons n t (b r2)
theorem fT:PO X none Ee:=by
 intro aa s b H Q I h;rw[evalPart_none];exact Pa ⟨none,H,I,.none,h⟩
theorem fU (h:PE X e te):PO X (some e) (Kc te):=by
 intro aa s c H Q I g;rw[evalPart_some];refine Pm (h aa s c H _ I g) λu s1 j=>Qb j λx f b l d=>?_;obtain⟨i,rfl,q⟩:=d;obtain⟨t,rfl⟩:=l;exact⟨some i,f,b,.int i t,q⟩
def SlR (X:Cx)(r:V->Option Int->Option Int->Hp->VK->Prop):Prop:=
 ∀(aa:List (f'×G')) (s:J') (σ:St) (H:Hp) (x:V) (v vl vu:D') (lo hi:Option Int) (sl:f') (Q:VK),Inv X aa σ H s->aG x v->s.heap.IsSliceOf sl vl vu .none->VQ vl lo->VQ vu hi->r x lo hi H Q->
  ∃T id,typeLookup (.type T) "__getitem__"=pure (some (.builtin id))/\s.TypeIs v T/\O7 (Pb X.prog X.w) X.A (getItem v (.ref sl)) (EP X aa σ Q) X.xe s
def tSl (r:V->Option Int->Option Int->Hp->VK->Prop)(te:TE)(tl th:TO):TE:=λσ H Q=>te σ H λx H1=>tl σ H1 λl H2=>th σ H2 λu H3=>r x l u H3 Q
theorem fe {lo:Option Pr}(hr:SlR X r)(he:PE X e te)(hl:PO X lo tl)(hu:PO X hi th):PE X (.Subscript e (.Slice lo hi none p2) pos) (tSl r te tl th):=by
 intro aa s c H Q I h;refine Subscript_ (Pm (he aa s c H _ I h) λv s1 d=>Qb d λx F m J E=>?_);refine wpAny_Slice (Pm (hl aa s1 c F _ m E) λf s2 d=>Qb d λl n p pl y=>Pm (hu aa s2 c n _ p y) λg s3 d=>Qb d λu j L C D=>?_);rw[evalPart_none];refine Pa ?_;have o:Inv X aa c j { s3 with heap:=s3.heap.push { cls:=.type "slice",data:=.fields #[f,g,.none] } }:=L.kept (t':=s3.toks) λb ob q=>Qe _ q;obtain⟨T,id,M,t,G⟩:=hr aa { s3 with heap:=s3.heap.push { cls:=.type "slice",data:=.fields #[f,g,.none] } } c j x v f g l u s3.heap.objs.size Q o J (O8.IsSliceOf.new ..) pl C D;show O7 (Pb X.prog X.w) X.A (subscriptTail e (.Slice lo hi none p2) v (.ref s3.heap.objs.size)) (EP X aa c Q) X.xe { s3 with heap:=s3.heap.push { cls:=.type "slice",data:=.fields #[f,g,.none] } };exact tail_any (ops:=[.ref s3.heap.objs.size,v]) t M G (by with_unfolding_all rfl)
noncomputable def cj (xs:List V)(lo hi:Option Int):List V:=(xs.drop (HT.P3 xs.length 0 lo)).take (HT.P3 xs.length xs.length hi-HT.P3 xs.length 0 lo)
theorem gp (xs)(lo hi):(cj xs lo hi).length<=xs.length:=by
 unfold cj;rw[RW,YH];lia
def FX (K:O6):V->Option Int->Option Int->Hp->VK->Prop:=λx lo hi H Q=>∃a xs,x=.ref a/\Pw K H a xs/\
 ¬(HT.P3 xs.length 0 lo=0/\HT.P3 xs.length xs.length hi=xs.length)/\∀p,H p=none->Q (.ref p) (upd H p (.tup (cj xs lo hi)))
theorem zm:SlR X (FX X.K):=by
 intro aa s n H x v p t lo c m Q I j e pl f h;obtain⟨a,xs,rfl,l,g,q⟩:=h;cases j;obtain⟨its,r,d,hz⟩:=I.tuple l;have hlen:its.toArray.size=xs.length:=by rw[Qv];exact r.length.symm
 refine⟨"tuple",_,ZD.lookup,d.typeIs,?_⟩;refine HT.mz d e pl f (by rw[hlen];exact g) ?_ (by rw[hlen];exact hz);rw[hlen];refine⟨.ref s.heap.objs.size,_,I.laid (t':=s.toks) (o:=.tup (cj xs lo c)) (λb ob q=>Qe _ q) (Po _) ?_,rfl,q _ (I.Pn.fresh (Po _))⟩;exact⟨RC (gp xs lo c) hz,_,(r.drop (HT.P3 xs.length 0 lo)).take (HT.P3 xs.length xs.length c-HT.P3 xs.length 0 lo),fJ.new _ _⟩
def Ke (K:O6):R2:=λx y H Q=>∃a b xs ys,x=.ref a/\y=.ref b/\Pw K H a xs/\Pw K H b ys/\xs≠[]/\xs.length+ys.length<=Pj/\
 (ys=[]->Q (.ref a) H)/\(ys≠[]->∀p,H p=none->Q (.ref p) (upd H p (.tup (xs++ys))))
theorem aE.aca (r:aE xs us):us=[]↔xs=[]:=by
 cases r with
 | nil=>simp
 | cons _ _=>simp
theorem Ef:Qy X (binaryOp .Add) (Ke X.K):=by
 intro aa s C H x y v u Q I m j h;obtain⟨a,b,xs,e,rfl,rfl,g,t,n,hz,l,f⟩:=h;cases m;cases j;obtain⟨its,d,p,_⟩:=I.tuple g;obtain⟨D,c,A,_⟩:=I.tuple t;refine HT.Ed p A (λz=>n (d.aca.mp z)) (λz=>⟨.ref a,H,I,rfl,l (c.aca.mp z)⟩) (λz=>?_) (by rw[<-d.length,<-c.length];exact hz);refine⟨.ref s.heap.objs.size,_,I.laid (t':=s.toks) (o:=.tup (xs++e)) (λb ob q=>Qe _ q) (Po _) ?_,rfl,f (λw=>z (c.aca.mpr w)) _ (I.Pn.fresh (Po _))⟩;exact⟨by rw[QI];exact hz,_,d.append c,fJ.new _ _⟩
noncomputable def V2 (n:Nat)(i:Int):Option Nat:=if 0<=i then (if i<n then some i.toNat else none) else if -(n:Int)<=i then some (i+n).toNat else none
noncomputable def Si {α:Type}(xs:List α)(i:Int):Option α:=(V2 xs.length i).bind λj=>xs[j]?
theorem vQ (h:V2 n i=some j):seqIndex? i n=some j/\j<n/\-(n:Int)<=i/\i<n:=by
 unfold V2 at h
 by_cases h0:0<=i
 .rw[Pf h0] at h
  by_cases b:i<n
  .rw[Pf b] at h;have e:i.toNat=j:=Sn h;exact⟨by rw[abW h0 b,e],by lia,by lia,b⟩
  .rw[O9 b] at h;cases h
 .rw[O9 h0] at h
  by_cases b:-(n:Int)<=i
  .rw[Pf b] at h;have e:(i+n).toNat=j:=Sn h;exact⟨by rw[seqIndex_neg (by lia) b,e],by lia,b,by lia⟩
  .rw[O9 b] at h;cases h
theorem pI {α:Type}{xs:List α}{i:Int}{v:α}(h:Si xs i=some v):∃j,seqIndex? i xs.length=some j/\xs[j]?=some v/\j<xs.length/\-(xs.length:Int)<=i/\i<xs.length:=by
 unfold Si at h;cases e:V2 xs.length i with
 | none=>rw[e] at h;cases h
 | some j=>
  rw[e] at h;obtain⟨f,c,d,b⟩:=vQ e;exact⟨j,f,h,c,d,b⟩
theorem bU {α:Type}{xs:List α}{j:Nat}{v:α}(h:xs[j]?=some v):Si xs (j:Int)=some v:=by
 have b:j<xs.length:=(QE.mp h).1;have e:V2 xs.length (j:Int)=some j:=by
  unfold V2;rw[Pf (by lia),Pf (by lia)];simp
 unfold Si;rw[e];exact h
def vR (b:Pr):Prop:=∀o i,subscripted b false o i=operate [o,i] (getItem o i)
def SY (X:Cx)(r:R2):Prop:=
 ∀(value slice:Pr) (aa:List (f'×G')) (s:J') (σ:St) (H:Hp) (x y:V) (v u:D') (Q:VK),Inv X aa σ H s->aG x v->aG y u->r x y H Q->
  subscripted slice false v u=operate [v,u] (getItem v u)->O7 (Pb X.prog X.w) X.A (subscriptTail value slice v u) (EP X aa σ Q) X.xe s
def MtR (X:Cx)(id:String)(r:V->List V->Hp->VK->Prop):Prop:=
 ∀(aa:List (f'×G')) (s:J') (σ:St) (H:Hp) (x:V) (xs:List V) (v:D') (us:List D') (Q:VK),Inv X aa σ H s->aG x v->aE xs us->r x xs H Q->
  O7 (Pb X.prog X.w) X.A (call (.builtin id) (v::us)) (EP X aa σ Q) X.xe s
theorem bj (hr:SY X r)(ha:PE X a ta)(hb:PE X b tb)(hs:vR b):PE X (.Subscript a b pos) (tOp r ta tb):=by
 intro aa s e H Q I h;exact Subscript_ (Bw ha hb I h λv u s2 x y g d f c q=>hr a b aa s2 e g x y v u Q d f c q (hs _ _))
def fL (K:O6):R2:=λx y H Q=>∃p xs i v,x=.ref p/\y=.int i/\Pg K H p xs/\Si xs i=some v/\Q v H
def BE (K:O6):R2:=λx y H Q=>∃p xs i v,x=.ref p/\y=.int i/\Pw K H p xs/\Si xs i=some v/\Q v H
theorem bB:SY X (fL X.K):=by
 intro value slice aa s d H x y v u Q I F A h e;obtain⟨p,xs,i,z,rfl,rfl,n,D,q⟩:=h;cases F;obtain⟨t,rfl⟩:=A;obtain⟨its,r,pl,hz⟩:=I.list n;obtain⟨j,b,C,J,l,E⟩:=pI D;obtain⟨w,f,g⟩:=r.get C;have m:=r.length;have G:=jm;have fin:EP X aa d Q w s:=⟨z,H,I,g,q⟩
 by_cases h0:0<=i
 .have c:i.toNat=j:=by
   rw[abW h0 E] at b;exact Sn b
  exact item_listR pl.isList h0 (by lia) (by rw[c];simpa using f) fin e
 .have c:(i+(its.toArray.size:Int)).toNat=j:=by
   rw[seqIndex_neg (by lia) l] at b;rw[Qv,<-m];exact Sn b
  exact subscriptTail_builtinR (x:=w) pl.isList.typeIs slot_list_getitem.lookup
   (wpAny_getItem_list_neg (Q:=λr o=>r=w/\EP X aa d Q r o) pl.isList (by lia) (by rw[Qv] <;> lia) (by lia) (by rw[c];simpa using f) ⟨rfl,fin⟩) e
theorem cZ:SY X (BE X.K):=by
 intro value slice aa s b H x y v u Q I C m h f;obtain⟨p,xs,i,z,rfl,rfl,e,o,q⟩:=h;cases C;obtain⟨t,rfl⟩:=m;obtain⟨its,r,pl,hz⟩:=I.tuple e;obtain⟨j,A,n,G,D,E⟩:=pI o;obtain⟨w,g,c⟩:=r.get n;have d:=r.length;have F:=jm;have fin:EP X aa b Q w s:=⟨z,H,I,c,q⟩
 exact subscriptTail_builtinR (x:=w) pl.typeIs slot_tuple_getitem.lookup
  (getItem_tuple (j:=j) (Q:=λr l=>r=w/\EP X aa b Q r l) pl (by lia) (by lia) (by rw[Qv,<-d];exact A) (by simpa using g) ⟨rfl,fin⟩) f
theorem xH (its:List D')(n j:Nat)(u):Ro (·.setIfInBounds j u) { cls:=.type "list",data:=.seq its.toArray n }={ cls:=.type "list",data:=.seq (its.set j u).toArray n }:=by
 simp[Ro]
theorem Inv.lst {σ:St}(I:Inv X aa σ H s)(h:H p=some (.lst xs)):
  ∃(its:List D') (n:Nat),aE xs its/\s.heap.get? p=some { cls:=.type "list",data:=.seq its.toArray n }/\xs.length<=Pj:=by
 obtain⟨z,its,n,r,e⟩:=I.Pn p _ h;exact⟨its,n,r,e,z⟩
theorem Inv.afP {X:Cx}{aa:List (f'×G')}{σ:St}{H:Hp}{s:J'}{p:f'}{xs ys:List V}{its its':List D'}{n n':Nat}{f:G'->G'}(I:Inv X aa σ H s)(h:H p=some (.lst xs))(ho:s.heap.get? p=some { cls:=.type "list",data:=.seq its.toArray n })(hf:f { cls:=.type "list",data:=.seq its.toArray n }={ cls:=.type "list",data:=.seq its'.toArray n' })(r:aE ys its')(hz:ys.length<=Pj)(t:Nat):
  Inv X aa σ (upd H p (.lst ys)) { s with heap:=s.heap.update p f,toks:=t }:=by
 have e:(s.heap.update p f).get? p=some { cls:=.type "list",data:=.seq its'.toArray n' }:=by
  rw[ZG f ho (by rw[hf] <;> rfl),hf]
 refine I.write (x:=p) (e:=p) (by rw[h];trivial) (.inl rfl) (λb u c q=>(YA _ _ (Qi c)).trans q) ⟨_,e⟩ ?_;exact⟨hz,its',n',r,e⟩
def Kf:V->V->V->Hp->(Hp->Prop)->Prop:=λo i v H Q=>∃p xs k j,o=.ref p/\i=.int k/\H p=some (.lst xs)/\V2 xs.length k=some j/\Q (upd H p (.lst (xs.set j v)))
theorem tD:Bu X Kf:=by
 intro aa s x H o i v F E u Q I y C A h;obtain⟨p,xs,k,j,rfl,rfl,l,w,q⟩:=h;cases y;obtain⟨t,rfl⟩:=C;obtain⟨its,n,r,d,hz⟩:=I.lst l;obtain⟨b,D,m,f⟩:=vQ w;have c:=r.length;have G:=jm;have g:Inv X aa x (upd H p (.lst (xs.set j v))) { s with heap:=s.heap.update p (Ro (·.setIfInBounds j u)) }:=
  I.afP l d (xH its n j u) (r.set A j) (by rw[adt];exact hz) s.toks
 by_cases h0:0<=k
 .have e:k.toNat=j:=by
   rw[abW h0 f] at b;exact Sn b
  exact W.ki_setAt d h0 (by lia) (by rw[Qv,<-c];exact f) (by rw[e];exact⟨_,g,q⟩)
 .have e:(k+(its.toArray.size:Int)).toNat=j:=by
   rw[seqIndex_neg (by lia) m] at b;rw[Qv,<-c];exact Sn b
  exact W.ki_setBack d (by lia) (by rw[Qv,<-c];exact m) (by lia) (by rw[e];exact⟨_,g,q⟩)
theorem tE (lo hi)(n:Nat):(sliceBounds lo hi none n).1=((HT.P3 n 0 lo:Nat):Int)/\(sliceBounds lo hi none n).2.1=((HT.P3 n n hi:Nat):Int)/\(sliceBounds lo hi none n).2.2=1:=by
 refine⟨?_,?_,rfl⟩
 .cases lo with
  | none=>simp[sliceBounds,HT.P3]
  | some i=>
   simp only[sliceBounds,HT.P3,afE,show(1:Int) > 0 by decide,if_true]
   by_cases h:i<0
   .simp only[h,if_true] <;> lia
   .simp only[h,if_false] <;> lia
 .cases hi with
  | none=>simp[sliceBounds,HT.P3]
  | some i=>
   simp only[sliceBounds,HT.P3,afE,show(1:Int) > 0 by decide,if_true]
   by_cases h:i<0
   .simp only[h,if_true] <;> lia
   .simp only[h,if_false] <;> lia
theorem se (its:List D')(lo hi:Option Int):slicePick its.toArray lo hi none=((its.drop (HT.P3 its.length 0 lo)).take (HT.P3 its.length its.length hi-HT.P3 its.length 0 lo)).toArray:=by
 obtain⟨c,b,d⟩:=tE lo hi its.toArray.size;unfold slicePick;rw[c,b,d];simp only[sliceRange_one,pick_run,Qv] <;> rfl
def Ly (K:O6):V->Option Int->Option Int->Hp->VK->Prop:=λx lo hi H Q=>∃a xs,x=.ref a/\Pg K H a xs/\∀p,H p=none->Q (.ref p) (upd H p (.lst (cj xs lo hi)))
theorem lK:SlR X (Ly X.K):=by
 intro aa s m H x v n p lo c l Q I g e pl f h;obtain⟨a,xs,rfl,j,q⟩:=h;cases g;obtain⟨its,r,d,hz⟩:=I.list j;have hlen:=r.length;refine⟨"list",_,slot_list_getitem.lookup,d.isList.typeIs,?_⟩;refine wpAny_getItem_list_slice d.isList e pl f .none (by simp) ?_ (by rw[Qv] <;> lia);rw[se,<-hlen];refine⟨.ref s.heap.objs.size,_,I.laid (t':=s.toks) (o:=.lst (cj xs lo c)) (λb ob q=>Qe _ q) (Po _) ?_,rfl,q _ (I.Pn.fresh (Po _))⟩;exact⟨RC (gp xs lo c) hz,_,0,(r.drop (HT.P3 xs.length 0 lo)).take (HT.P3 xs.length xs.length c-HT.P3 xs.length 0 lo),QX _ rfl⟩
noncomputable def cp:V->Bool
 | .Qt=>true
 | .bl _=>true
 | .int _=>true
 | .str _=>true
 | _=>false
noncomputable def Re:V->V->Bool
 | .Qt,.Qt=>true
 | .bl a,.bl b=>a==b
 | .bl a,.int b=>(if a then 1 else 0)==b
 | .int a,.bl b=>a==(if b then 1 else 0)
 | .int a,.int b=>a==b
 | .str a,.str b=>a==b
 | _,_=>false
theorem zn (ry:aG y u)(rx:aG x v)(fy:cp y=true)(fx:cp x=true):Uy A s u v (Re y x):=by
 cases y with
 | Qt=>
  cases ry;cases x with
  | Qt=>cases rx;exact YJ _
  | bl b=>cases rx;exact Uy.none_bool b
  | int b=>obtain⟨t,rfl⟩:=rx;exact Uy.none_int b t
  | str b=>obtain⟨t,rfl⟩:=rx;exact Uy.none_str b t
  | _=>exact Pp (show false=true from fx) Rt
 | bl a=>
  cases ry;cases x with
  | Qt=>cases rx;exact Uy.bool_none a
  | bl b=>cases rx;exact Uy.bool_bool a b
  | int b=>obtain⟨t,rfl⟩:=rx;exact Uy.bool_int a b t
  | str b=>obtain⟨t,rfl⟩:=rx;exact Uy.bool_str a b t
  | _=>exact Pp (show false=true from fx) Rt
 | int a=>
  obtain⟨t',rfl⟩:=ry;cases x with
  | Qt=>cases rx;exact Uy.int_none a t'
  | bl b=>cases rx;exact Uy.int_bool a t' b
  | int b=>obtain⟨t,rfl⟩:=rx;exact aak a t' b t
  | str b=>obtain⟨t,rfl⟩:=rx;exact afu a t' b t
  | _=>exact Pp (show false=true from fx) Rt
 | str a=>
  obtain⟨t',rfl⟩:=ry;cases x with
  | Qt=>cases rx;exact Uy.str_none a t'
  | bl b=>cases rx;exact Uy.str_bool a t' b
  | int b=>obtain⟨t,rfl⟩:=rx;exact afv a t' b t
  | str b=>obtain⟨t,rfl⟩:=rx;exact Uy.str_str a t' b t
  | _=>exact Pp (show false=true from fx) Rt
 | _=>exact Pp (show false=true from fy) Rt
noncomputable def Ui (x:V)(u:D'):Bool:=match u with
 | .none=>Re .Qt x
 | .bool b=>Re (.bl b) x
 | .int i _=>Re (.int i) x
 | .str z _=>Re (.str z) x
 | _=>false
theorem nW (r:aG y u)(f:cp y=true):Ui x u=Re y x:=by
 cases y with
 | Qt=>cases r;rfl
 | bl b=>cases r;rfl
 | int i=>obtain⟨t,rfl⟩:=r;rfl
 | str z=>obtain⟨t,rfl⟩:=r;rfl
 | _=>exact Pp (show false=true from f) Rt
theorem pJ {x:V}:∀{xs:List V}{us:List D'},aE xs us->xs.all cp=true->us.any (Ui x)=xs.any λy=>Re y x
 | _,_,.nil,_=>rfl
 | y::xs,u::us,.cons r t,f=>by
  rw[Z0,Tyq] at f
  rw[WQ,WQ,nW r f.1,pJ t f.2]
theorem hV {A:Pz}{s:J'}{x:V}{v:D'}(rx:aG x v)(fx:cp x=true):∀{xs:List V}{us:List D'},aE xs us->xs.all cp=true->∀u∈us,Uy A s u v (Ui x u)
 | _,_,.nil,_=>λu hu=>by cases hu
 | y::xs,u::us,.cons r t,f=>λb hu=>by
  rw[Z0,Tyq] at f
  rcases PN.mp hu with rfl|hu
  .rw[nW r f.1];exact zn r rx f.1 fx
  .exact hV rx fx t f.2 b hu
noncomputable def inV (x:V)(xs:List V):Bool:=xs.any λy=>Re y x
def rIn (K:O6)(neg:Bool):R2:=λx y H Q=>∃p xs,y=.ref p/\(Pg K H p xs\/Pw K H p xs)/\cp x=true/\xs.all cp=true/\Q (.bl (if neg then !inV x xs else inV x xs)) H
theorem tF:Qy X (RD .NotIn) (rIn X.K true):=by
 intro aa s f H x y v u Q I d e h;obtain⟨p,xs,rfl,hq,c,fs,q⟩:=h;cases e;rcases hq with hq|hq
 .obtain⟨its,r,pl,hz⟩:=I.list hq;refine afx (Ui x) pl.isList (λw b=>hV d c r fs w (by simpa using b)) ⟨.bl _,H,I,rfl,?_⟩;rw[show its.toArray.any (Ui x)=its.any (Ui x) by simp,pJ r fs];exact q
 .obtain⟨its,r,pl,hz⟩:=I.tuple hq;refine SeqAt.notIn_tupleAt (Ui x) pl (λw b=>hV d c r fs w (by simpa using b)) ⟨.bl _,H,I,rfl,?_⟩;rw[show its.toArray.any (Ui x)=its.any (Ui x) by simp,pJ r fs];exact q
theorem aN:cR X (.builtin "len") (λxs H Q=>∃p ys,xs=[.ref p]/\(Pg X.K H p ys\/Pw X.K H p ys)/\Q (.int ys.length) H):=by
 intro aa s d H xs us Q I r h;obtain⟨p,ys,rfl,hq,q⟩:=h;obtain⟨u,rfl,c⟩:=dH r;cases c;have e:=jm;rcases hq with hq|hq
 .obtain⟨its,b,pl,hz⟩:=I.list hq;have hlen:=b.length;exact Calls.call_len_list pl.isList (by simp only[Qv] <;> lia) ⟨.int ys.length,H,I.tok _,⟨s.toks+1,by rw[Qv,hlen]⟩,q⟩
 .obtain⟨its,b,pl,hz⟩:=I.tuple hq;have hlen:=b.length;exact len_tuple pl (by simp only[Qv] <;> lia) ⟨.int ys.length,H,I.tok _,⟨s.toks+1,by rw[Qv,hlen]⟩,q⟩
theorem ko:cR X (.type "list") (λxs H Q=>∃p ys,xs=[.ref p]/\(Pg X.K H p ys\/Pw X.K H p ys)/\∀l,H l=none->Q (.ref l) (upd H l (.lst ys))):=by
 intro aa s t H xs us Q I r h;obtain⟨p,ys,rfl,hq,q⟩:=h;obtain⟨u,rfl,v⟩:=dH r;cases v;have fin:∀(its:List D'),aE ys its->ys.length<=Pj->∀(h':O8) (d:Nat),(∀b m,s.heap.get? b=some m->h'.get? b=some m)->
   h'.get? s.heap.objs.size=some { cls:=.type "list",dict:=none,data:=.seq its.toArray d,slots:=#[] }->EP X aa t Q (.ref s.heap.objs.size) { s with heap:=h' }:=λits c hz h' d f e=>
  ⟨.ref s.heap.objs.size,_,I.laid (t':=s.toks) f (Po _) (show bq X.prog X.w _ h' _ (.lst ys) from⟨hz,its,d,c,e⟩),rfl,q _ (I.Pn.fresh (Po _))⟩
 rcases hq with hq|hq
 .obtain⟨its,c,pl,hz⟩:=I.list hq;have hlen:=c.length;obtain⟨o,j,g,n,hd⟩:=pl.isList;exact call_list_seq p (.inl rfl) j g hd (λh' d f e=>fin its c hz h' d f e) (by simp only[Qv] <;> lia)
 .obtain⟨its,c,pl,hz⟩:=I.tuple hq;have hlen:=c.length;obtain⟨o,j,g,n,hd⟩:=pl;exact call_list_seq p (.inr rfl) j g hd (λh' d f e=>fin its c hz h' d f e) (by simp only[Qv] <;> lia)
theorem cW:cR X (.type "tuple") (λxs H Q=>∃p ys,xs=[.ref p]/\((Pg X.K H p ys/\∀l,H l=none->Q (.ref l) (upd H l (.tup ys)))\/(Pw X.K H p ys/\Q (.ref p) H))):=by
 intro aa s g H xs us Q I r h;obtain⟨p,ys,rfl,h⟩:=h;obtain⟨u,rfl,m⟩:=dH r;cases m;rcases h with⟨c,q⟩|⟨c,q⟩
 .obtain⟨its,d,pl,hz⟩:=I.list c;have hlen:=d.length;refine call_tuple_list pl.isList (λh' n=>?_) (by simp only[Qv] <;> lia);have f:Inv X aa g H { s with heap:=h' }:=I.kept (t':=s.toks) n;have j:Inv X aa g (upd H h'.objs.size (.tup ys)) { s with heap:=h'.push { cls:=.type "tuple",data:=.seq its.toArray } }:=
   f.laid (t':=s.toks) (λb o e=>Qe _ e) (Po _) (show bq X.prog X.w _ _ _ (.tup ys) from⟨hz,its,d,fJ.new _ _⟩)
  exact⟨.ref h'.objs.size,_,j,rfl,q _ (f.Pn.fresh (Po _))⟩
 .obtain⟨its,d,pl,hz⟩:=I.tuple c;exact call_tuple_same pl ⟨.ref p,H,I,rfl,q⟩
def tyV (K:O6)(T:String)(x:V)(H:Hp):Prop:=match x with
 | .str _=>T="str"
 | .int _=>T="int"
 | .ref p=>(T="list"/\∃xs,Pg K H p xs)\/(T="tuple"/\∃o,K.lookup p=some o/\o.cls=.type "tuple"/\o.dict=none)\/
   (T="dict"/\((∃kvs,H p=some (.dK kvs))\/∃kvs,H p=some (.dT kvs)))\/(T="set"/\∃S n,H p=some (.set S n))
 | _=>False
theorem FY {σ:St}(I:Inv X aa σ H s)(r:aG x v)(ty:tyV X.K T x H):
  s.TypeIs v T/\∀a,v=.ref a->∃ob,s.heap.get? a=some ob/\ob.dict=none:=by
 cases x with
 | str z=>
  obtain⟨t,rfl⟩:=r;cases (show T="str" from ty);exact⟨typeIs_str s z t,λ_ e=>nomatch e⟩
 | int i=>
  obtain⟨t,rfl⟩:=r;cases (show T="int" from ty);exact⟨ab4 s i t,λ_ e=>nomatch e⟩
 | ref p=>
  cases r;rcases ty with⟨rfl,xs,f⟩|⟨rfl,o,b,g,hd⟩|⟨rfl,b⟩|⟨rfl,S,n,b⟩
  .obtain⟨its,_,pl,_⟩:=I.list f;refine⟨pl.isList.typeIs,λa e=>?_⟩;cases e;obtain⟨o,n,e,c,hd,_⟩:=pl;exact⟨o,e,hd⟩
  .refine⟨⟨o,I.Q9 p o b,g⟩,λa e=>?_⟩;cases e;exact⟨o,I.Q9 _ o b,hd⟩
  .have z:∃o,s.heap.get? p=some o/\o.ExactDict:=by
    rcases b with⟨kvs,b⟩|⟨kvs,b⟩
    .obtain⟨_,_,_,_,o,_,_,e,ex,_⟩:=I.Pn p _ b;exact⟨o,e,ex⟩
    .obtain⟨_,_,_,_,o,_,_,e,ex,_⟩:=I.Pn p _ b;exact⟨o,e,ex⟩
   obtain⟨o,e,ex⟩:=z;refine⟨⟨o,e,ex.1⟩,λa d=>?_⟩;cases d;exact⟨o,e,ex.2.1⟩
  .obtain⟨o,_,_,_,e,ex,_⟩:=I.Pn p _ b;refine⟨⟨o,e,ex.1⟩,λa d=>?_⟩;cases d;exact⟨o,e,ex.2.1⟩
 | _=>exact SF ty
def tBM (K:O6)(T:String)(r:V->List V->Hp->VK->Prop)(to:TE)(t:TA):TE:=λσ H Q=>to σ H λx H1=>tyV K T x H1/\t σ H1 λxs H2=>r x xs H2 Q
theorem dJ {X:Cx}{o:Pr}{e:Pr}{es:List Pr}{to:TE}{t:TA}{name:N'}{apos:Qd}{Sf:Qd}{T:String}{id:String}{r:V->List V->Hp->VK->Prop}(pa:PlainAttrs T)(slot:Slot T name id)(hty:typeOf (.builtin id)=pure (.type "method_descriptor"))(hm:MtR X id r)(ho:PE X o to)(ha:PA X (e::es) t)(ach:attributeBase o name X.env (eval o X.env)=eval o X.env:=by rfl)(acr:((backTo Sf (Qz (e::es) X.env)).all (λx=>!x.1)&&(backToKw Sf (keywordEach [] X.env)).all (λx=>x.1.isSome)
   && decide ((e::es).length+([]:List Keyword).length+(if ([]:List Keyword).isEmpty then 0 else 1)<30))=true:=by rfl)(aci:(apos.endLine==Sf.line)=true:=by rfl)(hs:Qz (e::es) X.env=(false,eval e X.env)::Qz es X.env:=by rfl)(acb:(backTo Sf (Qz es X.env)).any (·.1)=false:=by rfl):
  PE X (.Call (.Attribute o name apos) (e::es) [] Sf) (tBM X.K T r to t):=by
 intro aa s b H Q I h;refine wpAny_Call_method_late ach acr aci rfl (Pm (ho aa s b H _ I h) λv s1 g=>?_);obtain⟨x,p,c,d,ty,n⟩:=g;obtain⟨w,m⟩:=FY c d ty;refine⟨T,id,pa,slot,hty,w,m,?_⟩;have hA:=ha Sf aa s1 b p _ c n;rw[hs] at hA ⊢;refine Calls.callWith_builtin (by show(false||(backTo Sf (Qz es X.env)).any (·.1))=false;rw[acb] <;> rfl) (afj ?_);exact Pm hA λus s2 y=>Qb y λvs f j u l=>hm aa s2 b f x vs v us Q j d u l
def MtM (X:Cx)(id:String)(r:V->List V->Hp->VK->Prop):Prop:=
 ∀(aa:List (f'×G')) (s:J') (σ:St) (H:Hp) (x:V) (xs:List V) (v:D') (us:List D') (Q:VK),Inv X aa σ H s->aG x v->aE xs us->r x xs H Q->
  O7 (Pb X.prog X.w) X.A (call (.builtin id) (v::us)) (EP X aa σ Q) X.xe s
theorem aE.one:∀{x:V}{us:List D'},aE [x] us->∃u,us=[u]/\aG x u
 | _,_,.cons r .nil=>⟨_,rfl,r⟩
theorem aE.two:∀{x y:V}{us:List D'},aE [x,y] us->∃u v,us=[u,v]/\aG x u/\aG y v
 | _,_,_,.cons r (.cons q .nil)=>⟨_,_,rfl,r,q⟩
theorem aE.rep (h:aE xs us):∀k:Nat,aE (Qq k xs).flatten (Qq k us).flatten
 | 0=>.nil
 | k+1=>by
  rw[Wt,Wt,ZP,ZP];exact aE.append h (aE.rep h k)
theorem qG (its):∀(k:Nat) (acc:List D'),
  ab5 (λx1 x2=>x1++x2) acc.toArray (Qq k its.toArray)=(acc++(Qq k its).flatten).toArray
 | 0,acc=>by simp
 | k+1,acc=>by
  have e:acc.toArray++its.toArray=(acc++its).toArray:=by simp
  have b:(acc++its)++(Qq k its).flatten=acc++(Qq (k+1) its).flatten:=by
   rw[Wt,ZP,XE]
  rw[<-b,<-qG its k (acc++its),<-e,Wt,Va]
theorem Inv.aga {X:Cx}{aa:List (f'×G')}{σ:St}{H:Hp}{s:J'}{l:f'}{xs:List V}{ys:List V}{its its':List D'}{n:Nat}{f:Array D'->Array D'}{t':Nat}(I:Inv X aa σ H s)(hH:H l=some (.lst xs))(e:s.heap.get? l=some { cls:=.type "list",data:=.seq its.toArray n })(hf:f its.toArray=its'.toArray)(hv:aE ys its')(hz:ys.length<=Pj):
  Inv X aa σ (upd H l (.lst ys)) { s with heap:=s.heap.update l (Ro f),toks:=t' }:=by
 have q:=PySem.IsL.update e f;rw[hf] at q;refine I.write (x:=l) (e:=l) (by rw[hH];exact trivial) (.inl rfl) (λd u c b=>(YA s.heap (Ro f) (Qi c)).trans b) ⟨_,q⟩ ?_;exact⟨hz,its',_,hv,q⟩
theorem Inv.aem {σ:St}{t':Nat}(I:Inv X aa σ H s)(hv:aE ys its)(hz:ys.length<=Pj):
  Inv X aa σ (upd H s.heap.objs.size (.lst ys)) { s with heap:=s.heap.push { cls:=.type "list",data:=.seq its.toArray },toks:=t' }:=
 I.laid (λ_ _ q=>Qe _ q) (Po _) ⟨hz,its,0,hv,QX _ rfl⟩
theorem Inv.fresh {σ:St}(I:Inv X aa σ H s):H s.heap.objs.size=none:=I.Pn.fresh (Po _)
theorem Inv.aaW {σ:St}(I:Inv X aa σ H s)(hH:H l=some (.lst xs)):xs.length<=Pj/\∃(its:List D') (n:Nat),aE xs its/\xs.length=its.length/\s.heap.get? l=some { cls:=.type "list",data:=.seq its.toArray n }:=by
 obtain⟨z,its,n,r,e⟩:=I.Pn l _ hH;exact⟨z,its,n,r,r.length,e⟩
theorem BF (h:n<=Pj):acS n=false:=by
 unfold acS;exact P8 (by lia)
def Eg:V->List V->Hp->VK->Prop:=λx vs H Q=>∃l xs y,x=.ref l/\vs=[y]/\H l=some (.lst xs)/\xs.length<Pj/\Q .Qt (upd H l (.lst (xs++[y])))
theorem cN:MtM X "list.append" Eg:=by
 intro aa s j H x vs v us Q I d c h;obtain⟨l,xs,y,rfl,rfl,b,hz,q⟩:=h;cases d;obtain⟨u,rfl,f⟩:=c.one;obtain⟨z,its,n,r,g,e⟩:=I.aaW b;refine Z6 F.slot_list_append ⟨_,e,rfl⟩ F.entry_list_append (F.args_list_append_2 _ _) (PySem.list_append l its.toArray n u (by rw[Qv];lia)) ⟨e,?_⟩;refine⟨.Qt,_,I.aga (its':=its++[u]) b e (by simp) (r.append (.cons f .nil)) ?_,rfl,q⟩;rw[QI,ac0];lia
def Lz:R2:=λx y H Q=>∃l b xs zs,x=.ref l/\y=.ref b/\H l=some (.lst xs)/\H b=some (.lst zs)/\xs.length+zs.length<=Pj/\∀p,H p=none->Q (.ref p) (upd H p (.lst (xs++zs)))
theorem gv:Qy X (binaryOp .Add) Lz:=by
 intro aa s A H x y v u Q I o g h;obtain⟨l,b,xs,D,rfl,rfl,p,j,hz,q⟩:=h;cases o;cases g;obtain⟨z,its,n,r,t,e⟩:=I.aaW p;obtain⟨C,c,w,m,E,d⟩:=I.aaW j;refine PySem.P.add_list e d ?_ (by rw[Qv,Qv];lia);have f:its.toArray++c.toArray=(its++c).toArray:=by simp
 rw[f];exact⟨.ref _,_,I.aem (t':=s.toks) (r.append m) (by rw[QI];lia),rfl,q _ I.fresh⟩
def LA:R2:=λx y H Q=>∃l k xs,x=.ref l/\y=.int k/\H l=some (.lst xs)/\-(2 ^ 63)<=k/\k<2 ^ 63/\xs.length*k.toNat<=Pj/\
 ∀p,H p=none->Q (.ref p) (upd H p (.lst (Qq k.toNat xs).flatten))
theorem Eh {α:Type}(xs:List α)(k:Nat):(Qq k xs).flatten.length=k*xs.length:=by
 induction k with
 | zero=>simp
 | succ k b=>rw[Wt,ZP,QI,b,abP,adT]
theorem zp:Qy X (binaryOp .Mult) LA:=by
 intro aa s J H x y v u Q I E A h;obtain⟨l,k,xs,rfl,rfl,G,D,C,hz,q⟩:=h;cases E;obtain⟨t,rfl⟩:=A;obtain⟨z,its,n,r,o,e⟩:=I.aaW G;have hlen:its.toArray.size*k.toNat<=Pj:=by rw[Qv,<-o];exact hz
 have b:¬its.toArray.size*k.toNat > (2 ^ 63-1) / 8:=by
  have:(Pj:Nat)<=(2 ^ 63-1) / 8:=by decide
  lia
 have f:¬(!Tf.List.listFitsIndex k)=true:=by
  rw[fitsIndex_both D C];exact Rt
 have j:¬acS (its.toArray.size*k.toNat)=true:=by
  rw[BF hlen];exact Rt
 have c:ab5 (λd g=>d++g) #[] (Qq (if its.toArray.isEmpty=true then 0 else k.toNat) its.toArray)=(Qq k.toNat its).flatten.toArray:=by
  have p:∀m:Nat,ab5 (λd g=>d++g) #[] (Qq m its.toArray)=(Qq m its).flatten.toArray:=λm=>by
   have:=qG its m [];rw[List.nil_append] at this;exact this
  rw[p];cases its with
  | nil=>simp
  | cons a r'=>rw[O9 (by simp)]
 refine wpAny_binaryOp_repeat_ref (T:="list") (U:="int") (by decide) ⟨_,e,rfl⟩ (λw=>ab4 w k t) noFill_list_mul F.fills_int_mul F.slot_int_rmul repeat_list F.slot_int_index.lookup
  (Z6 F.slot_int_rmul (ab4 s k t) F.entry_int_rmul (F.args_int_rmul_2 _ _) (int___rmul___int_list k t l its.toArray n)
   ⟨e,rfl,⟨_,e,rfl⟩,Z6 F.slot_list_mul ⟨_,e,rfl⟩ F.entry_list_mul (F.args_list_mul_2 _ _) (AutoListH.list___mul___list_int_3 l its.toArray n k t f b j) ⟨e,?_⟩⟩)
 rw[c];exact⟨.ref _,_,I.aem (t':=s.toks) (r.rep k.toNat) (by rw[Eh,abQ];exact hz),rfl,q _ I.fresh⟩
end L2
namespace Att
open PySem PySem.W PySem.Calls PyProof.Rows
theorem nX:∀(ns:List Int) (vs:List D'),WellAll P h vs (ns.map WData.int)->VO vs ns:=by
 intro ns
 induction ns with
 | nil=>
  intro vs w;rw[aaD] at w;cases w;exact .nil
 | cons n ns c=>
  intro vs w;rw[Qr] at w;cases w with
  | cons a b=>
   cases a;exact .cons _ _ (c _ b)
theorem zq {l:OpenLaw}(hn:l.most=some n)(aaX:l.row.toRowW.claim.pre args=true)(hwl:WellAll P h vals args):
  ∃a vs ns,vals=[Qg a]/\args=[WData.list (ns.map WData.int)]/\h.get? a=some { cls:=.type "list",data:=.seq vs.toArray }/\VO vs ns/\ns.length<=n:=by
 have e:WShape.hasAll [] args [.list .int]=true:=(pre_splitW aaX).1;have f:l.pre.holds [] { args:=args }=true:=(pre_splitW aaX).2;obtain⟨d,r,rfl,m,g⟩:=hasAllW_cons e;obtain rfl:=hasAllW_nil g;obtain⟨xs,rfl,s⟩:=hasW_list m;obtain⟨ns,rfl⟩:=ab6 s;have hlen:ns.length<=n:=by
  unfold OpenLaw.pre at f;have b:(WTm.not (.lt (.lit (.int (n:Int))) (.len (.arg 0)))).holds [] { args:=[.list (ns.map .int)] }=true:=by
   have b:=(holds_andW f).1;rw[hn] at b;exact b
  have c:=condW_of b (w_not (w_lt w_lit (w_len_list (w_arg rfl))));rw[PP] at c;refine abv λq=>?_;have j:(n:Int)<((ns.length:Nat):Int):=by lia
  first
   | (rw[P7 j] at c;exact Pp c (by decide))
   | (simp at c;lia)
 cases hwl with
 | cons o p=>
  cases p;cases o with
  | list ho R1=>exact⟨_,_,ns,rfl,rfl,ho,nX ns _ R1,hlen⟩
theorem zt (l:OpenLaw)(args:List WData):l.row.toRowW.claim.post args (.bool true) args=true:=
 postW_of (r:=l.row.toRowW) (X:=(true==true))
  (show WShape.has [] (.bool true) .bool=true by first|rfl|decide|simp[WShape.has,WShape.arms,WShape.armsAll])
  (show(WTm.eq .res (.lit (.bool true))).value [] { args:=args,res:=some (.bool true),after:=args }=some (.bool (true==true)) from w_eq_bool (w_res rfl) w_lit) rfl
theorem vx {l:OpenLaw}(hn:l.most=some n)(hdf:d.params.defaults=[])(call:∀(w:Pd) (QH PH:J') (mg mb:N'->Option D') (fa:f') (o:G') (pm cd doc:D') (a:f') (vs:List D') (ns:List Int),
   Ground q loose [] XP w QH mg mb PH.heap->YP w PH.heap->
   PH.heap.get? fa=some o->o.data=.func (docDef d.name d.params d.body d.scope pm cd doc)->PH.heap.CodeRec cd d.name->mg d.name=some (.ref fa)->
   PH.heap.get? a=some { cls:=.type "list",data:=.seq vs.toArray }->VO vs ns->ns.length<=n->PH.gens=#[]->
   codeAny (Pb l.prog w) callerA (.call (.ref fa) ⟨[.ref a],[]⟩) (λr s'=>r=.ok (.ret (.bool true))/\OldK PH.heap s'.heap/\s'.os=PH.os/\Vd s'.gens) PH):
  WalkO q loose XP YP l.row.toRowW d [] (λf vs=>ad4 f vs):=by
 intro w QH PH mg mb G Y fa o pm cd doc t kV v hd m h b y args vals as g A C c p;obtain rfl:t=.none:=Dflts.none h hdf;obtain rfl:kV=.none:=Dflts.noKw h;obtain⟨a,vs,ns,rfl,rfl,e,hints,hlen⟩:=zq hn g c;refine enter_call (XJ (call w QH PH mg mb fa o pm cd doc a vs ns G Y v (fd_plain hd) m b e hints hlen y) λr s' s=>?_);obtain⟨rfl,x,D,j⟩:=s;exact⟨.inl ⟨.bool true,.bool true,[],rfl,λ_=>rfl,.bool true,zt l _,λ_=>⟨ZQ,λ_ u=>(nomatch u)⟩⟩,x,D,j⟩
end Att
namespace L2
open PySem PySem.Spec PyProof.Rows
theorem kq:∀{vs:List D'}{ns:List Int},VO vs ns->aE (ns.map V.int) vs
 | _,_,.nil=>.nil
 | _,_,.cons n t h=>.cons ⟨t,rfl⟩ (kq h)
def BG (H:Hp):Prop:=∀b,H b=none\/∃o xs,H b=some (.Q8 o (.lst xs))
theorem BH {K:O6}(KX:K.In PH.heap)(hns:PH.heap.Ns Qx mg)(hb:PH.heap.Ns builtinsNs mb)(hbb:∀x:N',x≠"__name__"->mb x=Sr x)(age:PH.heap.NoLimit)(hg:PH.gens=#[])(ha:PH.heap.get? a=some { cls:=.type "list",data:=.seq vs.toArray })(hi:VO vs ns)(hl:ns.length<=Pj)(hr:O5 k callerA)(F:∀base:O8,K.In base->base.Ns Qx mg->Py P w K mg base CX k fa fd [x] sp)(afV:∀(s:J') (u:D'),δ s fd ⟨[u],[]⟩ [(x,u)])(Ql:∀H:Hp,BG H->Pg K H a (ns.map V.int)->sp [.ref a] H (λv _=>v=.bl true) λ_ _ _=>False)(hCX:∀H e s',CX [] H PH (λ_ _ _=>False) e s'->False):
  codeAny (Pb P w) callerA (.call (.ref fa) ⟨[.ref a],[]⟩) (λr s'=>r=.ok (.ret (.bool true))/\OldK PH.heap s'.heap/\s'.os=PH.os/\Vd s'.gens) PH:=by
 have A:=kq hi;have t:=hi.length;have core:∀H:Hp,BG H->Pg K H a (ns.map V.int)->Q2 P w H PH.heap->(∀b,H b≠none->b=a)->(H a≠none->K.lookup a=none)->
   codeAny (Pb P w) callerA (.call (.ref fa) ⟨[.ref a],[]⟩) (λr s'=>r=.ok (.ret (.bool true))/\OldK PH.heap s'.heap/\s'.os=PH.os/\Vd s'.gens) PH:=by
  intro H E O C hA N;have j:∀{b:f'}{o:G'},PH.heap.get? b=some o->H b=none->(jC PH.heap H).get? b=some o:=λe n=>Bs e n;have l:∀{b:f'}{o:G'}{es:Array Rc}{ep:Nat},PH.heap.get? b=some o->o.data=.dict es ep->H b=none:=λ{b o es ep} e d=>by
   cases q:H b with
   | none=>rfl
   | some u=>
    have p:b=a:=hA b (by rw[q];simp);subst p;rw[ha] at e;cases e;have d':Data.seq vs.toArray _=Data.dict es ep:=d;cases d'
  have c:∀{b:f'}{m:N'->Option D'},PH.heap.Ns b m->(jC PH.heap H).Ns b m:=λ{b m} ⟨o,es,ep,e,d,r⟩=>⟨o,es,ep,j e (l e d),d,r⟩
  have f:K.In (jC PH.heap H):=λb o e=>j (KX b o e) (by
   cases q:H b with
   | none=>rfl
   | some u=>
    have p:b=a:=hA b (by rw[q];simp);subst p;rw[N (by rw[q];simp)] at e;cases e)
  have M:Mod K mg (jC PH.heap H):=⟨f,c hns,⟨mb,c hb,hbb⟩,let ⟨mc,h1,h2⟩:=age;⟨mc,c h1,h2⟩⟩
  have I:XZ P w K mg (jC PH.heap H) callerA [] PH H:=⟨rfl,M,λb o e=>DZ e,abN (y7 _ _),trivial,λb hb=>Pp (show b∈([]:List f') from hb) (by simp),C,.of_eq hg⟩
  refine XJ ((F _ f (c hns)).run callerA [] PH H ⟨[.ref a],[]⟩ [.ref a] [.ref a] _ _ hr I (afV PH (.ref a)) (.cons rfl .nil) (Ql H E O)) λr s' h=>?_;cases r with
  | error e=>exact(hCX H e s' h).elim
  | ok fl=>
   cases fl with
   | next=>exact SF h
   | brk=>exact SF h
   | cont=>exact SF h
   | ret u=>
    obtain⟨v,R,os,bare,un,y,J,q⟩:=h;have Q:v=.bl true:=q;subst Q;obtain rfl:u=UP true:=J;refine⟨rfl,OldK.of_keep λb o e=>?_,os,bare⟩;cases q:H b with
    | none=>exact un.keep b o e q (by intro z;exact Pp (show b∈([]:List f') from z) (by simp)) (by simp)
    | some u=>
     rcases E b with z|⟨ob,xs,z⟩
     .rw[q] at z;cases z
     .have L:=un.TH b ob _ z;obtain⟨D,_⟩:=C b _ z;obtain⟨G,_⟩:=y b _ L;rw[e] at D;cases D;exact G
 cases hk:K.lookup a with
 | some o=>
  have e:=KX a o hk;rw[ha] at e;cases e;refine core (λ_=>none) (λ_=>.inl rfl) (.inr ⟨_,vs.toArray,_,hk,rfl,rfl,rfl,by rw[Qv,t];exact hl,by simpa using A⟩) (λb u z=>by have g:(none:Option HO)=some u:=z;cases g) (λb z=>Pp rfl z) λz=>Pp rfl z
 | none=>
  refine core (λb=>if b=a then some (.Q8 { cls:=.type "list",data:=.seq vs.toArray } (.lst (ns.map V.int))) else none) (λb=>?_) (.inl (.inr ⟨{ cls:=.type "list",data:=.seq vs.toArray },Pf rfl⟩)) (λb u z=>?_) (λb z=>?_) λ_=>hk
  .by_cases hb:b=a
   .exact .inr ⟨_,_,Pf hb⟩
   .exact .inl (O9 hb)
  .by_cases hb:b=a
   .have g:=(Pf hb).symm.trans z;cases g;subst hb;exact⟨ha,by rw[PP];exact hl,vs,_,A,ha⟩
   .have g:=(O9 hb).symm.trans z;cases g
  .by_cases hb:b=a
   .exact hb
   .exact Pp (O9 hb) z
theorem Ei {l:W.OpenLaw}{n k:Nat}{q:Pk}{loose:List N'}{XP:(N'->Option D')->O8->Prop}{YP:Pd->O8->Prop}{d:DefRec}{K:XS->O6}{CX:Pd->R4}{sp:Pd->Sp}{x:N'}(hn:l.most=some n)(hn2:n<=Pj)(hdf:d.params.defaults=[])(hr:O5 k callerA)(hY:∀(w:Pd) (h:O8),YP w h->(K w.params).In h)(F:∀(w:Pd) (mg:N'->Option D') (fa:f') (h:O8),(K w.params).In h->h.Ns Qx mg->mg d.name=some (.ref fa)->
   ∃fd:PD,(∀(s:J') (u:D'),δ s fd ⟨[u],[]⟩ [(x,u)])/\
    ∀base:O8,(K w.params).In base->base.Ns Qx mg->Py l.prog w (K w.params) mg base (CX w) k fa fd [x] (sp w))(Ql:∀(w:Pd) (H:Hp) (a:f') (ns:List Int),ns.length<=n->BG H->Pg (K w.params) H a (ns.map V.int)->sp w [.ref a] H (λv _=>v=.bl true) λ_ _ _=>False)(hCX:∀(w:Pd) (H:Hp) (s:J') (e:D') (s':J'),CX w [] H s (λ_ _ _=>False) e s'->False):
  W.WalkO q loose XP YP l.row.toRowW d [] (λf vs=>ad4 f vs):=by
 refine Att.vx hn hdf λw E p mg M fa o L I doc a vs ns G Y J hd D c j hints hlen t=>?_;have m:=hY w _ Y;obtain⟨fd,A,hF⟩:=F w mg fa _ m G.T.g c;exact BH m G.T.g G.T.b G.T.builtins G.T.nolimit t j hints (RC hlen hn2) hr hF A (λH C y=>Ql w H a ns hlen C y) λH e s'=>hCX w H p e s'
noncomputable def dM (s:Pc):Arguments:=match s with
 | .FunctionDef _ a _ _ _ _ _ _ _ _=>a
 | _=>{ posonlyargs:=[],args:=[],vararg:=none,kwonlyargs:=[],kw_defaults:=[],kwarg:=none,defaults:=[] }
noncomputable def cO (s:Pc):List Pc:=match s with
 | .FunctionDef _ _ b _ _ _ _ _ _ _=>b
 | _=>[]
noncomputable def ap (s:Pc):Sd:=match s with
 | .FunctionDef _ _ _ _ _ _ sc _ _ _=>sc
 | _=>{ kind:=.function,names:=[],isGenerator:=false,isCoroutine:=false }
noncomputable abbrev Ph:R4:=λ_ _ _ _ _ _=>False
abbrev E0:XK:=λ_ _ _=>False
theorem sr:kh Ph X E0:=λ_ _ _ _ _ _ _ h=>h.elim
structure PR (K)(x qual)(st)(f:f')(fd):Prop where
 ex:∃(oc:D') (od:Option f') (kV doc pm:D') (an:Option f') (Pi ct:D') (Tl:Array (Option D')),
  fd=VP x qual (dM st) (cO st) (ap st) .none kV doc pm an Pi ct/\K.lookup f=some ⟨oc,od,.func fd,Tl⟩/\aaM K Pi qual=true
 kp:WX K (.ref f)=true
theorem PR.ok {P:Pk}{w:Pd}{K:O6}{mg:N'->Option D'}{base:O8}{x qual:N'}{st:Pc}{f:f'}{fd:PD}{N ps:List N'}{k:Nat}{sp:Sp}(F:PR K x qual st f fd)(S:Qc N ps (ap st))(len:∀vs H Q E,sp vs H Q E->vs.length=ps.length)(ι:∀(Pi:D') (A:Pz) (outer:List QU) (s:J') (H:Hp) (vs:List V) (Q:VK) (E:XK),O5 k (A.deeper (envOfC qual (ap st) s.heap.objs.size f Pi))->sp vs H Q E->
   ∃t,Su (dI Ph P w K mg base N qual (ap st) f Pi A outer s H E).Sg (cO st) t/\t { nx:=λ_ H'=>Q .Qt H',rt:=Q } (gL N vs) H):Py P w K mg base Ph (k+1) f fd ps sp:=by
 obtain⟨j,od,kV,doc,m,g,Pi,ct,l,rfl,c,b⟩:=F.ex;refine Dh c b S len λA outer s H vs Q E e d=>?_;obtain⟨t,h,q⟩:=ι Pi A outer s H vs Q E e d;exact⟨t,h.Sg,q⟩
theorem PR.binds {K:O6}{x qual:N'}{st:Pc}{f:f'}{fd:PD}{ps:List N'}(F:PR K x qual st f fd)(h:∀(kV doc pm:D') (an:Option f') (Pi ct:D') (us:List D'),us.length=ps.length->bindArgs (VP x qual (dM st) (cO st) (ap st) .none kV doc pm an Pi ct) ⟨us,[]⟩=pure (ps.zip us)):bK K fd ps []:=by
 obtain⟨b,od,kV,doc,pm,an,Pi,ct,e,rfl,d,c⟩:=F.ex;exact .all (h kV doc pm an Pi ct)
theorem zu {K:O6}{x qual:N'}{st:Pc}{f:f'}{oc:D'}{od an:Option f'}{Tl:Array (Option D')}{kV doc pm Pi ct:D'}(l:K.lookup f=some ⟨oc,od,.func (VP x qual (dM st) (cO st) (ap st) .none kV doc pm an Pi ct),Tl⟩)(c:aaM K Pi qual=true)(k:WX K (.ref f)=true):PR K x qual st f (VP x qual (dM st) (cO st) (ap st) .none kV doc pm an Pi ct):=⟨⟨oc,od,kV,doc,pm,an,Pi,ct,Tl,rfl,l,c⟩,k⟩
theorem ss (hr:O5 k A):A.units+1<PK:=XD (Nat.add_le_add_left (by decide:1<=64) _) hr.units
theorem pv (i:Nat)(hN:X.N[i]?=some x:=by rfl)(hv:Y9 X.env.scope x:=by first|exact PB rfl|exact Ve (PB rfl)|exact Ve (Ve rfl))(hd:(x==("__debug__":N'))=false:=by decide)(SL:(x==("__classdict__":N'))=false:=by decide):PE X (.Name x pos) (Bt i):=y8 hN hv hd SL
theorem ba {A B:Prop}(h:B):if false=true then A else B:=by
 rw[O9 Rt];exact h
theorem bn {A B:Prop}(h:A):if true=true then A else B:=by
 rw[Pf rfl];exact h
theorem xI {c A B:Prop}[Decidable c](h1:c->A)(h2:¬c->B):if c then A else B:=by
 by_cases h:c
 .rw[Pf h];exact h1 h
 .rw[O9 h];exact h2 h
def ar (H H':Hp):Prop:=∀b o,H b=some o->H' b=some o
theorem ar.refl (H):ar H H:=λ_ _ h=>h
theorem ar.trans (a:ar H H1)(b:ar H1 H2):ar H H2:=λc o h=>b c o (a c o h)
theorem ar.free (e:ar H H')(h:H' l=Option.none):H l=Option.none:=by
 cases q:H l with
 | none=>rfl
 | some o=>
  rw[e l o q] at h;cases h
end L2
set_option maxHeartbeats 4000000
namespace L2
open PySem PySem.Spec PyProof.Rows
theorem zw (x:bq P w H h a o):∃u,h.get? a=some u:=by
 cases o with
 | lst xs=>obtain⟨_,_,_,_,e⟩:=x;exact⟨_,e⟩
 | tup xs=>obtain⟨_,_,_,_,e,_⟩:=x;exact⟨_,e⟩
 | dK kvs=>obtain⟨_,_,_,_,o,_,_,e,_⟩:=x;exact⟨_,e⟩
 | dT kvs=>obtain⟨_,_,_,_,o,_,_,e,_⟩:=x;exact⟨_,e⟩
 | set S n=>obtain⟨o,_,_,_,e,_⟩:=x;exact⟨_,e⟩
 | ins C d fs=>obtain⟨_,_,_,e,_⟩:=x;exact⟨_,e⟩
 | own y=>obtain⟨_,e⟩:=x;exact⟨_,e⟩
 | xd fs=>obtain⟨_,⟨_,_,_,e,_⟩,_⟩:=x;exact⟨_,e⟩
 | RK lo b=>obtain⟨_,_,_,e⟩:=x;exact⟨_,e⟩
 | Q8 ob u=>obtain⟨e,_⟩:=x;exact⟨_,e⟩
 | Xb ps=>exact⟨_,show h.get? a=some _ from x⟩
 | met f y=>exact⟨_,show h.get? a=some _ from x⟩
 | ext c=>obtain⟨_,⟨_,e⟩,_⟩:=x;exact⟨_,e⟩
def Trc (h:O8)(e:f')(cls:D')(T:f'):Prop:=
 ∃a0 oe vs oT ts,h.get? e=some oe/\(oe.cls=cls/\vs[0]?=some a0)/\oe.data=.fields vs/\vs[1]?=some (.ref T)/\T≠e/\h.get? T=some oT/\oT.data=.fields ts/\ts[3]?=some .none
theorem Trc.ad8 (x:Trc h e cls T)(hT:B.get? T=none):∃a0,h.TracedW B e cls a0:=by
 obtain⟨a0,g,vs,d,ts,b,c,j,f,l,m⟩:=x;exact⟨a0,g,vs,T,d,ts,b,c,j,f,hT,l,m⟩
theorem tG (x:h.TracedW B e cls a0):∃T,Trc h e cls T/\B.get? T=none:=by
 obtain⟨j,vs,T,d,ts,b,c,l,g,f,m,n⟩:=x;exact⟨T,⟨a0,j,vs,d,ts,b,c,l,g,m,n⟩,f⟩
structure Fly (h0:O8)(H:Hp)(e:f')(cls:D')(h:O8):Prop where
 new:h0.get? e=none
 free:H e=none
 tr:∃T,Trc h e cls T/\h0.get? T=none/\H T=none
noncomputable def QQ (P:Pk)(w:Pd):R4:=λouter H s E e s'=>
 ∃(ea:f') (cls:D') (H':Hp),e=.ref ea/\s'.os=s.os/\Vd s'.gens/\Un (QL outer) [] H H' s.heap s'.heap/\Q2 P w H' s'.heap/\Fly s.heap H' ea cls s'.heap/\E cls none H'
theorem Di {X:Cx}(Vm:X.stack=X.env::X.outer)(hb:b∈X.fs):b∈QL X.stack:=by
 rw[Vm];obtain⟨env,c,d⟩:=Us.mp hb;exact Us.mpr ⟨env,PU _ c,d⟩
theorem xJ {σ:St}(I:Inv X aa σ H s)(hb:b∈QL X.stack):∃o,s.heap.get? b=some o/\∀vs,o.data≠.fields vs:=(I.stack.mem hb).2
theorem vS {σ:St}(I:Inv X aa σ H s)(hex:X.ex=[])(Vm:X.stack=X.env::X.outer)(hl:∀b∈l,H b=none/\X.QH.heap.get? b=none)(he:H e=none)(Rw:X.QH.heap.get? e=none)(st:∀b o,b∉QL X.stack->b∉l->s.heap.get? b=some o->h'.get? b=some o)(up:s.heap.UpToSlots h')(tr:h'.TracedW (YW s.heap (QL X.stack++l)) e cls a0)(q:E cls none H):
  QQ X.prog X.w X.outer X.Y1 X.QH E (.ref e) { s with heap:=h' }:=by
 have p:∀b,b∉X.ex:=λb z=>by rw[hex] at z;exact Pp z (by simp)
 have M:∀b o,X.QH.heap.get? b=some o->b∉X.fs->b∉QL X.stack:=λb o c J z=>by
  rcases PN.mp (I.Vf b z) with r|r
  .exact Pp (QP (P5 c) I.ok.above) (by rw[r];exact VL _)
  .exact J r
 have C:∀b o,X.QH.heap.get? b=some o->b∉l:=λb o c z=>by rw[(hl b z).2] at c;cases c
 have act:∀b,b∈QL X.stack->∃o g,s.heap.get? b=some o/\(∀vs,o.data≠.fields vs)/\h'.get? b=some { o with slots:=g }:=λb d=>by
  obtain⟨o,c,j⟩:=xJ I d;obtain⟨g,f⟩:=up b o c j;exact⟨o,g,c,j,f⟩
 obtain⟨T,A,D⟩:=tG tr;refine⟨e,cls,H,rfl,I.os,I.bare,⟨λb o c n d _=>?_,λb o c n d _=>?_,λb o c n _=>I.base.free b o c n (p b),λb o c _=>?_,I.base.RR,I.base.TH,I.base.Ud⟩,λa o v=>?_,⟨Rw,he,T,A,?_,?_⟩,q⟩
 .exact st b o (M b o c d) (C b o c) (I.base.keep b o c n d (p b))
 .obtain⟨g,f⟩:=I.base.slot b o c n d (p b);obtain⟨t,L,y,j,h⟩:=act b (Di Vm d);rw[f] at y;cases y;exact⟨L,h⟩
 .obtain⟨t,f⟩:=I.base.there b o c (p b)
  by_cases d:b∈QL X.stack
  .obtain⟨_,_,_,_,h⟩:=act b d;exact⟨_,h⟩
  .exact⟨t,st b t d (C b o c) f⟩
 .refine(I.Pn a o v).UT (λb u d c=>st b u (λz=>?_) (λz=>?_) c) (λ_ z=>z) λ_ _ z=>z
  .have n:=I.aaO b z;rcases d with r|r
   .rw[r,v] at n;cases n
   .rw[r] at n;cases n
  .have n:=(hl b z).1;rcases d with r|r
   .rw[r,v] at n;cases n
   .rw[r] at n;cases n
 all_goals
  have x:T∉QL X.stack:=λz=>by
   obtain⟨o,g,_,j,h⟩:=act T z;obtain⟨_,_,_,N,ts,_,_,_,_,_,F,G,_⟩:=A;rw[h] at F;cases F;exact j ts G
  have old:T∈l\/s.heap.get? T=none:=by
   by_cases z:T∈l
   .exact .inl z
   .refine .inr ?_;cases c:s.heap.get? T with
    | none=>rfl
    | some o=>
     rw[ZY _ c (λm=>(QJ.mp m).elim x z)] at D;cases D
 .rcases old with z|z
  .exact(hl T z).2
  .cases c:X.QH.heap.get? T with
   | none=>rfl
   | some o=>
    obtain⟨t,f⟩:=I.base.there T o c (p T);rw[z] at f;cases f
 .rcases old with z|z
  .exact(hl T z).1
  .cases c:H T with
   | none=>rfl
   | some o=>
    obtain⟨u,f⟩:=zw (I.Pn T o c);rw[z] at f;cases f
def dA (CX:R4)(X:Cx)(E:St->XK):Prop:=∀(aa:List (f'×G')) (σ:St) (H:Hp) (s:J') (e:D') (s':J'),Inv X aa σ H s->CX X.stack H s (E σ) e s'->X.xe e s'
def tI (X:Cx)(E:St->XK):Prop:=∀(aa:List (f'×G')) (σ:St) (H:Hp) (s:J') (h':O8) (e:f') (cls:D') (vs:List D'),Inv X aa σ H s->O8.MadeExcOf s.heap h' e cls vs->E σ cls none H->X.xe (.ref e) { s with heap:=h' }
def FZ (sp:Sp)(Rk:List V)(E:St->XK)(t:TA):TE:=λσ H Q=>t σ H λvs H1=>sp (vs++Rk) H1 Q (E σ)
theorem vT {X:Cx}{CX:R4}{k:Nat}{f:f'}{fd:PD}{ps:List N'}{sp:Sp}{Rk:List V}{ds:List D'}{E:St->XK}{aa:List (f'×G')}{σ:St}{H:Hp}{s:J'}{Q:VK}{us:List D'}{vs:List V}(F:Py X.prog X.w X.K X.mg X.base CX k f fd ps sp)(hr:O5 k X.A)(hb:bK X.K fd ps ds)(hd:aE Rk ds)(hx:dA CX X E)(I:Inv X aa σ H s)(r:aE vs us)(h:sp (vs++Rk) H Q (E σ)):O7 (Pb X.prog X.w) X.A (call (.ref f) us) (EP X aa σ Q) X.xe s:=by
 have c:aE (vs++Rk) (us++ds):=r.append hd;have d:(us++ds).length=ps.length:=by rw[<-c.length];exact F.len _ _ _ _ h
 refine ab3 (XJ (F.run X.A X.stack s H ⟨us,[]⟩ (us++ds) (vs++Rk) Q (E σ) hr I.acq (hb s us I.Q9 d) c h) λr j b=>?_);cases r with
 | error e=>exact hx aa σ H s e j I b
 | ok g=>
  cases g with
  | ret u=>exact I.after b
  | next=>exact SF b
  | brk=>exact SF b
  | cont=>exact SF b
theorem BI (F:Py X.prog X.w X.K X.mg X.base CX k f fd ps sp)(hr:O5 k X.A)(hg:Gl X x)(hm:X.mg x=some (.ref f))(hk:WX X.K (.ref f)=true)(hb:bK X.K fd ps ds)(hd:aE Rk ds)(hx:dA CX X E)(ha:PA X (e::es) t)(UZ:(x==("__debug__":N'))=false:=by decide)(he:Qz (e::es) X.env=(false,eval e X.env)::Qz es X.env:=by rfl)(Sw:(backTo pos (Qz es X.env)).any (·.1)=false:=by rfl):
  PE X (.Call (.Name x p) (e::es) [] pos) (FZ sp Rk E t):=by
 intro aa s c H Q I h;refine aaj (jg I hg hm ?_ UZ);refine W.callWith_K (h₀:=X.base) I.ok.mod.kin hk (Pm (ha pos aa s c H _ I h) λus s1 d=>Qb d λvs g b r q=>⟨b.Q9,?_⟩) he Sw;exact vT F hr hb hd hx b r q
theorem zx:dA Ph X E:=λ_ _ _ _ _ _ _ h=>h.elim
theorem pS:dA Ph X (λ_ _ _ _=>False):=zx
theorem Rq (K)(ha:PE X a ta)(hb:PE X b tb)(e:X.K=K:=by rfl)(hs:vR b:=by intro _ _;rfl):PE X (.Subscript a b pos) (tOp (BE K) ta tb):=by
 subst e;exact bj cZ ha hb hs
theorem lc (h:decide (sc.names.lookup y=some .local \/sc.names.lookup y=some .cell)=true):Loc sc y:=by
 unfold Loc;exact UL h
theorem BJ {K:O6}:dA (QQ P w) (dI (QQ P w) P w K mg base N qual scope f cd A outer PH H₁ E) (λ_=>E):=by
 intro aa W H s e u I R;obtain⟨c,cls,Z,rfl,F,O,un,G,d,q⟩:=R;have n:=I.acg (ch:=[]) F un G O (λb z=>Pp z (by simp));obtain⟨T,y,j,h⟩:=d.tr;have up:∀b,s.heap.get? b=none->PH.heap.get? b=none:=λb g=>by
  cases p:PH.heap.get? b with
  | none=>rfl
  | some o=>
   obtain⟨U,t⟩:=I.base.there b o p (by intro z;exact Pp (show b∈([]:List f') from z) (by simp));rw[g] at t;cases t
 have v:∀b∈[c,T],(YW u.heap (QL (dI (QQ P w) P w K mg base N qual scope f cd A outer PH H₁ E).stack++[c,T])).get? b=none:=λb g=>adD _ (RA _ g);obtain⟨Y,C⟩:=y.ad8 (v T (by simp));show O7 (Pb P w) (A.deeper (envOfC qual scope PH.heap.objs.size f cd)) (leaving (envOfC qual scope PH.heap.objs.size f cd) (.ref c)) _ _ u;refine wpAny_leaving_nextW (outer:=outer) (L:=PH.heap.objs.size) n.ok.frames (ado n.stack λenv M a J=>R8 _ (Us.mpr ⟨env,M,J⟩)) rfl C (λb o z=>abM _ z) (v c (by simp)) λh' x=>?_;obtain⟨k1,k2,k3,S⟩:=x;exact vS (X:=dI (QQ P w) P w K mg base N qual scope f cd A outer PH H₁ E) (l:=[c,T]) n rfl rfl
  (λb g=>by
   rcases PN.mp g with z|z
   .rw[z];exact⟨d.free,up c d.new⟩
   .rw[Qw.mp z];exact⟨h,up T j⟩)
  d.free (up c d.new) (λb o Q D p=>k1 b o (ZY _ p λm=>(QJ.mp m).elim Q D)) S k3 q
theorem xK {K:O6}:tI (dI (QQ P w) P w K mg base N qual scope f cd A outer PH H₁ E) (λ_=>E):=by
 intro aa G H s x e cls vs I g q;show O7 (Pb P w) (A.deeper (envOfC qual scope PH.heap.objs.size f cd)) (leaving (envOfC qual scope PH.heap.objs.size f cd) (.ref e)) _ _ { s with heap:=x };have C:H e=none:=by
  cases d:H e with
  | none=>rfl
  | some o=>
   obtain⟨u,c⟩:=zw (I.Pn e o d);rw[g.new] at c;cases c
 have h0:PH.heap.get? e=none:=by
  cases d:PH.heap.get? e with
  | none=>rfl
  | some o=>
   obtain⟨F,c⟩:=I.base.there e o d (by intro z;exact Pp (show e∈([]:List f') from z) (by simp));rw[g.new] at c;cases c
 refine wpAny_leaves_madeW (base:=YW s.heap (QL (dI (QQ P w) P w K mg base N qual scope f cd A outer PH H₁ E).stack++[])) (h:=s.heap) (outer:=outer) (L:=PH.heap.objs.size) (cls:=cls) (args:=vs) I.ok.frames rfl (λb o z=>abM _ z)
  (ado I.stack λenv v a p=>R8 _ (Us.mpr ⟨env,v,p⟩)) g λh' t j _ _ ups=>?_
 obtain⟨k1,k2,k3,D⟩:=j;exact vS (X:=dI (QQ P w) P w K mg base N qual scope f cd A outer PH H₁ E) (s:=s) (l:=[]) I rfl rfl (λb z=>Pp z (by simp)) C h0
  (λb o y n d=>k1 b o (ZY _ d λm=>(QJ.mp m).elim y n)) ((O8.UpToSlots.of_keeps g.keeps).trans ups) D q
theorem PR.Yd {P:Pk}{w:Pd}{K:O6}{mg:N'->Option D'}{base:O8}{x qual:N'}{st:Pc}{f:f'}{fd:PD}{N ps:List N'}{k:Nat}{sp:Sp}(F:PR K x qual st f fd)(S:Qc N ps (ap st))(len:∀vs H Q E,sp vs H Q E->vs.length=ps.length)(ι:∀(X:Cx) (Pi:D') (A:Pz) (outer:List QU) (s:J') (H:Hp) (vs:List V) (Q:VK) (E:XK),X=dI (QQ P w) P w K mg base N qual (ap st) f Pi A outer s H E->dA (QQ P w) X (λ_=>E)->tI X (λ_=>E)->
   O5 k X.A->sp vs H Q E->∃t,Su X (cO st) t/\t { nx:=λ_ H'=>Q .Qt H',rt:=Q } (gL N vs) H):Py P w K mg base (QQ P w) (k+1) f fd ps sp:=by
 obtain⟨h,od,kV,doc,l,g,Pi,ct,j,rfl,c,b⟩:=F.ex;refine Dh c b S len λA outer s H vs Q E e d=>?_;exact ι _ Pi A outer s H vs Q E rfl BJ xK e d
theorem PS.Sg {st:Pc}(h:PS X.Sg st t):PS X st t:=λaa s c H D I b=>
 UQ (h aa s c H D (I.UU _) b) (λ_ _ q=>q.VR) λ_ _ z=>SF z
abbrev bmV:List D':=[.type "ValueError",.type "Exception",.type "BaseException",.type "object"]
theorem Kg {K:O6}{h:O8}{C:f'}{bmB:List D'}{newId:String}(I:K.In h)(q:W.excIn K C bmB newId=true):
  ∃bm N nm qn bs hdct sn sub ab col dd k0 k1 k2 k3 k5 mN,h.get? C=some (excClassObj nm qn C N bs bm hdct sn sub ab col dd k0 k1 k2 k3 k5 newId)/\h.Ns N mN/\mN "__init__"=none/\OwnTail h bmB bm:=by
 unfold W.excIn at q
 split at q
 case h_2=>cases q
 case h_1 dd cd sl lk=>
  split at q
  case h_2=>cases q
  case h_1 C' bm k0 k1 k2 k3 nid k5 em es=>
   rw[Tyq,Tyq,Tyq,Tyq,Tyq] at q
   obtain⟨⟨⟨⟨⟨f,m⟩,d⟩,g⟩,c⟩,n⟩:=q
   have o:C'=C:=beq_iff_eq.mp f
   have e:nid=newId:=beq_iff_eq.mp m
   have b:cd.hasDel=false:=by cases hh:cd.hasDel with
    | false=>rfl
    | true=>rw[hh] at d;cases d
   subst o e
   have j:sl=#[k0,k1,k2,k3,some (.builtin nid),k5]:=by
    cases sl with
    | mk l=>exact congrArg Array.mk es
   cases cd with
   | mk name bases mro ns qualname hasDict slotNames subclasses abstract collection hasDel=>
    simp only at em b
    subst em b j
    exact⟨bm,ns,name,qualname,bases,hasDict,slotNames,subclasses,abstract,collection,dd,k0,k1,k2,k3,k5,_,I _ _ lk,
     .of_isNs (W.isNs_of_in I c),W.nsMap_none_of_in I c (beq_iff_eq.mp n),W.tail_of_in I g⟩
structure aen (K)(mg:N'->Option D')(x)(C:f'):Prop where
 bound:mg x=some (.ref C)
 ok:W.excIn K C bmV "ValueError.__new__"=true
def F1 (C:f')(E:St->XK)(t:TA):TS:=λ_ σ H=>t σ H λvs H1=>vs.length<=Pj/\E σ (.ref C) none H1
theorem hW (hc:X.calm=true)(hg:Gl X x)(O:aen X.K X.mg x C)(hr:tI X E)(ha:PA X (aaY::rest) t)(hd:(x==("__debug__":N'))=false:=by decide)(he:Qz (aaY::rest) X.env=(false,eval aaY X.env)::Qz rest X.env:=by rfl)(Sw:(backTo Sf (Qz rest X.env)).any (·.1)=false:=by rfl):
  PS X (.Raise (some (.Call (.Name x np) (aaY::rest) [] Sf)) none pos) (F1 C E t):=by
 intro aa s d H D I h;obtain⟨bm,N,nm,n,bs,hdct,sn,sub,ab,col,dd,k0,k1,k2,k3,k5,mN,o,p,c,T⟩:=Kg I.ok.mod.kin O.ok;refine wpAny_Raise_call_subT (C:=C) (nm:=nm) (q:=n) (N:=N) (bs:=bs) (bm:=bm) (hdct:=hdct) (sn:=sn) (sub:=sub) (ab:=ab) (col:=col) (dd:=dd) (k0:=k0) (k1:=k1) (k2:=k2) (k3:=k3) (k5:=k5) (mN:=mN)
  PySem.F.excBase_ValueError (T.hasType (by decide +kernel)) (I.ok.hd hc) (by rw[he];show(false||(backTo Sf (Qz rest X.env)).any (·.1))=false;rw[Sw];rfl) c (jg I hg O.bound ⟨rfl,?_⟩ hd)
 have f:=ha Sf aa s d H _ I h;rw[he] at f ⊢;refine afj (Pm f λus s2 ⟨vs,j,b,r,m,l⟩=>⟨rfl,by rw[<-r.length];exact m,b.bk _ _ o,p.keeps b.bk,T.keeps b.bk,λh' e g=>?_⟩);exact hr aa d j s2 h' e _ _ b g l
theorem gF:∀(names:List (N'×Uc)) (acc:List (N'×f')),(∀y∈names,y.2=.free->y.1≠x)->acc.lookup x=none->(∀y∈names,y.2=.free->∃c,env.cells.lookup y.1=some c)->
  ∃cl,(forIn (m:=Sem) names acc λ(y:N'×Uc) cs=>(do if (y.2==Vb)=true then (do let c <-cellOf env y.1;pure (YK ((y.1,c)::cs))) else pure (YK cs)))=pure cl/\(∀y d,cl.lookup y=some d->acc.lookup y=some d\/env.cells.lookup y=some d)/\(∀y∈names,y.2=.free->(cl.lookup y.1).isSome=true)/\(∀y,(acc.lookup y).isSome=true->(cl.lookup y).isSome=true)/\cl.lookup x=none
 | [],acc,_,h,_=>⟨acc,adE ..,λ_ _ e=>.inl e,(λ_ h=>Pp h (by simp)),λ_ e=>e,h⟩
 | (n,k)::r,acc,s,h,p=>by
  by_cases f:(k==Vb)=true
  .obtain⟨c,w⟩:=p (n,k) Px (by simpa using f);have t:cellOf env n=pure c:=by unfold cellOf;rw[w]
   have nx:=s (n,k) Px (by simpa using f);have look:∀y,VM y ((n,c)::acc)=if (y==n)=true then some c else acc.lookup y:=λy=>by
    rw[T8];cases (y==n) <;> rfl
   obtain⟨cl,v,l,o,j,u⟩:=gF r ((n,c)::acc) (λy b=>s y (PU _ b)) (by rw[look,O9 (by simpa using λz=>nx z.symm)];exact h) (λy b=>p y (PU _ b));refine⟨cl,?_,λy d e=>?_,λy b g=>?_,λy e=>?_,u⟩
   .rw[adu];simp only[f,if_true,t,pure_bind];exact v
   .rcases l y d e with z|z
    .rw[look] at z
     by_cases b:(y==n)=true
     .rw[Pf b] at z;have:y=n:=by simpa using b
      subst this;rw[w];exact .inr z
     .rw[O9 b] at z;exact .inl z
    .exact .inr z
   .rcases PN.mp b with z|z
    .subst z;exact j n (by rw[look,Pf (by simp)];rfl)
    .exact o y z g
   .refine j y ?_;rw[look]
    split
    .rfl
    .exact e
  .obtain⟨cl,v,l,o,j,u⟩:=gF r acc (λy b=>s y (PU _ b)) h λy b=>p y (PU _ b);refine⟨cl,?_,l,λy b g=>?_,j,u⟩
   .rw[adu];simp only[f,QY,if_false,pure_bind];exact v
   .rcases PN.mp b with z|z
    .subst z;exact Pp (by simpa using g) f
    .exact o y z g
theorem mE (nf:∀y∈scope.names,y.2=.free->y.1≠x)(h:∀y∈scope.names,y.2=.free->∃c,env.cells.lookup y.1=some c):
  ∃cl,closureFor scope env=pure cl/\(∀y c,cl.lookup y=some c->env.cells.lookup y=some c)/\(∀y∈scope.names,y.2=.free->(cl.lookup y.1).isSome=true)/\cl.lookup x=none:=by
 obtain⟨cl,d,f,g,_,j⟩:=gF scope.names [] nf rfl h;refine⟨cl,?_,λy c e=>(f y c e).elim (λz=>by cases z) id,g,j⟩;have e:closureFor scope env=((forIn (m:=Sem) scope.names ([]:List (N'×f')) λ(y:N'×Uc) b=>(do if (y.2==Vb)=true then (do let c <-cellOf env y.1;pure (YK ((y.1,c)::b))) else pure (YK b))) >>= pure):=rfl;rw[e,d];rfl
noncomputable def mS (x y:N'):N':=if y=x then ("":N') else y
noncomputable def Q5 (X:Cx)(scope:Sd)(cl:List (N'×f'))(x:N')(C:f')(PZ:J')(QT:Hp)(fp:List f')(aa:List (f'×G')):Cx where
 prog:=X.prog
 w:=X.w
 K:=X.K
 mg:=X.mg
 base:=X.base
 A:=X.A
 N:=x::X.N.map (mS x)
 QH:=PZ
 Y1:=QT
 env:=compEnvC scope cl C X.env
 outer:=X.stack
 stack:=X.stack
 ex:=fp
 fn:=λy=>y==x
 calm:=X.calm
 pn:=X.pn++aa
 xe:=λ_ _=>False
structure Sc (own:Bool)(sc:Sd)(N:List N')(scope:Sd)(x:N'):Prop where
 kind:scope.kind=.function
 cell:∀y∈scope.names,y.2=.cell->y.1=x/\own=true
 free:∀y∈scope.names,y.2=.free->sc.names.lookup y.1=some .cell\/sc.names.lookup y.1=some .free
 aeb:∀y∈scope.names,y.2=.free->y.1≠x
 names:∀y∈scope.names,y.2=.local ->scope.names.lookup y.1=some .local
 var:scope.names.lookup x=some (if own then .cell else .local)
 one:scope.names.filter (λy=>y.2==.cell)=if own then [(x,.cell)] else []
 other:∀y∈N,y≠x->scope.names.lookup y≠some .local
 emp:scope.names.lookup ("":N')=none
 nd:(x::N.map (mS x)).Nodup
theorem jn {scope:Sd}{env:QU}:∀{names:List (N'×Uc)}{y:N'}{k:Uc},
  (names.map λ(n,k)=>if (k==Vb&&env.scope.kind==.function&&env.kindOf n==some .cell) then (n,YR) else (n,k)).lookup y=some k->
   ∃k',names.lookup y=some k'/\(k'=k\/(k'=.free/\k=.cell))
 | [],_,_,h=>by simp at h
 | (n,k0)::r,y,k,h=>by
  rw[Qr] at h
  by_cases d:(y==n)=true
  .have:y=n:=by simpa using d
   subst this
   by_cases b:(k0==Vb&&env.scope.kind==.function&&env.kindOf y==some .cell)=true
   .simp only[b,if_true,T8,beq_self_eq_true] at h
    cases h
    rw[Tyq,Tyq] at b
    exact⟨k0,by simp[T8],.inr ⟨by simpa using b.1.1,rfl⟩⟩
   .simp only[b,QY,if_false,T8,beq_self_eq_true] at h
    cases h
    exact⟨k0,by simp[T8],.inl rfl⟩
  .have c:(y==n)=false:=by simpa using d
   have h':(r.map λ(n,k)=>if (k==Vb&&env.scope.kind==.function&&env.kindOf n==some .cell) then (n,YR) else (n,k)).lookup y=some k:=by
    by_cases b:(k0==Vb&&env.scope.kind==.function&&env.kindOf n==some .cell)=true
    .simp only[b,if_true,T8,c] at h;exact h
    .simp only[b,QY,if_false,T8,c] at h;exact h
   obtain⟨k',f,e⟩:=jn (scope:=scope) (env:=env) h'
   exact⟨k',by rw[T8,c];exact f,e⟩
theorem dU {env:QU}{k0:Uc}(hk:(k0==Vb)=false):∀{names:List (N'×Uc)}{x:N'},names.lookup x=some k0->
  (names.map λ(n,k)=>if (k==Vb&&env.scope.kind==.function&&env.kindOf n==some .cell) then (n,YR) else (n,k)).lookup x=some k0
 | [],_,h=>by simp at h
 | (n,k)::r,x,h=>by
  have b:=@dU env k0 hk r x;show VM x ((if (k==Vb&&env.scope.kind==.function&&env.kindOf n==some .cell)=true then (n,YR) else (n,k))::_)=_;cases hx:x==n with
  | true=>
   simp only[T8,hx] at h;cases h;simp[T8,hx,hk]
  | false=>
   simp only[T8,hx] at h
   by_cases c:(k==Vb&&env.scope.kind==.function&&env.kindOf n==some .cell)=true
   .rw[Pf c];simp only[T8,hx];exact b h
   .rw[O9 c];simp only[T8,hx];exact b h
theorem jD:∀(names:List (N'×Uc)) (n:Nat) (acc:List (N'×f')) (h:O8),names.filter (λy=>y.2==.cell)=[]->cellsFrom n names acc=acc/\pushCells h names=h
 | [],_,_,_,_=>⟨rfl,rfl⟩
 | (x,k)::r,n,acc,h,e=>by
  by_cases b:(k==YR)=true
  .rw[UJ (by exact b)] at e;cases e
  .rw[Wo (by exact b)] at e;unfold cellsFrom pushCells;rw[O9 b,O9 b];exact jD r n acc h e
theorem kr:∀(names:List (N'×Uc)) (n:Nat) (acc:List (N'×f')) (h:O8),names.filter (λy=>y.2==.cell)=[(x,.cell)]->cellsFrom n names acc=(x,n)::acc/\pushCells h names=h.push { cls:=.type "cell",data:=.cell none }
 | [],_,_,_,e=>by cases e
 | (y,k)::r,n,acc,h,e=>by
  by_cases b:(k==YR)=true
  .rw[UJ (by exact b)] at e;obtain⟨d,c⟩:=adM e;cases d;unfold cellsFrom pushCells;rw[Pf b,Pf b];exact jD r _ _ _ c
  .rw[Wo (by exact b)] at e;unfold cellsFrom pushCells;rw[O9 b,O9 b];exact kr r n acc h e
theorem Ej (h:Q (newEnv scope s.heap.objs.size globals (cellsFrom (s.heap.objs.size+1) scope.names cl) qual none .none (some env) builtinsNs) { s with heap:=pushCells (s.heap.push { cls:=.type "dict",data:=.dict #[] }) scope.names }):
  O7 M A (newFunctionEnv scope globals cl [] qual none .none (some env)) Q E s:=by
 simp only[newFunctionEnv,afy,if_true];refine O4 (wpAny_alloc ?_);refine O4 (wpAny_layCells _ (λname kind cells=>by cases hkc:kind==YR <;> simp[hkc]) _ _ _ _ ?_);rw[show({ s with heap:=s.heap.push { cls:=.type "dict",data:=.dict #[] } }:J').heap.objs.size=s.heap.objs.size+1 from YN ..];rw[adE];exact O4 (Pa (Pa h))
noncomputable abbrev bV (its:List D')(n:Nat):G':={ cls:=.type "list",data:=.seq its.toArray n }
variable {X:Cx}{scope:Sd}{cl:List (N'×f')}{x:N'}{C:f'}{D:f'}{PZ:J'}{QT:Hp}{fp:List f'}{aa:List (f'×G')}{σ:St}{own:Bool} in
theorem nY {RI:O8}{t':Nat}{its:List D'}{n:Nat}(I:Inv X aa σ QT PZ)(S:Sc own X.env.scope X.N scope x)(hfp:∀b∈fp,i6 X aa QT b)(hfo:∀b∈fp,∃o,PZ.heap.get? b=some o)(Sj:∀y c,cl.lookup y=some c->(y≠x/\X.env.cells.lookup y=some c)\/(y=x/\PZ.heap.objs.size<=c/\c≠C/\c≠D/\RI.IsCell c none))(hcx:own=true->(cl.lookup x).isSome=true)(hcf:∀y∈scope.names,y.2=.free->(cl.lookup y.1).isSome=true)(hD:PZ.heap.objs.size<=D)(hC:PZ.heap.objs.size<=C)(Vn:D≠C)(hns:∃m,RI.Ns C m)(hd:RI.get? D=some (bV its n))(keep:∀b o,PZ.heap.get? b=some o->RI.get? b=some o):
  Inv (Q5 X scope cl x C PZ QT fp aa) [(D,bV its n)] (none::σ) QT { PZ with heap:=RI,toks:=t' }:=by
 have A:∀{y:N'}{k:Uc},(compEnvC scope cl C X.env).kindOf y=some k->∃j,scope.names.lookup y=some j/\(j=k\/(j=.free/\k=.cell)):=λ{y k} h=>jn (scope:=scope) h;have w:∀{y:N'},((compEnvC scope cl C X.env).kindOf y=some .cell\/(compEnvC scope cl C X.env).kindOf y=some .free)->scope.names.lookup y=some .free\/(y=x/\own=true):=λ{y} h=>by
  rcases h with h|h
  .obtain⟨j,l,t⟩:=A h;rcases t with z|z
   .subst z;exact .inr (S.cell _ (Ws l) rfl)
   .rw[z.1] at l;exact .inl l
  .obtain⟨j,l,t⟩:=A h;rcases t with z|z
   .rw[z] at l;exact .inl l
   .exact Pp z.2 (by decide)
 have sz:=I.sz;have new:∀b,PZ.heap.objs.size<=b->b∉QL X.stack:=λb g z=>by
  rcases PN.mp (I.Vf b z) with r|r
  .exact Pp (QP I.lt g) (by rw[r];exact VL _)
  .exact I.ael g r
 have T:∀b o,PZ.heap.get? b=some o->b≠C:=λb o e=>Qs (QP (P5 e) hC);refine⟨⟨I.ok.mod,S.kind,I.ok.glob,I.ok.blt,hC,λy z c h1 h2=>?_,λy J=>?_,λy c h q=>?_,I.ok.hd,I.ok.frames,.inl rfl,λb g=>⟨?_,λy c h=>?_⟩,I.bs,RC I.ok.Vk sz,λb o e g=>?_,λb g z=>?_,I.stack,I.aaO⟩,
  rfl,I.bare,Un.kept keep,?_,λy c h=>?_,I.Pn.fresh hC,λy c h=>(Sj y c h).elim (λz=>I.Tg y c z.2) λz=>I.Pn.fresh z.2.1,λp hp=>?_,I.Pn.kept keep,?_⟩
 .have lt:∀y c,X.env.cells.lookup y=some c->c<PZ.heap.objs.size:=λy c q=>by
   obtain⟨v,z⟩:=I.cell y c q;exact z.lt
  rcases Sj y c h1 with⟨_,f⟩|⟨f,q2,_⟩ <;> rcases Sj z c h2 with⟨_,G⟩|⟨G,r2,_⟩
  .exact I.ok.inj y z c f G
  .exact Pp (lt y c f) (Nat.not_lt.mpr r2)
  .exact Pp (lt z c G) (Nat.not_lt.mpr q2)
  .rw[f,G]
 .rcases w J with e|⟨e,o⟩
  .exact Xy.mp (hcf (y,.free) (Ws e) rfl)
  .rw[e];exact Xy.mp (hcx o)
 .have e:y=x:=by simpa [Q5] using h
  rcases Sj y c q with⟨n,_⟩|⟨_,z,_⟩
  .exact Pp e n
  .exact z
 .obtain⟨o,e⟩:=hfo b g;exact T b o e
 .rcases Sj y c h with⟨_,q⟩|⟨_,q,_⟩
  .exact(hfp b g).2.2.2.2.1 y c q
  .obtain⟨o,e⟩:=hfo b g;exact Qi (Qs (QP (P5 e) q))
 .obtain⟨_,_,_,hx,_⟩:=hfp b g;rcases hx with r|r
  .exact I.ok.TJ b o e r
  .exact Pp (QP (P5 (I.ok.bs b o e).1) r) (VL _)
 .obtain⟨_,Y,hf,_⟩:=hfp b g;rcases PN.mp (I.Vf b z) with r|r
  .exact Y r
  .exact hf r
 .obtain⟨m,W⟩:=hns;obtain⟨m',_,U⟩:=I.loc;refine⟨m,W,λi y v l t L=>?_⟩;cases i with
  | zero=>cases (show some (none:Option V)=some (some v) from t)
  | succ i=>
   obtain⟨s,Ye,J⟩:∃s,X.N[i]?=some s/\mS x s=y:=by
    have E:(X.N.map (mS x))[i]?=some y:=l;rw[Q6] at E;obtain⟨s,p,q⟩:=ZF.mp E;exact⟨s,p,q⟩
   have F:s≠x:=λe=>by
    have:y=("":N'):=by rw[<-J];unfold mS;rw[Pf e]
    subst this;have no:∀k,(compEnvC scope cl C X.env).kindOf ("":N')=some k->False:=λk z=>by
     obtain⟨j,f,_⟩:=A z;rw[S.emp] at f;cases f
    rcases L with z|z|z <;> exact no _ z
   have ey:y=s:=by rw[<-J];unfold mS;rw[O9 F]
   subst ey;have U1:σ[i]?=some (some v):=t;have Q:scope.names.lookup y=some .free:=by
    rcases L with z|z
    .obtain⟨j,f,q2⟩:=A z;rcases q2 with q2|q2
     .rw[q2] at f;exact Pp f (S.other _ (QF Ye) F)
     .exact Pp q2.2 (by decide)
    .exact(w z).resolve_right λh=>F h.1
   have kd:(compEnvC scope cl C X.env).kindOf y=some .cell\/(compEnvC scope cl C X.env).kindOf y=some .free:=by
    rcases L with z|z
    .obtain⟨j,f,q2⟩:=A z;rw[Q] at f;cases f;rcases q2 with q2|q2
     .cases q2
     .exact Pp q2.2 (by decide)
    .exact z
   have kx:=S.free (y,.free) (Ws Q) rfl;obtain⟨u,r,q⟩:=U i y v Ye U1 (.inr kx);refine⟨u,r,.inr ⟨kd,?_⟩⟩;obtain⟨c,R⟩:=Xy.mp (hcf (y,.free) (Ws Q) rfl);refine⟨c,R,?_⟩;rcases q with⟨Z,_⟩|⟨_,c',M,z⟩
   .have P:X.env.scope.names.lookup y=some .local :=Z;rcases kx with kx|kx <;> (rw[P] at kx;cases kx)
   .have:=((Sj _ c R).resolve_right λh=>F h.1).2;rw[M] at this;cases this;obtain⟨o,O,hd⟩:=z;exact⟨o,keep _ _ O,hd⟩
 .rcases Sj y c h with⟨_,q⟩|⟨_,_,_,_,q⟩
  .obtain⟨v,o,O,hd⟩:=I.cell y c q;exact⟨v,o,keep _ _ O,hd⟩
  .exact⟨_,q⟩
 .rcases QJ.mp hp with z|z
  .obtain⟨e,n0,ne,nf,d⟩:=I.pin p z;refine⟨keep _ _ e,n0,T _ _ e,λq=>?_,d⟩;rcases PN.mp (I.Vf _ q) with r|r
   .exact ne r
   .exact nf r
  .rw[Qw.mp z];exact⟨hd,I.Pn.fresh hD,Vn,new D hD,λv q=>nomatch q⟩
 .show σ.length+1=(X.N.map (mS x)).length+1;rw[I.len,PP]
variable {X:Cx}{scope:Sd}{cl:List (N'×f')}{x:N'}{C:f'}{D:f'}{PZ:J'}{QT:Hp}{fp:List f'}{aa:List (f'×G')}{σ:St} in
theorem qH {V3:O8}{s':J'}{H':Hp}{Pu:St}{its:List D'}{n:Nat}{ys:List V}(I:Inv X aa σ QT PZ)(hfp:∀b∈fp,i6 X aa QT b)(hD:PZ.heap.objs.size<=D)(hC:PZ.heap.objs.size<=C)(J:Inv (Q5 X scope cl x C PZ QT fp aa) [(D,bV its n)] Pu H' s')(hs:Tz C s'.heap V3)(r:aE ys its)(hz:ys.length<=Pj):
  Inv X aa σ (upd H' D (.lst ys)) { s' with heap:=V3 }/\H' D=none:=by
 obtain⟨y,g,A,_,_⟩:=J.pin (D,bV its n) (RA _ Px);have j:∀b,b≠C->V3.get? b=s'.heap.get? b:=λb c=>hs.2 b c;have p:∀b o,PZ.heap.get? b=some o->b≠C:=λb o e=>Qs (QP (P5 e) hC);have l:∀b o,PZ.heap.get? b=some o->b≠D:=λb o e=>Qs (QP (P5 e) hD);have h:∀b u,H' b=some u->b≠C:=λb u e z=>by
  have f:H' C=none:=J.free;rw[z,f] at e;cases e
 have un:=J.base;refine⟨I.acg (ch:=fp) J.os ⟨λb o e m c d=>?_,λb o e m c d=>?_,λb o e m d=>?_,λb o e d=>?_,λb xs e=>?_,λb o u e=>?_,λb ps e=>?_⟩ ?_ J.bare (λb c=>?_),g⟩
 .exact(j b (p b o e)).trans (un.keep b o e m c d)
 .obtain⟨w,q⟩:=un.slot b o e m c d;exact⟨w,(j b (p b o e)).trans q⟩
 .rw[aq (l b o e)];exact un.free b o e m d
 .obtain⟨v,q⟩:=un.there b o e d;exact⟨v,(j b (p b o e)).trans q⟩
 .have q:=un.RR b xs e;rw[aq (au q g)];exact q
 .have q:=un.TH b o u e;rw[aq (au q g)];exact q
 .obtain⟨m,q⟩:=un.Ud b ps e;exact⟨m,by rw[aq (au q g)];exact q⟩
 .intro a o e
  by_cases s:a=D
  .subst s;rw[ag] at e;cases e;exact⟨hz,its,n,r,(j _ A).trans y⟩
  .rw[aq s] at e;refine(J.Pn a o e).UT (λb u c q=>(j b ?_).trans q) (λb q=>by rw[aq (au q g)];exact q) λb xs q=>by rw[aq (au q g)];exact q
   rcases c with z|z
   .rw[z];exact h a o e
   .exact h b _ z
 .obtain⟨_,E,_,t,F,G⟩:=hfp b c;exact⟨t,E,F,G⟩
theorem zy {X:Cx}{scope:Sd}{x:N'}{own:Bool}{M:Vg}{A:Pz}{E:D'->J'->Prop}{Q:QU->J'->Prop}{globals:f'}{qual:N'}{s2:J'}{P2:O8}{cl:List (N'×f')}(S:Sc own X.env.scope X.N scope x)(Y3:∀y c,cl.lookup y=some c->X.env.cells.lookup y=some c)(Y4:∀y∈scope.names,y.2=.free->(cl.lookup y.1).isSome=true)(ο:cl.lookup x=none)(hP:s2.heap.push { cls:=.type "list",dict:=none,data:=.seq ([]:List D').toArray }=P2)(h:P2.objs.size=s2.heap.objs.size+1->s2.heap.objs.size≠P2.objs.size->s2.heap.objs.size<=P2.objs.size->∀(cl:List (N'×f')) (RI:O8),RI.Ns P2.objs.size (λ_=>none)->(∀b o,s2.heap.get? b=some o->RI.get? b=some o)->RI.get? s2.heap.objs.size=some (bV [] 0)->
   (∀y c,cl.lookup y=some c->(y≠x/\X.env.cells.lookup y=some c)\/(y=x/\s2.heap.objs.size<=c/\c≠P2.objs.size/\c≠s2.heap.objs.size/\RI.IsCell c none))->(own=true->(cl.lookup x).isSome=true)->(∀y∈scope.names,y.2=.free->(cl.lookup y.1).isSome=true)->
   Q (newEnv scope P2.objs.size globals cl qual none .none (some X.env) builtinsNs) { s2 with heap:=RI }):O7 M A (newFunctionEnv scope globals cl [] qual none .none (some X.env)) Q E { s2 with heap:=P2 }:=by
 refine Ej ?_;have j:P2.objs.size=s2.heap.objs.size+1:=by rw[<-hP,YN]
 have s:s2.heap.objs.size≠P2.objs.size:=by rw[j];exact Qs (ZS _)
 have m:s2.heap.objs.size<=P2.objs.size:=by rw[j];exact XN _
 have t:(pushCells (P2.push { cls:=.type "dict",data:=.dict #[] }) scope.names).Ns P2.objs.size (λ_=>none):=(O8.Ns.new P2 (.type "dict")).keeps (adv _ _);have old:∀b o,s2.heap.get? b=some o->(pushCells (P2.push { cls:=.type "dict",data:=.dict #[] }) scope.names).get? b=some o:=λb o e=>adv _ _ _ _ (Qe _ (hP▸Qe _ e));have hd:(pushCells (P2.push { cls:=.type "dict",data:=.dict #[] }) scope.names).get? s2.heap.objs.size=some (bV [] 0):=adv _ _ _ _ (Qe _ (hP▸QX _ rfl));have d:(∀y c,(cellsFrom (P2.objs.size+1) scope.names cl).lookup y=some c->(y≠x/\X.env.cells.lookup y=some c)\/(y=x/\s2.heap.objs.size<=c/\c≠P2.objs.size/\c≠s2.heap.objs.size/\(pushCells (P2.push { cls:=.type "dict",data:=.dict #[] }) scope.names).IsCell c none))/\
   (own=true->((cellsFrom (P2.objs.size+1) scope.names cl).lookup x).isSome=true)/\∀y∈scope.names,y.2=.free->((cellsFrom (P2.objs.size+1) scope.names cl).lookup y.1).isSome=true:=by
  have f:∀y c,cl.lookup y=some c->y≠x:=λy c q e=>by rw[e,ο] at q;cases q
  have one:=S.one;cases own with
  | false=>
   obtain⟨l,u⟩:=jD scope.names (P2.objs.size+1) cl P2 one;rw[l];exact⟨λy c q=>.inl ⟨f y c q,Y3 y c q⟩,λh=>(by cases h),Y4⟩
  | true=>
   obtain⟨l,_⟩:=kr scope.names (P2.objs.size+1) cl P2 one;obtain⟨_,n⟩:=kr scope.names (P2.objs.size+1) cl (P2.push { cls:=.type "dict",data:=.dict #[] }) one;rw[l,n];have look:∀y,VM y ((x,P2.objs.size+1)::cl)=if (y==x)=true then some (P2.objs.size+1) else cl.lookup y:=λy=>by
    rw[T8];cases (y==x) <;> rfl
   refine⟨λy c q=>?_,λ_=>by rw[look,Pf (by simp)];rfl,λy g p=>?_⟩
   .rw[look] at q
    by_cases g:(y==x)=true
    .rw[Pf g] at q;cases q;refine .inr ⟨by simpa using g,RC m (XN _),Nat.succ_ne_self _,by rw[j];exact XI (aao (ZS _)),⟨{ cls:=.type "cell",data:=.cell none },?_,rfl⟩⟩;have:=QX (P2.push { cls:=.type "dict",data:=.dict #[] }) (o:={ cls:=.type "cell",data:=.cell none }) rfl;rwa[YN] at this
    .rw[O9 g] at q;exact .inl ⟨f y c q,Y3 y c q⟩
   .rw[look]
    split
    .rfl
    .exact Y4 y g p
 exact h j s m _ _ t old hd d.1 d.2.1 d.2.2
def nZ (J:It)(σ:St)(tt:TT)(te:TE)(Q:VK)(H1:Hp):Prop:=∃W:Nat->Nat->List V->Hp->Prop,(∃m,W 0 m [] H1)/\∀i m ys H2,W i m ys H2->
 (J.stop i H2/\ys.length<=Pj/\∀p,H2 p=none->Q (.ref p) (upd H2 p (.lst ys)))\/
 (J.go i H2/\ys.length<Pj/\∃N:List V->Hp->Prop,(∀zs H',N zs H'->∃m',m' < m/\W (i+1) m' zs H')/\∀x H3,J.Xe i H2 x H3->tt (some x::σ) H3 λb H4=>if b=true then te (some x::σ) H4 λy H5=>N (ys++[y]) H5 else N ys H4)
def Dj (wi:TI)(tt:TT)(te:TE):TE:=λσ H Q=>wi σ H λJ H1=>nZ J σ tt te Q H1
def Dl:TT:=λ_ H Q=>Q true H
theorem V4 (h:Q true H):Dl σ H Q:=h
def PTs (Y:Cx)(ifs:List Pr)(t:TT):Prop:=
 ∀(aa:List (f'×G')) (s:J') (σ:St) (H:Hp) (Q:Bool->Hp->Prop),Inv Y aa σ H s->t σ H Q->
  O7 (Pb Y.prog Y.w) Y.A (forIn ifs true λc r=>if r=true then do let ok <-isTrue c Y.env (eval c Y.env);pure (YK ok) else pure (YK r)) (TP Y aa σ Q) Y.xe s
theorem eJ:PTs Y [] Dl:=λaa s b H Q I h=>wpAny_tests_nil ⟨H,I,h⟩
theorem gR (h:PT Y c t):PTs Y [c] t:=λaa s b H Q I q=>wpAny_tests_one (h aa s b H Q I q)
theorem fM {α:Type}{M:Vg}{A:Pz}{t:Sem α}{Q:α->J'->Prop}{E:D'->J'->Prop}{s:J'}(h:O7 M A t Q (λ_ _=>False) s):O7 M A t Q E s:=UQ h (λ_ _ z=>z) λ_ _ z=>z.elim
theorem dB (hc:X.calm=true)(S:Sc own X.env.scope X.N scope x)(hi:PI X (.Name x px) iter wi)(ht:∀(cl:List (N'×f')) (C:f') (PZ:J') (QT:Hp) (fp:List f') (aa:List (f'×G')),PTs (Q5 X scope cl x C PZ QT fp aa) ifs tt)(he:∀(cl:List (N'×f')) (C:f') (PZ:J') (QT:Hp) (fp:List f') (aa:List (f'×G')),PE (Q5 X scope cl x C PZ QT fp aa) elt te)(hN:X.N.Nodup)(hs:∀v,foldedSetIterable iter X.env v=pure v:=by intro _;rfl):PE X (.ListComp elt [⟨.Name x px,iter,ifs,0⟩] scope pos) (Dj wi tt te):=by
 intro aa s l H Q I h;obtain⟨cl,acu,Y3,Y4,ο⟩:=mE (x:=x) S.aeb (scope:=scope) (env:=X.env) (λy hy hf=>I.ok.has y.1 (S.free y hy hf));rw[eval_ListComp];refine ae1 (use:=none) (E:=X.xe) rfl hs acu S.kind S.names (Pm (hi aa s l H _ I h) λG s1 h1=>Pm h1 λitv s2 h2=>?_);obtain⟨it,fp,tn,J,g,e,L,T,Rf,U,W,⟨m0,w0⟩,turn⟩:=h2;subst e;refine Uu (zy S Y3 Y4 ο rfl λhC Vn Z cl RI X1 old hd Y hk2 hk3=>?_);generalize s2.heap.push { cls:=.type "list",dict:=none,data:=.seq ([]:List D').toArray }=P2 at hC Vn Z X1 Y ⊢;show codeAny _ _ (.compStart _ 0 (.ref it) (.ref s2.heap.objs.size) (compEnvC scope cl P2.objs.size X.env)) _ _;have fo:∀b∈fp,∃o,s2.heap.get? b=some o:=λb f=>by
  obtain⟨o,e,_⟩:=T.obj _ _ Rf b f;exact⟨o,e⟩
 have Yg:∀b∈fp,b≠s2.heap.objs.size:=λb f=>by
  obtain⟨o,e⟩:=fo b f;exact Qs (P5 e)
 have JY:Inv (Q5 X scope cl x P2.objs.size s2 g fp aa) [(s2.heap.objs.size,bV [] 0)] (none::l) g { s2 with heap:=RI,toks:=s2.toks }:=
  nY L S U fo Y hk2 hk3 (Po _) Z Vn ⟨_,X1⟩ hd old
 have UV:∀{D:Hp}{its:List D'}{n:Nat},(∀b∈fp,D b=none)->∀b∈fp,i6 (Q5 X scope cl x P2.objs.size s2 g fp aa) [(s2.heap.objs.size,bV its n)] D b:=λ{D its n} hn b f=>by
  obtain⟨_,g1,g2,g3,g4,g5⟩:=U b f;obtain⟨o,e⟩:=fo b f;refine⟨hn b f,?_,λz=>?_,.inl f,λy c q=>?_,λp F=>?_⟩
  .show b≠P2.objs.size;exact Qs (QP (P5 e) Z)
  .rcases PN.mp (L.Vf b z) with r|r
   .exact g1 r
   .exact g2 r
  .rcases Y y c q with⟨_,z⟩|⟨_,z,_⟩
   .exact g4 y c z
   .exact Qi (Qs (QP (P5 e) z))
  .rcases QJ.mp F with z|z
   .exact g5 p z
   .rw[Qw.mp z];exact λq=>Yg b f q.symm
 have nodup:(Q5 X scope cl x P2.objs.size s2 g fp aa).N.Nodup:=S.nd;have loc:Loc (Q5 X scope cl x P2.objs.size s2 g fp aa).env.scope x:=by
  have v:=S.var;cases own with
  | false=>exact .inl (dU rfl v)
  | true=>exact .inr (dU rfl v)
 have loop:∀s4:J',s4={ s2 with heap:=RI }->
   codeAny (Pb X.prog X.w) X.A (.compLoop (.ListComp elt [⟨.Name x px,iter,ifs,0⟩] scope pos) 0 (.ref it) (.ref s2.heap.objs.size) (compEnvC scope cl P2.objs.size X.env))
    (compPost (Pb X.prog X.w) X.A X.xe none (EP X aa l Q) (.ref s2.heap.objs.size) P2.objs.size) s4:=by
  rintro s4 rfl;refine codeAny_loop rfl (λn s'=>∃i m its c D v0,Inv (Q5 X scope cl x P2.objs.size s2 g fp aa) [(s2.heap.objs.size,bV its c)] (v0::l) D s'/\tn i s'.heap/\(∀b∈fp,D b=none)/\aE m its/\W i n m D) ?_ m0
   ⟨0,[],[],0,g,none,JY,T.keep _ _ _ Rf (λb _ o e=>old b o e),λb f=>(U b f).1,.nil,w0⟩
  rintro n s3 ⟨i,m,its,c,H3,v0,I3,Sh,Xh,rv,w3⟩;show O7 _ _ ((compTurn (.ListComp elt [⟨.Name x px,iter,ifs,0⟩] scope pos) 0 (.ref it) (.ref s2.heap.objs.size) (compEnvC scope cl P2.objs.size X.env)).onRaise (λz=>do noteFrame z (compEnvC scope cl P2.objs.size X.env);theTreesLotGoes z)) _ _ s3;refine wpAny_noted ?_;rw[compTurn_list];rcases turn i n m H3 w3 with⟨stop,hz,qn⟩|⟨go,hz,NN,O,step⟩
  .refine O4 (ZZ (O4 (Pm (T.done (Q5 X scope cl x P2.objs.size s2 g fp aa) rfl rfl rfl hc i _ s3 _ H3 _ I3 (UV Xh) Sh stop) λr s5 t=>?_)));obtain⟨hr,I5⟩:=t;subst hr;refine Pa ?_;obtain⟨mC,hmC,_⟩:=I5.loc;refine⟨mC,hmC,λV3 π=>?_⟩;obtain⟨I6,R⟩:=qH L U (Po _) Z I5 π rv hz;exact⟨.ref s2.heap.objs.size,_,I6,rfl,qn _ R⟩
  .refine O4 (ZZ (O4 (Pm (T.item (Q5 X scope cl x P2.objs.size s2 g fp aa) rfl rfl rfl hc i _ s3 _ H3 _ I3 (UV Xh) Sh go) λr s5 t=>?_)));obtain⟨u,hr,h5⟩:=t;subst hr;refine O4 (Pm h5 λ_ s6 t=>?_);obtain⟨G,H6,I6,r6,y6,Yh,fr6⟩:=t;have I6':=I6.pinned (UV fr6) (T.obj _ _ Yh);refine O4 (abp (fQ (i:=0) I6' nodup rfl loc r6 (λs7 I7=>?_) (.inl (by show(x==x)=true;simp))));have q7:=step G H6 y6;refine O4 (fM (Pm (ht cl P2.objs.size s2 g fp aa _ s7 _ H6 _ I7 q7) λok s8 t=>?_));obtain⟨H8,I8,q8⟩:=t;have back:∀{j:Hp}{s9:J'},Inv (Q5 X scope cl x P2.objs.size s2 g fp aa) ([(s2.heap.objs.size,bV its c)]++jj fp s6.heap) (some G::l) j s9->tn (i+1) s9.heap/\∀b∈fp,j b=none:=λ{j s9} P=>by
    refine⟨T.keep _ _ _ Yh λb f o e=>(P.pin (b,o) (RA _ (RA _ (eG f e)))).1,λb f=>?_⟩;obtain⟨o,e,d⟩:=T.obj _ _ Yh b f;exact(P.pin (b,o) (RA _ (RA _ (eG f e)))).2.1
   cases ok with
   | false=>
    obtain⟨m',hm,w8⟩:=O m H8 q8;obtain⟨t8,fr8⟩:=back I8;exact Pa ⟨rfl,m',hm,i+1,m,its,c,H8,_,I8.XQ,t8,fr8,rv,w8⟩
   | true=>
    refine O4 (O4 (fM (Pm (he cl P2.objs.size s2 g fp aa _ s8 _ H8 _ I8 q8) λyv s9 hh=>Qb hh λy j P r9 q9=>?_)));obtain⟨m',hm,w9⟩:=O _ _ q9;obtain⟨t9,fr9⟩:=back P;have M:=P.XQ;obtain⟨eD,R,Xc,nf,_⟩:=M.pin (s2.heap.objs.size,bV its c) (RA _ Px);refine O4 (ae5 (items:=its.toArray) ⟨c,eD⟩ (λUl acv X2=>?_) (by rw[Qv,<-rv.length];exact XH hz));obtain⟨c',e10⟩:=acv;have acw:Ul.get? s2.heap.objs.size=some (bV (its++[yv]) c'):=by rw[e10];simp
    have I10:Inv (Q5 X scope cl x P2.objs.size s2 g fp aa) [] (some G::l) j { s9 with heap:=Ul }:=by
     have I9e:Inv (Q5 X scope cl x P2.objs.size s2 g fp aa) [] (some G::l) j s9:=M.YZ λp F=>Pp F (by simp);refine I9e.turned (t':=s9.toks) (it:=s2.heap.objs.size) (λb o f q=>(X2.2 b f).trans q) R Xc (.inr (Po _)) (λy cc q=>?_) λp F=>?_
     .rcases Y y cc q with⟨_,z⟩|⟨_,_,_,z,_⟩
      .obtain⟨v,z⟩:=L.cell y cc z;exact Qs z.lt
      .exact z
     .have hp':p∈X.pn++aa:=by
       have z:p∈(X.pn++aa)++[]:=F;simpa using z
      exact Qs (P5 (L.pin p hp').1)
    have I11:Inv (Q5 X scope cl x P2.objs.size s2 g fp aa) [(s2.heap.objs.size,bV (its++[yv]) c')] (some G::l) j { s9 with heap:=Ul }:=
     I10.YZ λp F=>by rw[Qw.mp F];exact⟨acw,R,Xc,nf,λv q=>nomatch q⟩
    refine Pa (Pa ⟨rfl,m',hm,i+1,m++[y],its++[yv],c',j,_,I11,?_,fr9,rv.append (.cons r9 .nil),w9⟩);exact T.keep _ _ _ t9 λb f o q=>(X2.2 b (Yg b f)).trans q
 exact codeAny_compStart_list (loop _ rfl) (T.self X.A 0 _ _ _ (T.keep _ _ _ Rf (λb _ o e=>old b o e)) (loop _ rfl))
theorem jE {K:O6}(Pv:Nat->List V->Hp->Prop)(h0:Pv 0 [] H)(hl:∀i ys H,i<=xs.length->Pv i ys H->Pw K H a xs/\ys.length<=i)(hz:xs.length<=Pj)(hs:∀i x ys H,xs[i]?=some x->Pv i ys H->tt (some x::σ) H λb H4=>if b=true then te (some x::σ) H4 λy H5=>Pv (i+1) (ys++[y]) H5 else Pv (i+1) ys H4)(hd:∀ys H p,Pv xs.length ys H->H p=none->Q (.ref p) (upd H p (.lst ys))):nZ (Zb K a) σ tt te Q H:=by
 refine⟨λi m ys H=>m=xs.length-i/\i<=xs.length/\Pv i ys H,⟨xs.length,by simp,QN _,h0⟩,?_⟩;rintro i m ys c ⟨rfl,f,p⟩;obtain⟨q,o⟩:=hl i ys c f p
 by_cases d:i<xs.length
 .refine .inr ⟨⟨xs,xs[i],q,by simp[d]⟩,by lia,Pv (i+1),λn l g=>⟨xs.length-(i+1),by lia,rfl,d,g⟩,λx j y=>?_⟩;obtain⟨e,y⟩:=y;subst e;exact hs i x ys _ (y xs q) p
 .have e:i=xs.length:=by lia
  subst e;exact .inl ⟨⟨xs,q,Po _⟩,by lia,λb h=>hd ys c b p h⟩
theorem hZ {K:O6}(Pv:Nat->List V->Hp->Prop)(h0:Pv 0 [] H)(hl:∀i ys H,i<=xs.length->Pv i ys H->Pg K H a xs/\ys.length<=i)(hz:xs.length<=Pj)(hs:∀i x ys H,xs[i]?=some x->Pv i ys H->tt (some x::σ) H λb H4=>if b=true then te (some x::σ) H4 λy H5=>Pv (i+1) (ys++[y]) H5 else Pv (i+1) ys H4)(hd:∀ys H p,Pv xs.length ys H->H p=none->Q (.ref p) (upd H p (.lst ys))):nZ (Za K a) σ tt te Q H:=by
 refine⟨λi m ys H=>m=xs.length-i/\i<=xs.length/\Pv i ys H,⟨xs.length,by simp,QN _,h0⟩,?_⟩;rintro i m ys c ⟨rfl,f,p⟩;obtain⟨q,o⟩:=hl i ys c f p
 by_cases d:i<xs.length
 .refine .inr ⟨⟨xs,xs[i],q,by simp[d]⟩,by lia,Pv (i+1),λn l g=>⟨xs.length-(i+1),by lia,rfl,d,g⟩,λx j y=>?_⟩;obtain⟨e,y⟩:=y;subst e;exact hs i x ys _ (y xs q) p
 .have e:i=xs.length:=by lia
  subst e;exact .inl ⟨⟨xs,q,Po _⟩,by lia,λb h=>hd ys c b p h⟩
theorem h9 {lo:Int}(Pv:Nat->List V->Hp->Prop)(h0:Pv 0 [] H)(hl:∀i ys H,i<=n->Pv i ys H->ys.length<=i)(hz:n<=Pj)(hs:∀i ys H,i<n->Pv i ys H->tt (some (.int (lo+i))::σ) H λb H4=>if b=true then te (some (.int (lo+i))::σ) H4 λy H5=>Pv (i+1) (ys++[y]) H5 else Pv (i+1) ys H4)(hd:∀ys H p,Pv n ys H->H p=none->Q (.ref p) (upd H p (.lst ys))):nZ (Xf lo n) σ tt te Q H:=by
 refine⟨λi m ys H=>m=n-i/\i<=n/\Pv i ys H,⟨n,by simp,QN _,h0⟩,?_⟩;rintro i m ys d ⟨rfl,f,p⟩;have s:=hl i ys d f p
 by_cases c:i<n
 .refine .inr ⟨c,by lia,Pv (i+1),λo l g=>⟨n-(i+1),by lia,rfl,c,g⟩,λx j y=>?_⟩;obtain⟨e,y⟩:=y;subst e y;exact hs i ys _ c p
 .have e:i=n:=by lia
  subst e;exact .inl ⟨Po _,by lia,λb h=>hd ys d b p h⟩
noncomputable def cU (lo:Int)(n:Nat):List V:=(QK n).map λ(i:Nat)=>V.int (lo+(i:Int))
theorem dN (lo:Int)(n:Nat):(cU lo n).length=n:=by simp[cU]
theorem i7 (hl:xs.length=us.length)(h:∀(i:Nat) x u,xs[i]?=some x->us[i]?=some u->aG x u):aE xs us:=by
 induction xs generalizing us with
 | nil=>cases us with
  | nil=>exact .nil
  | cons _ _=>simp at hl
 | cons x xs c=>cases us with
  | nil=>simp at hl
  | cons u us=>exact .cons (h 0 x u rfl rfl) (c (by simpa using hl) λi y v d b=>h (i+1) y v (by simpa using d) (by simpa using b))
theorem dG:cR X (.type "range") (λxs H Q=>∃j,xs=[.int j]/\∀p,H p=none->Q (.ref p) (upd H p (.RK 0 j))):=by
 intro aa s d H xs us Q I r h;obtain⟨j,rfl,q⟩:=h;obtain⟨u,rfl,c⟩:=dH r;obtain⟨t,rfl⟩:=c;refine call_range_1 ⟨.ref s.heap.objs.size,_,I.laid (λb o e=>Qe _ e) (Po _) ?_,rfl,q _ (I.Pn.fresh (Po _))⟩;exact⟨_,_,_,QX _ rfl⟩
theorem gG (hc:X.calm=true):cR X (.type "list") (λxs H Q=>∃p lo hi,xs=[.ref p]/\H p=some (.RK lo hi)/\-(2 ^ 62)<=lo/\lo<2 ^ 62/\-(2 ^ 62)<=hi/\hi<2 ^ 62/\(hi-lo).toNat<=2 ^ 24/\
  ∀l,H l=none->Q (.ref l) (upd H l (.lst (cU lo (hi-lo).toNat)))):=by
 intro aa s J H xs us Q I r h;obtain⟨p,lo,hi,rfl,A,C,w,G,g,f,q⟩:=h;obtain⟨u,rfl,E⟩:=dH r;cases E;obtain⟨t,u,v,e⟩:=I.Pn p _ A;refine call_list_range (I.ok.hd hc) e (small_one C w G g) (rangeSize_nat lo hi) f λh' L d m F D c=>?_;refine⟨.ref s.heap.objs.size,_,I.laid (o:=.lst (cU lo (hi-lo).toNat)) F (Po _) ?_,rfl,q _ (I.Pn.fresh (Po _))⟩;refine⟨by rw[dN];exact f,d.toList,m,i7 (by rw[dN,Ri,c.1]) λi x u b j=>?_,by simpa using D⟩;have y:d[i]?=some u:=by simpa using j
 obtain⟨t',rfl⟩:=c.2 i u y;have n:i<(hi-lo).toNat:=by
  have:=(QE.mp b).1;rw[dN] at this;exact this
 have:x=V.int (lo+(i:Int)):=by
  simp[cU,n] at b;exact b.symm
 subst this;exact⟨t',by rw[ad0]⟩
noncomputable def ff (xs ys:List V):Bool:=xs.length==ys.length&&(xs.zip ys).all λp=>Re p.1 p.2
theorem ku (ns ms:List Int):ff (ns.map V.int) (ms.map V.int)=decide (ns=ms):=by
 unfold ff
 induction ns generalizing ms with
 | nil=>cases ms with
  | nil=>rfl
  | cons m ms=>simp
 | cons n ns d=>cases ms with
  | nil=>simp
  | cons m ms=>
   have:=d ms;simp only[PP,Qr,Q0,ZL,Z0] at this ⊢;have e:(ns.length+1==ms.length+1)=(ns.length==ms.length):=by
    rw[Wz];simp
   rw[e];have c:Re (V.int n) (V.int m)=(n==m):=rfl;rw[c]
   by_cases b:n=m
   .subst b;simp only[beq_self_eq_true,Bool.true_and];rw[this,Wz];simp
   .have:(n==m)=false:=by simpa using b
    rw[this];simp[b]
theorem zA:∀(xs ys:List V) (k:Nat),xs.length=ys.length->(∀(i:Nat) x y,xs[i]?=some x->ys[i]?=some y->e (k+i)=Re x y)->((List.range' k xs.length).all e)=(xs.zip ys).all λp=>Re p.1 p.2
 | [],ys,k,_,_=>by simp
 | x::xs,[],k,h,_=>by simp at h
 | x::xs,y::ys,k,h,b=>by
  have f:=zA xs ys (k+1) (by simpa using h) λi j d g c=>by
   have:=b (i+1) j d (by simpa using g) (by simpa using c);rw[show k+1+i=k+(i+1) by lia];exact this
  rw[Q0,List.range'_succ,Z0,ZL,Z0,f];have:=b 0 x y rfl rfl;rw[abR] at this;rw[this]
theorem BK {xs ys:List V}(hn:n=xs.length)(hl:xs.length=ys.length)(he:∀(i:Nat) x y,xs[i]?=some x->ys[i]?=some y->e i=Re x y):(QK n).all e=(xs.zip ys).all λp=>Re p.1 p.2:=by
 subst hn;rw[List.range_eq_range'];exact zA xs ys 0 hl λi x y c b=>by rw[aaE];exact he i x y c b
noncomputable def jF (xs ys:List V)(j:Nat):Bool:=match xs[j]?,ys[j]? with
 | some x,some y=>Re x y
 | _,_=>false
theorem n6 (r1:aE xs us)(r2:aE ys vs)(f1:xs.all cp=true)(f2:ys.all cp=true):
  ∀j (h1:j<us.toArray.size) (h2:j<vs.toArray.size),Uy A s us.toArray[j] vs.toArray[j] (jF xs ys j):=by
 intro j h1 h2;have n:=r1.length;have o:=r2.length;have c:j<us.length:=by simpa using h1
 have g:j<vs.length:=by simpa using h2
 obtain⟨u,m,d⟩:=r1.get (i:=j) (x:=xs[j]'(by lia)) (by simp);obtain⟨v,b,l⟩:=r2.get (i:=j) (x:=ys[j]'(by lia)) (by simp);have e:us.toArray[j]=u:=by
  have:=(QE.mp m).2;simpa using this
 have f:vs.toArray[j]=v:=by
  have:=(QE.mp b).2;simpa using this
 have h:jF xs ys j=Re (xs[j]'(by lia)) (ys[j]'(by lia)):=by
  unfold jF;rw[Qu (by lia),Qu (by lia)]
 rw[e,f,h];exact zn d l (T9.mp f1 _ (Wy _)) (T9.mp f2 _ (Wy _))
theorem qI (hn:n=xs.length)(hl:xs.length=ys.length):(QK n).all (jF xs ys)=ff xs ys:=by
 unfold ff;rw[BK hn hl λi x y c b=>by unfold jF;rw[c,b]];simp[hl]
theorem pK (h:xs.length≠ys.length):ff xs ys=false:=by
 unfold ff;have:(xs.length==ys.length)=false:=by simpa using h
 rw[this,abF]
def F2 (K:O6)(neg:Bool):R2:=λx y H Q=>∃a b xs ys,x=.ref a/\y=.ref b/\Pg K H a xs/\Pg K H b ys/\xs.all cp=true/\ys.all cp=true/\Q (.bl (if neg then !ff xs ys else ff xs ys)) H
theorem zB (hu:X.A.units<PK):Qy X (RD .Eq) (F2 X.K false):=by
 intro aa s C H x y v u Q I p n h;obtain⟨a,b,xs,c,rfl,rfl,m,t,w,o,q⟩:=h;cases p;cases n;obtain⟨its,g,j,_⟩:=I.list m;obtain⟨F,f,l,_⟩:=I.list t;have D:=g.length;have E:=f.length
 by_cases d:xs.length=c.length
 .refine SeqAt.eq_listAt (e:=jF xs c) j.isList l.isList (by simp;lia) hu (n6 g f w o) ⟨.bl (ff xs c),H,I,?_,q⟩;show _=UP _;rw[qI (by simp;lia) d]
 .refine SeqAt.eq_list_lengthsAt j.isList l.isList (by simp;lia) hu ⟨.bl (ff xs c),H,I,?_,q⟩;show _=UP _;rw[pK d]
theorem tJ (hu:X.A.units<PK):Qy X (RD .NotEq) (F2 X.K true):=by
 intro aa s C H x y v u Q I p n h;obtain⟨a,b,xs,c,rfl,rfl,m,t,w,o,q⟩:=h;cases p;cases n;obtain⟨its,g,j,_⟩:=I.list m;obtain⟨F,f,l,_⟩:=I.list t;have D:=g.length;have E:=f.length
 by_cases d:xs.length=c.length
 .refine afz (e:=jF xs c) j.isList l.isList (by simp;lia) hu (n6 g f w o) _ _ _ _ ⟨.bl (!ff xs c),H,I,?_,q⟩;show _=UP _;rw[qI (by simp;lia) d]
 .refine aeX j.isList l.isList (by simp;lia) hu _ _ _ _ ⟨.bl (!ff xs c),H,I,?_,q⟩;show _=UP _;rw[pK d];rfl
theorem zC {x:V}:∀{xs:List V}{us:List D'},aE xs us->xs.all cp=true->us.countP (Ui x)=xs.countP λy=>Re y x
 | _,_,.nil,_=>rfl
 | y::xs,u::us,.cons r t,f=>by
  rw[Z0,Tyq] at f
  rw[List.countP_cons,List.countP_cons,nW r f.1,zC t f.2]
def F4 (K:O6):V->List V->Hp->VK->Prop:=λo vs H Q=>∃p xs x,o=.ref p/\vs=[x]/\Pg K H p xs/\cp x=true/\xs.all cp=true/\Q (.int (xs.countP λy=>Re y x)) H
theorem BL:MtM X "list.count" (F4 X.K):=by
 intro aa s t H o vs v us Q I f g h;obtain⟨p,xs,x,rfl,rfl,j,d,fs,q⟩:=h;cases f;obtain⟨u,rfl,l⟩:=g.one;obtain⟨its,r,pl,hz⟩:=I.list j;obtain⟨⟨cls,dd,data,e⟩,c,b,n,hd⟩:=pl.isList;simp only at b hd;subst b hd;refine Z6 ae6 ⟨_,c,rfl⟩ PySem.F.entry_list_count (PySem.F.args_list_count_2 _ _) (SeqAt.list_countAt p its.toArray n dd e u (Ui x)) ⟨c,λy m=>hV l d r fs y (by simpa using m),?_⟩;refine⟨.int (xs.countP λy=>Re y x),H,I.tok _,⟨s.toks,?_⟩,q⟩;rw[show its.toArray.toList=its from rfl,zC r fs]
def zD (K:O6):V->List V->Hp->VK->Prop:=λo vs H Q=>∃p xs x j,o=.ref p/\vs=[x]/\Pg K H p xs/\cp x=true/\xs.all cp=true/\(∃y,xs[j]?=some y/\Re y x=true)/\(∀(i:Nat) y,i<j->xs[i]?=some y->Re y x=false)/\Q (.int (j:Int)) H
theorem tK:MtM X "list.index" (zD X.K):=by
 intro aa s O H o vs v us Q I D G h;obtain⟨p,xs,x,j,rfl,rfl,J,l,fs,⟨y,f,hit⟩,F,q⟩:=h;cases D;obtain⟨u,rfl,L⟩:=G.one;obtain⟨its,r,pl,hz⟩:=I.list J;obtain⟨⟨cls,dd,data,t⟩,d,b,n,hd⟩:=pl.isList;simp only at b hd;subst b hd;have N:=r.length;have P:j<xs.length:=(QE.mp f).1;have e:j<its.toArray.size:=by simp;lia
 have at_:∀(i:Nat) (A:i<its.toArray.size) (z:V),xs[i]?=some z->Ui x its.toArray[i]=Re z x:=λi A z hz=>by
  obtain⟨w,M,g⟩:=r.get hz;have:its.toArray[i]=w:=by
   have:=(QE.mp M).2;simpa using this
  rw[this];exact nW g (T9.mp fs _ (QF hz))
 refine Z6 aaf ⟨_,d,rfl⟩ ae2 (aeY _ _)
  (afA p its.toArray n dd t u (Ui x) j e (by have:=hz;rw[PY] at this;lia) (by rw[at_ j e y f];exact hit) λm C E=>?_) ⟨d,λz hz=>hV L l r fs z (by simpa using hz),?_⟩
 .have c:m<xs.length:=by lia
  rw[at_ m C _ (Qu c)];exact F m _ E (Qu c)
 .exact⟨.int (j:Int),H,I.tok _,⟨s.toks,rfl⟩,q⟩
theorem xL {σ:St}{tk:Nat}(I:Inv X aa σ H s)(k:∀b u,b∉[s.heap.objs.size]->(s.heap.push o).get? b=some u->h'.get? b=some u):Inv X aa σ H { s with heap:=h',toks:=tk }:=by
 have h:Inv X aa σ H { s with heap:=s.heap.push o }:=I.kept (t':=s.toks) λb u e=>Qe _ e;obtain⟨d,l,_,c,g,j⟩:=I.XX (b:=s.heap.objs.size) (Po _) (I.Pn.fresh (Po _));have z:=Inv.turned (s:={ s with heap:=s.heap.push o }) (h':=h') (t':=tk) (it:=s.heap.objs.size) h (λb u f e=>k b u (by simpa using f) e) d l c g j;exact z
theorem tL (hc:X.calm=true):cR X (.builtin "all") (λxs H Q=>∃(p:f') (bs:List Bool),xs=[.ref p]/\Pg X.K H p (bs.map V.bl)/\Q (.bl (bs.all id)) H):=by
 intro aa s m H xs us Q I r h;obtain⟨p,bs,rfl,F,q⟩:=h;obtain⟨u,rfl,L⟩:=dH r;cases L;obtain⟨its,f,pl,hz⟩:=I.list F;have d:=f.length;rw[PP] at d;have C:p≠s.heap.objs.size:=by
  obtain⟨o,y,_⟩:=pl.isList;exact Qs (P5 y)
 have tr:TruthOf X.prog X.w X.A.in1 (λi v=>its.toArray[i]?=some v) (λi=>(bs[i]?).getD false):=λi v n M E' G E=>by
  have e:its[i]?=some v:=by simpa using G
  have b:i<bs.length:=by have:=(QE.mp e).1;lia
  obtain⟨w,g,j⟩:=f.get (i:=i) (x:=V.bl bs[i]) (by simp[b]);rw[e] at g;cases g;cases j;refine Ut ?_;have c:M ((bs[i]?).getD false) n:=E;rw[Qu b] at c;exact c
 refine call_all_walk (adg pl.isList ⟨s.heap.objs.size,_,_,_,_,_,_,rfl,Walks.list (A:=X.A.in1) (show X.A.in1.handled=none from I.ok.hd hc) s.heap.objs.size p C its.toArray,⟨⟨_,QX _ rfl,rfl,rfl⟩,pl.isList.at λo e=>Qe _ e⟩,tr,λh' t k=>?_⟩);have D:Inv X aa m H { s with heap:=h',toks:=t }:=xL I k;refine⟨.bl (bs.all id),H,D,?_,q⟩;show _=UP _
 congr 1
 have:∀(l:List Bool),(QK l.length).all (λi=>(l[i]?).getD false)=l.all id:=λl=>by
  rw[Wz];simp only[T9,Sq,id];constructor
  .intro h x J;obtain⟨i,b,e⟩:=List.getElem_of_mem J;have:=h i b;rw[Qu b,e] at this;exact this
  .intro h i b;rw[Qu b];exact h _ (Wy _)
 rw[Qv,<-d];exact this bs
theorem vy (hl:XT s.heap l vs.toArray)(hsz:vs.length<=Pj)(h:Q vs { s with heap:=(s.heap.push (Qa "list" #[] 0)).update s.heap.objs.size (Ro (·++vs.toArray)) }):O7 (Pb prog w) A (collect (.ref l)) Q E s:=by
 obtain⟨o,f,g,n,hd⟩:=id hl;have b:(s.heap.push (Qa "list" #[] 0)).get? l=some o:=Qe _ f;have c:(s.heap.push (Qa "list" #[] 0)).get? s.heap.objs.size=some (Qa "list" #[] 0):=QX _ rfl;unfold collect;refine O4 (abH (UN entry_proto_collect' ?_));show O7 _ _ (newList [] >>= λv=>again (.builtin "list.__iadd__" ⟨[v,.ref l],[]⟩)) _ _ s;refine O4 (Z1 (Pa ⟨ada _ (by decide +kernel),UN entry_list_iadd' ?_⟩));show O7 _ _ (acJ (.ref s.heap.objs.size) (.ref l) (.ref s.heap.objs.size)) _ _ _;unfold acJ;refine O4 (XM (T:="tuple") ⟨o,b,g⟩ ?_);have d:(Tf.List.listSameRef (.ref s.heap.objs.size) (.ref l)||TD "tuple"==TD "list"||TD "tuple"==TD "tuple")=true:=by
  rw[show(TD "tuple"==TD "tuple")=true from rfl,Bool.or_true]
 rw[Pf d];refine O4 (Z2 b hd (O4 (Z2 c rfl ?_)));rw[O9 (by simp)];refine O4 (abI c rfl ?_ (QN _) (by rw[Array.size_append,Qv];simp;lia));refine Pa ?_;have e:=abA c (·++vs.toArray);refine O4 (ab2 e ?_);show O7 _ _ (pure ((#[]:Array D')++vs.toArray).toList) Q E _;rw[Array.empty_append,List.toList_toArray];exact Pa h
theorem xM (hl:XT s.heap l vs.toArray)(hI:VO vs ns)(Vo:vs.length<64)(h:∀(out:Array D') (Sy:List Int),VO out.toList Sy->Sy.Perm ns->Sy.Pairwise (·<=·)->Q (.ref (s.heap.objs.size+1)) { s with heap:=sortedAll s.heap vs out }):
  O7 (Pb prog w) A (call (.builtin "sorted") [.ref l]) Q E s:=by
 refine acO kind_sorted plain_sorted entry_sorted (args_sorted1 _) ?_;have hz:((s.heap.push (Qa "list" #[] 0)).update s.heap.objs.size (Ro (·++vs.toArray))).objs.size=s.heap.objs.size+1:=by rw[O8.size_update,size_push']
 have b:(((s.heap.push (Qa "list" #[] 0)).update s.heap.objs.size (Ro (·++vs.toArray))).push (Qa "list" vs.toArray 0)).get? (s.heap.objs.size+1)=some (Qa "list" vs.toArray 0):=by
  rw[<-hz];exact QX _ rfl
 unfold Tf.«sorted»;refine O4 (m:=checkCount "sorted" 1 1 _) (Pa (O4 (vy hl (by rw[PY];lia) (O4 (Z1 ?_)))));show O7 _ _ _ _ _ { s with heap:=((s.heap.push (Qa "list" #[] 0)).update s.heap.objs.size (Ro (·++vs.toArray))).push (Qa "list" vs.toArray 0) };rw[hz];refine O4 (RY (Tc acK ⟨_,b,rfl⟩ acI (list_sort_tree b hI Vo λout Sy d e c=>⟨_,rfl,Pa ⟨_,rfl,h out Sy d e c⟩⟩) (adF _)))
theorem tM:cR X (.builtin "sorted") (λxs H Q=>∃(p:f') (ns:List Int),xs=[.ref p]/\Pw X.K H p (ns.map V.int)/\ns.length<64/\∀(l:f') (Sy:List Int),H l=none->Sy.Perm ns->Sy.Pairwise (·<=·)->Q (.ref l) (upd H l (.lst (Sy.map V.int)))):=by
 intro aa s x H xs us Q I r h;obtain⟨p,ns,rfl,n,y,q⟩:=h;obtain⟨u,rfl,v⟩:=dH r;cases v;obtain⟨its,d,pl,hz⟩:=I.tuple n;have g:=d.length;rw[PP] at g;refine xM pl (nV d) (by lia) λout Sy t f w=>?_;obtain⟨e,m⟩:=sortedAll_at s.heap its out;have c:H (s.heap.objs.size+1)=none:=I.Pn.fresh (XN _);have j:aE (Sy.map V.int) out.toList:=kq t;have hlen:Sy.length=ns.length:=f.length_eq;refine⟨.ref (s.heap.objs.size+1),_,I.laid (t':=s.toks) (o:=.lst (Sy.map V.int)) (λb o z=>sortedAll_old z) (XN _) ⟨by rw[PP,PY];lia,out.toList,e,j,by simpa [Qa] using m⟩,rfl,q _ Sy c f w⟩
theorem BM:Qy X (binaryOp .Add) (λx y H Q=>∃a b ys,x=.ref a/\y=.ref b/\Pw X.K H a []/\Pw X.K H b ys/\Q (.ref b) H):=by
 intro aa s G H x y v u Q I w p h;obtain⟨a,b,ys,rfl,rfl,o,E,q⟩:=h;cases w;cases p;obtain⟨its,C,D,_⟩:=I.tuple o;obtain⟨A,J,F,_⟩:=I.tuple E;cases C;obtain⟨⟨cls,dd,data,l⟩,g,f,n,hd⟩:=id D;obtain⟨⟨t,e,data2,d⟩,j,c,m,hd2⟩:=id F;simp only at f hd c hd2;subst f hd c hd2;exact concat_meets ⟨_,g,rfl⟩ ⟨_,j,rfl⟩ adn adL acW acT (acR _ _)
  (tuple_addW0 a b #[] A.toArray n m dd e l d rfl) ⟨g,j,⟨.ref b,H,I,rfl,q⟩⟩
def PF (X:Cx)(e:Pr)(P:St->Hp->Prop)(k:Nat):Prop:=
 ∀(aa:List (f'×G')) (s:J') (σ:St) (H:Hp) (Q:D'->J'->Prop),Inv X aa σ H s->P σ H->(∀y t s',Inv X aa σ H s'->y.length<=k->Q (.str y t) s')->O7 (Pb X.prog X.w) X.A (eval e X.env) Q X.xe s
def PJ (X:Cx)(es:List Pr)(P:St->Hp->Prop)(n:Nat):Prop:=
 ∀(aa:List (f'×G')) (s:J') (σ:St) (H:Hp) (acc:N') (Q:N'->J'->Prop),Inv X aa σ H s->P σ H->acc.length+n<=Pj->(∀out s',Inv X aa σ H s'->out.length<=acc.length+n->Q out s')->
  Joins (Pb X.prog X.w) X.A X.xe (evalEach es X.env) acc Q s
theorem ky:PJ X [] (λ_ _=>True) 0:=λaa s b H acc Q I _ _ h=>h acc s I (Po _)
theorem cg (h1:PF X e P k)(h2:PJ X es R n)(he:evalEach (e::es) X.env=eval e X.env::evalEach es X.env:=by rfl):PJ X (e::es) (λσ H=>P σ H/\R σ H) (k+n):=by
 intro aa s σ H acc Q I b hz c;rw[he];refine h1 aa s σ H _ I b.1 λy t s1 d j=>?_;have g:(acc++y).length=acc.length+y.length:=adN acc y;refine⟨y,t,rfl,by lia,?_⟩;exact h2 aa s1 σ H _ _ d b.2 (by lia) λout s2 f h=>c out s2 f (by lia)
theorem jo (h:PJ X (Ti::Tj::rest) P n)(hn:n<=Pj):PE X (.JoinedStr (Ti::Tj::rest) pos) (λσ H Q=>P σ H/\∀x,Q (.str x) H):=by
 intro aa s σ H Q I b;have hz:Str.empty.length=0:=rfl;refine wpAny_JoinedStr (h aa s σ H _ _ I b.1 (by lia) λout e c d=>⟨by lia,?_⟩);exact⟨.str out,H,c.tok _,⟨_,rfl⟩,b.2 out⟩
theorem fz {j pos}(h:x.length<=k):PF X (.Constant (.str x) j pos) (λ_ _=>True) k:=λaa s c H Q I _ b=>afw (b x _ _ (I.tok _) h)
def isI (te:TE):St->Hp->Prop:=λσ H=>te σ H λv H'=>H'=H/\∃i:Int,v=.int i/\i.natAbs.log2<1900
def isT (K:O6)(te:TE):St->Hp->Prop:=λσ H=>te σ H λv H'=>H'=H/\∃(a:f') (ns:List Int),v=.ref a/\Pw K H a (ns.map V.int)/\ns.length<=64/\∀i∈ns,i.natAbs.log2<1900
theorem pL {i:Int}(h:i.natAbs.log2<1900):(TB (toString i)).length<=1901:=by
 rw[PySem.ofString_length];exact int_text_length_le (by decide) h
theorem n9 (h:PE X e te):PF X (.FormattedValue e (-1) none pos) (isI te) 1901:=by
 intro aa s d H Q I g b;refine wpAny_FormattedValue_plain (Pm (h aa s d H _ I g) λu s1 f=>?_);obtain⟨v,m,c,r,j,i,ev,l⟩:=f;subst j ev;obtain⟨t,rfl⟩:=r;exact wpAny_formatField_int (by lia) (b _ _ _ (c.tok _) (pL l))
theorem Ek (h:PE X e te):PF X (.FormattedValue e 114 none pos) (isI te) 1901:=by
 intro aa s f H Q I j c;refine aeZ (Pm (h aa s f H _ I j) λu s1 g=>?_);obtain⟨v,n,d,r,l,i,ev,m⟩:=g;subst l ev;obtain⟨t,rfl⟩:=r;have b:=pL m;have hz:(TB (toString i)).length<=Pj:=by rw[PY];lia
 refine wpAny_pyReprObj_gives (ab4 _ i t) F.slot_int_repr F.entry_int_repr (F.args_int_repr_1 _) (gives_int_repr i t (by lia)) ?_ rfl hz;exact wpAny_formatField_str (c _ _ _ (d.tok _) b) (c _ _ _ ((d.tok _).tok _) b) hz
theorem F5 (h:∀t∈ts,t.length<=m):(tupleText ts).length<=ts.length*(m+2)+4:=by
 have d:∀l:List N',(∀t∈l,t.length<=m)->piled l<=l.length*(m+2):=λl=>by
  induction l with
  | nil=>intro _;simp[piled]
  | cons t r ih=>
   intro b;have:=ih λu c=>b u (PU _ c);have g:=b t Px;rw[piled_cons,Q0,abP];lia
 have n:(N'.join ", " ts).length<=piled ts:=by
  cases ts with
  | nil=>exact Po _
  | cons t r=>have:=join_length_add (t::r) (by simp);lia
 unfold tupleText;rw[adN,adN];have j:(("(":String):N').length=1:=rfl;have e:((if ts.length==1 then ",)" else ")":String):N').length<=2:=by
  split
  .exact abN rfl
  .exact Nat.le_succ_of_le (abN rfl)
 have:=d ts h;have f:(TB "(").length=1:=rfl;lia
theorem pM (hr:O5 k X.A)(h:PE X e te):PF X (.FormattedValue e 114 none pos) (isT X.K te) 200000:=by
 intro aa s l H Q I N g;refine aeZ (Pm (h aa s l H _ I N) λu s1 F=>?_);obtain⟨v,M,f,r,R,a,ns,ev,c,O,y⟩:=F;subst R ev;cases r;obtain⟨its,G,pl,hz⟩:=f.tuple c;obtain⟨o,L,E,n,hd⟩:=pl;have P:∀(ns:List Int) (us:List D'),(∀i∈ns,i.natAbs.log2<1900)->aE (ns.map V.int) us->ReprAllK X.prog X.w [] s1.heap 0 us (ns.map λi=>TB (toString i)):=by
  intro ns
  induction ns with
  | nil=>intro us _ d;cases d;exact .nil
  | cons i ns ih=>
   intro us x d;cases d with
   | cons r1 r2=>
    obtain⟨t,rfl⟩:=r1;exact .cons (ReprK.of_is (ReprIs.int t (by have:=x i Px;lia)) _ _ _) (ih _ (λj C=>x j (PU _ C)) r2)
 have hlen:(tupleText (ns.map λi=>TB (toString i))).length<=200000:=by
  have:=F5 (ts:=ns.map λi=>TB (toString i)) (m:=1901) λt c=>by
   obtain⟨i,D,rfl⟩:=P6.mp c;exact pL (y i D)
  rw[PP] at this;have U:ns.length*(1901+2)<=64*1903:=U' _ O;lia
 have T:=hr.units;refine wpAny_pyReprObj_tupleK L E hd (by simp) (P ns its y G) hr.gd (λb _=>Clear.nil b) (by lia) (λb o z=>z) (λh' u J S=>?_) (by rw[PY];lia);have p:Inv X aa l M { s1 with heap:=h',toks:=J }:=f.kept S;exact wpAny_formatField_str (g _ _ _ p hlen) (g _ _ _ (p.tok _) hlen) (by rw[PY];lia)
noncomputable def kz (a:f')(cls:D'):HO:=.ext λh=>∃oe vs,h.get? a=some oe/\oe.cls=cls/\oe.data=.fields vs
theorem Em (x:Trc h a cls T):bq P w H h a (kz a cls):=by
 obtain⟨_,b,vs,_,_,c,d,j,_⟩:=x;exact⟨⟨b,vs,c,d.1,j⟩,⟨b,c⟩,λn m ⟨o,f,e,g,l⟩ k=>⟨o,f,k _ e,g,l⟩⟩
variable {X:Cx}{aa:List (f'×G')}{σ:St}{H:Hp}{s:J'}{h':O8} in
theorem Inv.aec {g':Array aaL}{t':Nat}{d':Drawn}{ch:List f'}(I:Inv X aa σ H s)(RU:∀b∈ch,X.QH.heap.get? b=none/\b≠X.env.locals/\(∀x c,X.env.cells.lookup x=some c->c≠b)/\∀p∈X.pn++aa,p.1≠b)(keep:∀b o,b∉QL X.stack->b∉ch->s.heap.get? b=some o->h'.get? b=some o)(slot:∀b o,b∈QL X.stack->s.heap.get? b=some o->∃sl,h'.get? b=some { o with slots:=sl })(hex:X.ex=[])(Vm:X.stack=X.env::X.outer)(aaZ:∀b∈ch,H b=none)(hg:Vd g'):
  Inv X aa σ H { s with heap:=h',gens:=g',drawn:=d',toks:=t' }:=by
 have N:∀b,b∉X.ex:=λb z=>by rw[hex] at z;exact Pp z (by simp)
 have M:∀b o,X.QH.heap.get? b=some o->b∉X.fs->b∉QL X.stack:=λb o g G z=>by
  rcases PN.mp (I.Vf b z) with r|r
  .exact Pp (QP (P5 g) I.ok.above) (by rw[r];exact VL _)
  .exact G r
 have C:∀b o,X.QH.heap.get? b=some o->b∉ch:=λb o g z=>by rw[(RU b z).1] at g;cases g
 have ns:∀m,s.heap.Ns X.env.locals m->h'.Ns X.env.locals m:=λm E=>by
  obtain⟨o,es,ep,t,r⟩:=E
  by_cases f:X.env.locals∈QL X.stack
  .obtain⟨sl,e⟩:=slot _ o f t;exact⟨_,es,ep,e,r⟩
  .exact⟨o,es,ep,keep _ o f (λz=>(RU _ z).2.1 rfl) t,r⟩
 have cellK:∀x c,X.env.cells.lookup x=some c->∀v,s.heap.IsCell c v->h'.IsCell c v:=λx c e v ⟨o,t,hd⟩=>by
  by_cases f:c∈QL X.stack
  .obtain⟨sl,q⟩:=slot c o f t;exact⟨_,q,hd⟩
  .exact⟨o,keep c o f (λz=>(RU c z).2.2.1 x c e rfl) t,hd⟩
 refine⟨I.ok,I.os,hg,⟨λb o e n f h=>?_,λb o e n f h=>?_,λb o e n h=>I.base.free b o e n h,λb o e h=>?_,I.base.RR,I.base.TH,I.base.Ud⟩,?_,λx c e=>?_,I.free,I.Tg,λp A=>?_,λa o e=>?_,I.len⟩
 .exact keep b o (M b o e f) (C b o e) (I.base.keep b o e n f h)
 .obtain⟨sl,g⟩:=I.base.slot b o e n f h;obtain⟨J,j⟩:=slot b _ (Di Vm f) g;exact⟨J,j⟩
 .obtain⟨w,g⟩:=I.base.there b o e h
  by_cases f:b∈QL X.stack
  .obtain⟨sl,j⟩:=slot b w f g;exact⟨_,j⟩
  .exact⟨w,keep b w f (C b o e) g⟩
 .obtain⟨m,L,D⟩:=I.loc;refine⟨m,ns m L,λi x v g j F=>?_⟩;obtain⟨u,r,l⟩:=D i x v g j F;refine⟨u,r,?_⟩;rcases l with l|⟨k,c,e,z⟩
  .exact .inl l
  .exact .inr ⟨k,c,e,cellK x c e _ z⟩
 .obtain⟨v,z⟩:=I.cell x c e;exact⟨v,cellK x c e v z⟩
 .obtain⟨e,n,ne,y,d⟩:=I.pin p A;refine⟨keep p.1 p.2 (λz=>?_) (λz=>(RU p.1 z).2.2.2 p A rfl) e,n,ne,y,d⟩;rcases PN.mp (I.Vf _ z) with r|r
  .exact ne r
  .exact y r
 .refine(I.Pn a o e).UT (λb u f q=>keep b u (λz=>?_) (λz=>?_) q) (λ_ z=>z) λ_ _ z=>z
  .have n:=I.aaO b z;rcases f with r|r
   .rw[r,e] at n;cases n
   .rw[r] at n;cases n
  .have n:=aaZ b z;rcases f with r|r
   .rw[r,e] at n;cases n
   .rw[r] at n;cases n
theorem Inv.aed {σ:St}(I:Inv X aa σ H s)(hD:H D=none)(h0:X.QH.heap.get? D=none)(hL:D≠X.env.locals)(hc:∀x c,X.env.cells.lookup x=some c->c≠D)(hp:∀p∈X.pn++aa,p.1≠D)(Pn:bq X.prog X.w (upd H D o) s.heap D o):Inv X aa σ (upd H D o) s:=by
 have ne:∀b u,H b=some u->b≠D:=λb u e z=>by rw[z,hD] at e;cases e
 have g:∀b ob,X.QH.heap.get? b=some ob->b≠D:=λb ob e z=>by rw[z,h0] at e;cases e
 refine⟨I.ok,I.os,I.bare,⟨I.base.keep,I.base.slot,λb ob e n h=>by rw[aq (g b ob e)];exact I.base.free b ob e n h,I.base.there,λb xs e=>?_,λb ob u e=>?_,λb ps e=>?_⟩,I.loc,I.cell,by rw[aq (Qi hL)];exact I.free,
  λx c e=>by rw[aq (hc x c e)];exact I.Tg x c e,λp d=>?_,λa u e=>?_,I.len⟩
 .have q:=I.base.RR b xs e;rw[aq (ne b _ q)];exact q
 .have q:=I.base.TH b ob u e;rw[aq (ne b _ q)];exact q
 .obtain⟨m,q⟩:=I.base.Ud b ps e;exact⟨m,by rw[aq (ne b _ q)];exact q⟩
 .obtain⟨e,n,r⟩:=I.pin p d;exact⟨e,by rw[aq (hp p d)];exact n,r⟩
 .by_cases f:a=D
  .subst f;rw[ag] at e;cases e;exact Pn
  .rw[aq f] at e;exact(I.Pn a u e).UT (λb v _ q=>q) (λb q=>by rw[aq (ne b _ q)];exact q) λb xs q=>by rw[aq (ne b _ q)];exact q
theorem Inv.forget {σ:St}{t':Nat}(I:Inv X aa σ H s)(hN:X.N.Nodup)(hi:X.N[i]?=some x)(hl:∀(i:Nat) (x:N') (v:V),X.N[i]?=some x->σ[i]?=some (some v)->Y9 X.env.scope x->∃u,aG v u/\FJ X.env s.heap m x u)(hn':h'.Ns X.env.locals (λy=>if y=x then v else m y))(hs:Tz X.env.locals s.heap h'):Inv X aa (σ.set i none) H { s with heap:=h',toks:=t' }:=by
 have t:i<σ.length:=by rw[I.len];exact(QE.mp hi).1
 have f:∀b o,X.QH.heap.get? b=some o->b≠X.env.locals:=λb o e=>Qs (QP (P5 e) I.ok.above);refine⟨I.ok,I.os,I.bare,⟨λb o e n w h=>(hs.2 b (f b o e)).trans (I.base.keep b o e n w h),λb o e n w h=>?_,I.base.free,λb o e h=>?_,I.base.RR,I.base.TH,I.base.Ud⟩,⟨_,hn',λj y O g l J=>?_⟩,λy c e=>?_,I.free,I.Tg,λp P=>?_,λa o e=>?_,by simpa using I.len⟩
 .obtain⟨F,g⟩:=I.base.slot b o e n w h;exact⟨F,(hs.2 b (f b o e)).trans g⟩
 .obtain⟨E,g⟩:=I.base.there b o e h;exact⟨E,(hs.2 b (f b o e)).trans g⟩
 .by_cases A:j=i
  .subst A;rw[acV t] at l;cases l
  .rw[ZH (Qi A)] at l;obtain⟨G,L,q⟩:=hl j y O g l J;refine⟨G,L,?_⟩;rcases q with⟨k,e⟩|⟨k,c,e,z⟩
   .refine .inl ⟨k,?_⟩;have:y≠x:=λe=>A (mP hN g (e▸hi));simp[this,e]
   .exact .inr ⟨k,c,e,z.sameBut hs (I.VY y c e)⟩
 .obtain⟨D,z⟩:=I.cell y c e;exact⟨D,z.sameBut hs (I.VY y c e)⟩
 .obtain⟨e,n,ne,M,d⟩:=I.pin p P;exact⟨(hs.2 p.1 ne).trans e,n,ne,M,d⟩
 .refine(I.Pn a o e).UT (λc D hc q=>(hs.2 c ?_).trans q) (λ_ q=>q) λ_ _ q=>q;rintro rfl;have C:=I.free;rcases hc with z|hc
  .rw[<-z] at e;rw[C] at e;cases e
  .rw[C] at hc;cases hc
noncomputable abbrev Cx.Sl (X:Cx)(A':Pz)(c:Bool)(TN:List (f'×G'))(UD:D'->J'->Prop):Cx:={ X with A:=A',calm:=c,pn:=TN,xe:=UD }
theorem Inv.Sl {σ:St}(I:Inv X aa σ H s)(hf:A'.frames=X.A.frames)(hh:c=true->A'.handled=none)(hp:∀p∈TN++VU,p∈X.pn++aa):
  Inv (X.Sl A' c TN UD) VU σ H s:=
 ⟨⟨I.ok.mod,I.ok.kind,I.ok.glob,I.ok.blt,I.ok.above,I.ok.inj,I.ok.has,I.ok.X7,hh,hf.trans I.ok.frames,I.ok.Y',I.ok.exf,I.ok.bs,I.ok.Vk,I.ok.TJ,I.ok.Y2,I.ok.TK,I.ok.VX⟩,
  I.os,I.bare,I.base,I.loc,I.cell,I.free,I.Tg,λp h=>I.pin p (hp p h),I.Pn,I.len⟩
theorem Inv.out {σ:St}(I:Inv (X.Sl A' c TN UD) VU σ H s)(hf:X.A.frames=some X.stack)(hh:X.calm=true->X.A.handled=none)(hp:∀p∈X.pn++aa,p∈TN++VU):
  Inv X aa σ H s:=
 ⟨⟨I.ok.mod,I.ok.kind,I.ok.glob,I.ok.blt,I.ok.above,I.ok.inj,I.ok.has,I.ok.X7,hh,hf,I.ok.Y',I.ok.exf,I.ok.bs,I.ok.Vk,I.ok.TJ,I.ok.Y2,I.ok.TK,I.ok.VX⟩,
  I.os,I.bare,I.base,I.loc,I.cell,I.free,I.Tg,λp h=>I.pin p (hp p h),I.Pn,I.len⟩
theorem qJ {K:O6}(I:K.In h)(hc:SH K C=true):W.Looks M h (isType (.ref C)) true:=by
 unfold SH W.clsIn at hc
 split at hc
 .rename_i e d' b d c;intro A Q E s k q;unfold isType loadHead;exact O4 (wpAny_loadPart (k _ _ (I _ _ c)) (Pa q))
 .cases hc
theorem xN {K:O6}(I:K.In s.heap)(he:s.heap.get? e=some oe)(hc:oe.cls=.ref C)(hnt:W.instIn K (.ref CN) (.type "tuple")=some false)(hxc:Rj K CN (.type "BaseException")=some true)(Sj:SH K CN=true)(hm:Rj K C (.ref CN)=some true)(hq:Q true s):
  O7 M A (excMatches (.ref e) (.ref CN)) Q E s:=by
 have c:=W.looks_instIn (M:=M) I hnt;have j:=abJ (M:=M) I hxc;have h:=abJ (M:=M) I hm;have f:W.Looks M s.heap (isType (.ref CN)) true:=qJ I Sj;have b:W.Looks M s.heap (isExcClass (.ref CN)) true:=f.andThen (by simpa using j);have l:W.Looks M s.heap (typeOf (.ref e)) (.ref C):=hc▸(ad5 he).andThen .now;obtain⟨m,g,d,n,os⟩:=s;unfold excMatches;refine O4 (c.at ?_);simp only[QY,if_false,pure_bind,adu,adE,bind_assoc];refine O4 (b.at ?_);simp only[T',QY,if_false,pure_bind];refine O4 (l.at ?_);refine O4 (h.at ?_);simp only[if_true,pure_bind];exact Pa hq
def LB (K:O6)(CN:f')(tb:(St->XK)->TS)(ie:Nat)(ts:TS):TS:=λD σ H=>
 tb (λPu cls _ H'=>∃C,cls=.ref C/\Rj K C (.ref CN)=some true/\∀e,H' e=none->ts { nx:=λRp H2=>D.nx (Rp.set ie none) H2,rt:=λ_ _=>False } (Pu.set ie (some (.ref e))) (upd H' e (kz e (.ref C)))) D σ H
theorem F6 (hc:X.calm=true)(hex:X.ex=[])(Vm:X.stack=X.env::X.outer)(hfr:X.env.frame=some X.env.locals)(hg:Gl X x)(hm:X.mg x=some (.ref CN))(hnt:W.instIn X.K (.ref CN) (.type "tuple")=some false)(hxc:Rj X.K CN (.type "BaseException")=some true)(Sj:SH X.K CN=true)(hN:X.N.Nodup)(hi:X.N[ie]?=some nm)(hl:X.env.scope.names.lookup nm=some .local)(hb:∀(TN:List (f'×G')) (UD:D'->J'->Prop) (E:St->XK),dA (QQ X.prog X.w) (X.Sl X.A X.calm TN UD) E->Su (X.Sl X.A X.calm TN UD) body (tb E))(hs:∀(A':Pz) (TN:List (f'×G')) (UD:D'->J'->Prop),Su (X.Sl A' false TN UD) (ρ::μ) ts)(hd:(x==("__debug__":N'))=false:=by decide):
  PS X (.Try body [.ExceptHandler (some (.Name x np)) (some nm) (ρ::μ) UW] [] [] pos) (LB X.K CN tb ie ts):=by
 intro aa s σ H D I h;refine wpAny_Try_except ?_;have pass:dA (QQ X.prog X.w) (X.Sl X.A X.calm (X.pn++aa) (λe PH=>O7 (Pb X.prog X.w) X.A (noteFrame e X.env) (λ_ PZ=>O7 (Pb X.prog X.w) X.A (setFlight e none) (λ_ Vi=>
   O7 (Pb X.prog X.w) X.A (handleBy e X.env [.ExceptHandler (some (.Name x np)) (some nm) (ρ::μ) UW]) (SP X aa D) X.xe Vi) X.xe PZ) X.xe PH))
   (λO cls _ H'=>∃C,cls=.ref C/\Rj X.K C (.ref CN)=some true/\∀e,H' e=none->ts { nx:=λRp H2=>D.nx (Rp.set ie none) H2,rt:=λ_ _=>False } (O.set ie (some (.ref e))) (upd H' e (kz e (.ref C)))):=by
  intro VU O H' s' e g I' hx;obtain⟨d,cls,U,rfl,ho,hgn,un,Pn,fl,C,rfl,aep,q⟩:=hx;have Ic:=I'.acg (ch:=[]) ho un Pn hgn (λb z=>Pp z (by simp));have Y:Inv X aa O U g:=Ic.out (aa:=aa) I.ok.frames I.ok.hd λp n=>R8 _ n;obtain⟨T,Zd,hT0,hTH⟩:=fl.tr;have old:∀b,s'.heap.get? b=none->X.QH.heap.get? b=none:=λb j=>by
   cases M:X.QH.heap.get? b with
   | none=>rfl
   | some o=>
    obtain⟨o',l⟩:=I'.base.there b o M (by intro z;rw[show(X.Sl X.A X.calm (X.pn++aa) _).ex=X.ex from rfl,hex] at z;exact Pp z (by simp));rw[j] at l;cases l
  have apart:∀b,s'.heap.get? b=none->X.QH.heap.get? b=none/\b≠X.env.locals/\(∀y c,X.env.cells.lookup y=some c->c≠b)/\∀p∈X.pn++aa,p.1≠b:=λb j=>by
   refine⟨old b j,?_,λy c hy z=>?_,λp n z=>?_⟩
   .rintro rfl;obtain⟨m,⟨o,_,_,l,_⟩,_⟩:=I'.loc;have e3:s'.heap.get? X.env.locals=some o:=l;rw[j] at e3;cases e3
   .obtain⟨v,o,l,_⟩:=I'.cell y c hy;rw[z,j] at l;cases l
   .have l:=(I'.pin p (R8 _ n)).1;rw[z,j] at l;cases l
  have Z:∀b∈[d,T],X.QH.heap.get? b=none/\b≠X.env.locals/\(∀y c,X.env.cells.lookup y=some c->c≠b)/\∀p∈X.pn++aa,p.1≠b:=λb j=>by
   rcases PN.mp j with z|z
   .rw[z];exact apart d fl.new
   .rw[Qw.mp z];exact apart T hT0
  have aaZ:∀b∈[d,T],U b=none:=λb j=>by
   rcases PN.mp j with z|z
   .rw[z];exact fl.free
   .rw[Qw.mp z];exact hTH
  have hB:∀b∈[d,T],(YW g.heap (QL X.stack++[d,T])).get? b=none:=λb j=>adD _ (RA _ j);have X':(YW g.heap (QL X.stack++[d,T])).StaysIn g.heap:=λb o z=>abM _ z;have hff:g.heap.FunFrames (YW g.heap (QL X.stack++[d,T])) X.stack:=ado Y.stack λenv he a ha=>R8 _ (Us.mpr ⟨env,he,ha⟩);obtain⟨a0,tw⟩:=Zd.ad8 (hB T (by simp));show O7 (Pb X.prog X.w) X.A (noteFrame (.ref d) X.env) _ X.xe g;refine wpAny_noteFrame_onW (outer:=X.outer) (L:=X.env.locals) (Vm▸I.ok.frames) (Vm▸hff) hfr tw X' (hB d (by simp)) λh4 hN4=>?_;obtain⟨n1,n2,n3,n4⟩:=hN4;refine wpAny_setFlight_noneW n1 n2 n3 λh5 m1 m2 m3 m4=>?_;have kp5:∀b o,b∉QL X.stack->b∉[d,T]->g.heap.get? b=some o->h5.get? b=some o:=λb o z1 z2 M=>m1 b o (ZY _ M λm=>(QJ.mp m).elim z1 z2);have sl5:∀b o,b∈QL X.stack->g.heap.get? b=some o->∃Q,h5.get? b=some { o with slots:=Q }:=λb o j M=>by
   obtain⟨o',l,nd⟩:=xJ Y j;rw[M] at l;cases l;obtain⟨Q,e3⟩:=n4 b o M nd;exact⟨Q,m4 b _ e3 nd⟩
  have I5:Inv X aa O U { g with heap:=h5 }:=Y.aec (g':=g.gens) (d':=g.drawn) (t':=g.toks) Z kp5 sl5 hex Vm aaZ Y.bare;have hfm:(X.A.mark (some (.ref d))).frames=X.A.frames:=rfl;refine wpAny_handleBy_cons (codeAny_handlers_test ?_) (by intro q;cases q);have J5:Inv (X.Sl (X.A.mark (some (.ref d))) false (X.pn++aa) (notedBy (Pb X.prog X.w) (X.A.mark (some (.ref d))) X.env (cameBackBy (Pb X.prog X.w) X.A X.env X.xe))) [] O U { g with heap:=h5 }:=
   I5.Sl hfm (λz=>by cases z) λp n=>by simpa using n
  refine jg J5 hg hm ?_ hd;obtain⟨T5,agi,hT5⟩:=tG m3;obtain⟨_,oe,_,_,_,e5,c5,_⟩:=id agi;refine xN I5.Q9 e5 c5.1 hnt hxc Sj aep ?_;refine codeAny_handlers_suite_as ?_;refine wpAny_setFlight_noneW m1 m2 m3 λh6 p1 p2 p3 p4=>?_;have kp6:∀b o,b∉QL X.stack->b∉[d,T]->g.heap.get? b=some o->h6.get? b=some o:=λb o z1 z2 M=>p1 b o (ZY _ M λm=>(QJ.mp m).elim z1 z2);have sl6:∀b o,b∈QL X.stack->g.heap.get? b=some o->∃Q,h6.get? b=some { o with slots:=Q }:=λb o j M=>by
   obtain⟨o',l,nd⟩:=xJ Y j;rw[M] at l;cases l;obtain⟨Q,e3⟩:=sl5 b o j M;exact⟨Q,p4 b _ e3 nd⟩
  have I6:Inv X aa O U { g with heap:=h6 }:=Y.aec (g':=g.gens) (d':=g.drawn) (t':=g.toks) Z kp6 sl6 hex Vm aaZ Y.bare;obtain⟨T6,agj,_⟩:=tG p3;have I7:Inv X aa O (upd U d (kz d (.ref C))) { g with heap:=h6 }:=
   I6.aed fl.free (Z d (by simp)).1 (Z d (by simp)).2.1 (Z d (by simp)).2.2.1 (Z d (by simp)).2.2.2 (Em agj)
  have J7:Inv (X.Sl (X.A.mark (some (.ref d))) false (X.pn++aa) (λ_ _=>False)) [] O (upd U d (kz d (.ref C))) { g with heap:=h6 }:=
   I7.Sl hfm (λz=>by cases z) λp n=>by simpa using n
  refine fQ (X:=X.Sl (X.A.mark (some (.ref d))) false (X.pn++aa) (λ_ _=>False)) (i:=ie) (v:=.ref d) J7 hN hi (.inl hl) rfl (λs8 J8=>?_) (.inr hl);refine fM (Pm (hs _ _ _ [] s8 _ _ _ J8 (q d fl.free)) λf s9 q9=>?_);cases f with
  | next=>
   obtain⟨t,H9,J9,R⟩:=q9;have J9':Inv X aa t H9 s9:=J9.out (aa:=aa) I.ok.frames I.ok.hd λp n=>by simpa using n
   obtain⟨m9,hn9,hl9⟩:=id J9'.loc;refine wpAny_nameGoes_keeps hl hn9 (by rw[I.ok.kind];rfl) λUl v agk X2=>?_;exact⟨t.set ie none,H9,J9'.forget hN hi hl9 agk X2,R⟩
  | ret u=>obtain⟨v,t,H9,J9,r9,R⟩:=q9;exact R.elim
  | brk=>obtain⟨t,H9,J9,R⟩:=q9;exact R.elim
  | cont=>obtain⟨t,H9,J9,R⟩:=q9;exact R.elim
 have Ib:Inv (X.Sl X.A X.calm (X.pn++aa) (λe PH=>O7 (Pb X.prog X.w) X.A (noteFrame e X.env) (λ_ PZ=>O7 (Pb X.prog X.w) X.A (setFlight e none) (λ_ Vi=>
   O7 (Pb X.prog X.w) X.A (handleBy e X.env [.ExceptHandler (some (.Name x np)) (some nm) (ρ::μ) UW]) (SP X aa D) X.xe Vi) X.xe PZ) X.xe PH)) [] σ H s:=I.Sl rfl I.ok.hd λp n=>by simpa using n
 refine Pm (hb _ _ _ pass [] s σ H D Ib h) λf s1 q1=>?_;have bk:∀{F:St}{G:Hp},Inv (X.Sl X.A X.calm (X.pn++aa) (λe PH=>O7 (Pb X.prog X.w) X.A (noteFrame e X.env) (λ_ PZ=>O7 (Pb X.prog X.w) X.A (setFlight e none) (λ_ Vi=>
   O7 (Pb X.prog X.w) X.A (handleBy e X.env [.ExceptHandler (some (.Name x np)) (some nm) (ρ::μ) UW]) (SP X aa D) X.xe Vi) X.xe PZ) X.xe PH)) [] F G s1->Inv X aa F G s1:=λ{F G} J=>J.out (aa:=aa) I.ok.frames I.ok.hd λp n=>by simpa using n
 cases f with
 | next=>obtain⟨F,G,P,S⟩:=q1;exact aau ⟨F,G,bk P,S⟩
 | ret u=>obtain⟨v,F,G,P,r1,S⟩:=q1;exact⟨v,F,G,bk P,r1,S⟩
 | brk=>obtain⟨F,G,P,S⟩:=q1;exact⟨F,G,bk P,S⟩
 | cont=>obtain⟨F,G,P,S⟩:=q1;exact⟨F,G,bk P,S⟩
structure Xa (K)(C:f'):Prop where
 cl:SH K C=true
 ga:R' K (.ref C) "__getattribute__"=some (some (.builtin "BaseException.__getattribute__"))
 gt:R' K (.ref C) "__getattr__"=some none
 cls:R' K (.ref C) "__class__"=some (some (.builtin "object.__class__"))
 ob:Rj K C (.type "object")=some true
 be:Rj K C (.type "BaseException")=some true
theorem xO {prog:Pk}{w:Pd}{A:Pz}{K:O6}{h:O8}{g:Array aaL}{d:Drawn}{t:Nat}{os:RE}{a:f'}{C:f'}{o:G'}{R:Result->J'->Prop}(X:K.In h)(F0:Xa K C)(hx:h.get? a=some o)(hc:o.cls=.ref C)(hq:R (.ok (.ret (.ref C))) ⟨h,g,d,t,os⟩):
  codeAny (Pb prog w) A (.call (.builtin "getset_descriptor.__get__") ⟨[.builtin "object.__class__",.ref a,.ref C],[]⟩) R ⟨h,g,d,t,os⟩:=by
 have b:(⟨h,g,d,t,os⟩:J').TypeIs (.builtin "object.__class__") "getset_descriptor":=ac1;have e:=abJ (M:=Pb prog w) X F0.ob;have c:(".".intercalate ("object.__class__".cutAt '.').dropLast)="object":=F.owner_object_class;refine ac4 adO.plain F.entry_gs_get (adO.check _ _ _ _ _ _ _ _ b (F.args_gs_get _ _ _) ?_)
 repeat (any_goals (first|assumption|(with_reducible refine aap hx ?_;rw[hc])|(rw[c];refine e.at ?_)|wp_step))
 refine⟨ada _ (by decide +kernel),UN F.entry_object_class ?_⟩
 repeat (any_goals (first|assumption|(with_reducible refine aap hx ?_;rw[hc])|wp_step))
theorem tN {prog:Pk}{w:Pd}{A:Pz}{E:D'->J'->Prop}{K:O6}{h:O8}{g:Array aaL}{d:Drawn}{t:Nat}{os:RE}{a:f'}{C:f'}{o:G'}{tk:Tok}{Q:Fin->J'->Prop}(X:K.In h)(F0:Xa K C)(hx:h.get? a=some o)(hc:o.cls=.ref C)(hq:Q (.done (.ret (.ref C))) ⟨h,g,d,t,os⟩):
  O7 (Pb prog w) A (Tf.«object.__getattribute__» ⟨[.ref a,.str "__class__" tk],[]⟩) Q E ⟨h,g,d,t,os⟩:=by
 have c:(⟨h,g,d,t,os⟩:J').TypeIs (.builtin "object.__class__") "getset_descriptor":=ac1;have b:=abG (M:=Pb prog w) X F0.cls;have f:=ac1;have j:=adO.lookup;have e:=F.slot_gs_set.lookup
 repeat (any_goals (first|assumption|(with_reducible refine aap hx ?_;rw[hc])|(with_reducible refine b.at ?_)|wp_step))
 refine xO X F0 hx hc ?_
 repeat (any_goals (first|assumption|wp_step))
theorem tP {A:Pz}{E:D'->J'->Prop}{K:O6}{h:O8}{g:Array aaL}{d:Drawn}{t:Nat}{os:RE}{a:f'}{C:f'}{o:G'}{M:Vg}{aee:D'}{Q:Unit->J'->Prop}(X:K.In h)(F0:Xa K C)(hx:h.get? a=some o)(hc:o.cls=.ref C)(hq:Q () ⟨h,g,d,t,os⟩):
  O7 M A (checkBuiltinCall "BaseException.__getattribute__" ⟨[.ref a,aee],[]⟩) Q E ⟨h,g,d,t,os⟩:=by
 have b:=abJ (M:=M) X F0.be;have f:builtinKind "BaseException.__getattribute__"=some .slot:=by decide +kernel
 have c:splitId "BaseException.__getattribute__"=some ("BaseException","__getattribute__"):=by decide +kernel
 have e:=F.args_bexc_ga (.ref a) aee;simp only[checkBuiltinCall,f,c];refine O4 ?_;unfold isInstance
 repeat (first|(with_reducible refine aap hx ?_;rw[hc])|(with_reducible refine b.at ?_)|wp_step)
 exact hq
theorem zE {prog:Pk}{w:Pd}{A:Pz}{E:D'->J'->Prop}{K:O6}{h:O8}{g:Array aaL}{d:Drawn}{t:Nat}{os:RE}{a:f'}{C:f'}{o:G'}{tk:Tok}{Q:D'->J'->Prop}(X:K.In h)(F0:Xa K C)(hx:h.get? a=some o)(hc:o.cls=.ref C)(hq:Q (.ref C) ⟨h,g,d,t,os⟩):
  O7 (Pb prog w) A (getAttrBy (.ref a) (.str "__class__" tk) false) Q E ⟨h,g,d,t,os⟩:=by
 have b:Slot "ValueError" "__getattribute__" "BaseException.__getattribute__":=PySem.F.attr_ValueError.ga;have j:=b.bind (.ref a);have e:=abG (M:=Pb prog w) X F0.ga;have f:=abG (M:=Pb prog w) X F0.gt;have c:(YS "BaseException.__getattribute__"==YS "object.__getattribute__")=false:=by decide +kernel
 have l:(onTheHeap (Qg C)&&YS "BaseException.__getattribute__"==YS "object.__getattribute__")=false:=by rw[c];exact adG _
 repeat (any_goals (first|assumption|(with_reducible refine aap hx ?_;rw[hc])|(with_reducible refine e.at ?_)|(with_reducible refine f.at ?_)|wp_step))
 refine ac4 b.plain F.entry_bexc_ga (tP X F0 hx hc (tN X F0 hx hc ?_))
 repeat (any_goals (first|assumption|wp_step))
theorem vz {prog:Pk}{w:Pd}{A:Pz}{E:D'->J'->Prop}{K:O6}{h:O8}{g:Array aaL}{d:Drawn}{t:Nat}{os:RE}{a:f'}{C:f'}{o:G'}{Q:Option D'->J'->Prop}(X:K.In h)(F0:Xa K C)(hx:h.get? a=some o)(hc:o.cls=.ref C)(hq:Q (some (.ref C)) ⟨h,g,d,t+1,os⟩):
  O7 (Pb prog w) A (getAttr? (.ref a) "__class__") Q E ⟨h,g,d,t,os⟩:=by
 unfold getAttr? getAttrBy?
 repeat (any_goals (first|assumption|with_reducible apply zE X F0 hx hc|wp_step))
theorem BN {K:O6}(F0:Xa K C):W.KitX K (.ref a) (.ref C) (λh=>∃oe,h.get? a=some oe/\oe.cls=.ref C) where
 ty:=λM h _ ⟨oe,e,c⟩=>c▸(ad5 e).andThen .now
 it:=λM h X _=>qJ X F0.cl
 ne:=λh m dd its n o X f=>by
  refine adh.mpr λq=>?_;have e:C=m:=Qg.inj (beq_iff_eq.mp q);subst e;have b:=F0.cl;unfold SH W.clsIn at b
  split at b
  .rename_i p d' l u j;have z:=(X _ _ j).symm.trans f;cases z
  .cases b
 ca:=λ{prog w A E Q s} X ⟨oe,e,c⟩ k=>by
  obtain⟨h,g,d,t,os⟩:=s;exact vz X F0 e c k
inductive Zg (K)(H):V->D'->Prop where
 | of {x:V}{t:D'}(h:Ue K H x t):Zg K H x t
 | tup {a:f'}{xs:List V}(h:Pw K H a xs):Zg K H (.ref a) (.type "tuple")
 | lst {a:f'}{xs:List V}(h:Pg K H a xs):Zg K H (.ref a) (.type "list")
 | exc {a C:f'}(h:H a=some (kz a (.ref C))) (F0:Xa K C):Zg K H (.ref a) (.ref C)
def LC:V->D'->Prop
 | .ty n,c=>c=.type n
 | .ref C,c=>c=.ref C
 | _,_=>False
theorem bO:cR X (.builtin "isinstance") (λxs H Q=>∃x cv t c b,xs=[x,cv]/\LC cv c/\Zg X.K H x t/\UB X.K t c=some b/\Q (.bl b) H):=by
 intro aa s D H xs us Q I r h;obtain⟨x,cv,t,c,b,rfl,d,ty,e,q⟩:=h;obtain⟨u,v,rfl,j,y⟩:=r.two;have E:v=c:=by
  cases cv with
  | ty n=>exact(show v=_ from y).trans (show c=_ from d).symm
  | ref C=>exact(show v=_ from y).trans (show c=_ from d).symm
  | _=>exact SF d
 subst E;have fin:∀m,EP X aa D Q (.bool b) { s with toks:=m }:=λm=>⟨.bl b,H,I.tok m,rfl,q⟩
 cases ty with
 | of ty=>exact zi I j ty e fin
 | @tup a xs l=>
  cases (show u=Qg a from j);obtain⟨its,_,p,_⟩:=I.tuple l;obtain⟨o,g,f,_⟩:=p;exact Ub W.kitx_tuple I.Q9 ⟨o,g,f⟩ e (λz=>nomatch z) fin
 | @lst a xs l=>
  cases (show u=Qg a from j);obtain⟨its,_,p,_⟩:=I.list l;obtain⟨o,g,f,_⟩:=p.isList;exact Ub W.kitx_list I.Q9 ⟨o,g,f⟩ e (λz=>nomatch z) fin
 | @exc a C G A=>
  cases (show u=Qg a from j);obtain⟨⟨F,vs,g,f,_⟩,_⟩:=(show bq X.prog X.w H s.heap a (kz a (.ref C)) from I.Pn a _ G)
  exact Ub (BN A) I.Q9 ⟨F,g,f⟩ e (λz=>nomatch z) fin
theorem F7 {K:O6}:UB K (.type "int") (.type "int")=some true:=rfl
theorem F8 {K:O6}:UB K (.type "int") (.type "bool")=some false:=by kernel_rfl
theorem oh {K:O6}:UB K (.type "tuple") (.type "tuple")=some true:=rfl
theorem F9 {K:O6}:UB K (.type "bool") (.type "bool")=some true:=rfl
theorem Ga {K:O6}:UB K (.type "list") (.type "list")=some true:=rfl
structure agm (K)(C:f'):Prop where
 cl:SH K C=true
 ty:Vc K (.ref C)=some (.type "type")
theorem En {K:O6}(c:agm K D)(hm:Rj K C (.ref D)=some b):UB K (.ref C) (.ref D)=some (if C=D then true else b):=by
 unfold UB
 by_cases z:C=D
 .subst z;rw[Pf (by simp),Pf rfl]
 .rw[O9 (by simpa using z),O9 z];unfold W.kitCls;have e:(W.clsIn K D).isSome=true:=c.cl;have d:(Vc K (.ref D)==some (.type "type"))=true:=by rw[c.ty];rfl
  simp only[e,d,Bool.and_self,if_true];exact hm
theorem Gb {K:O6}(hm:Rj K C (.type "ValueError")=some b):UB K (.ref C) (.type "ValueError")=some b:=by
 unfold UB;rw[O9 (by simp)];unfold W.kitCls;have c:W.kitMeta "ValueError"=true:=by decide +kernel
 simp only[c,if_true];exact hm
theorem xP (hq:s.heap.IsTupleIter q p k)(hp:s.heap.IsTuple p its)(hx:its[k]?=some x)(hQ:∀h',h'.IsTupleIter q p (k+1)->Tz q s.heap h'->Q x { s with heap:=h' }):
  O7 (Pb prog w) A (aba (.ref q)) Q E s:=by
 obtain⟨e,eq,d,b⟩:=id hq;obtain⟨g,ep,_,f,c⟩:=hp;have no:¬((Qg p==Ua)=true):=Rt;have res:(s.heap.update q (abK (·.setIfInBounds 1 (rawInt (k+1))))).IsTupleIter q p (k+1):=
  ⟨_,ZG _ eq (ac2 (ZM b _)),(adi ..).trans d,by rw[ZM b];simp[rawInt]⟩
 unfold aba;refine O4 (Xz (name:=TB "__next__") hq.typeIs aa8 (Tc aa8 hq.typeIs aeP ?_ (aeL _)));show O7 _ _ (field (.ref q) 0 >>= _) _ _ s;refine O4 (YT eq b (x:=.ref p) rfl ?_);show O7 _ _ (if (Qg p==Ua)=true then _ else _) _ _ s;rw[O9 no];show O7 _ _ (field (.ref q) 1 >>= _) _ _ s;refine O4 (YT eq b (x:=.int k 0) rfl ?_);show O7 _ _ (seqItems? (.ref p) >>= _) _ _ s;refine O4 (aay ep c ?_);simp only[Rb,hx];exact O4 (aaz eq b (by simp) (Pa ⟨x,rfl,Pa (hQ _ res (XB ..))⟩))
theorem zF (hh:A.handled=none)(hq:s.heap.IsTupleIter q p k)(hp:s.heap.IsTuple p its)(hx:its[k]?=none)(hE:∀h' e,O8.ExtBut q s.heap h'->(∃o,h'.get? e=some o/\o.cls=.type "StopIteration")->E (.ref e) { s with heap:=h' }):O7 (Pb prog w) A (aba (.ref q)) Q E s:=by
 obtain⟨d,eq,g,b⟩:=id hq;obtain⟨h,ep,_,f,c⟩:=hp;have no:¬((Qg p==Ua)=true):=Rt;unfold aba;refine O4 (Xz (name:=TB "__next__") hq.typeIs aa8 (Tc aa8 hq.typeIs aeP ?_ (aeL _)));show O7 _ _ (field (.ref q) 0 >>= _) _ _ s;refine O4 (YT eq b (x:=.ref p) rfl ?_);show O7 _ _ (if (Qg p==Ua)=true then _ else _) _ _ s;rw[O9 no];show O7 _ _ (field (.ref q) 1 >>= _) _ _ s;refine O4 (YT eq b (x:=.int k 0) rfl ?_);show O7 _ _ (seqItems? (.ref p) >>= _) _ _ s;refine O4 (aay ep c ?_);simp only[Rb,hx];refine O4 (Ss (O4 (aaz eq b (by simp) (O4 ?_))));simp only[newExc,newTuple];refine O4 (Uu (O4 (m:=firstArgMember _ _) (abX (a:=Ua) (by first|rfl|(simp only[firstArgMember];rfl)) (Uu ?_ (by size_fits)))) (by size_fits));simp only[raiseNew];refine O4 (wpAny_handled ?_);rw[show A.in1.handled=none from hh];exact O4 (Pa (wpAny_throw (hE _ _ (((XB ..).extBut.push _).push _) ⟨_,QX _ rfl,rfl⟩)))
theorem zG (hh:A.handled=none)(QB:p≠q):Draws prog w A q [q,p] its.size (λi v=>its[i]?=some v) (λi h=>h.IsTupleIter q p i/\h.IsTuple p its) where
 live:=λ_ _ st=>let ⟨o,ho,_⟩:=st.1;⟨o,ho⟩
 frame:=λ_ _ _ st f=>⟨st.1.at λo e=>f q (by simp) o e,let ⟨o,ho,r⟩:=st.2;⟨o,f p (by simp) o ho,r⟩⟩
 item:=λi s Q E d st j=>xP st.1 st.2 (x:=its[i]) (by simp[d]) λh' b c=>j _ h' s.toks (by simp[d]) ⟨b,st.2.extBut c.extBut QB⟩ c
 done:=λs Q E st g=>zF hh st.1 st.2 (by simp) g
theorem zH (l:f')(items:Array D')(n:Nat)(dct:Option f')(sl:Array (Option D')):
  Meets (Tf.«enumerate.__new__» ⟨[.type "enumerate",.ref l],[]⟩) (λ_ R s=>s.heap.get? l=some { cls:=.type "tuple",dict:=dct,data:=.seq items n,slots:=sl }/\
   R (.ok (.ret (.ref (s.heap.push { cls:=.type "tuple_iterator",data:=.fields #[.ref l,.int 0 0] }).objs.size)))
    { s with heap:=(s.heap.push { cls:=.type "tuple_iterator",data:=.fields #[.ref l,.int 0 0] }).push { cls:=.type "enumerate",data:=.fields #[.none,.bool false,.ref s.heap.objs.size,rawInt 0,.none,.none] } }):=
 .of_wp λprog w A R s h=>by
  obtain⟨j,g,d,m,os⟩:=s;obtain⟨b,h⟩:=h;have f:=sub_enumerate;have e:O8.IsTuple (J'.heap ⟨j,g,d,m,os⟩) l items:=⟨_,b,rfl,n,rfl⟩
  wp_walk using acH b;refine wpAny_stack_any λst=>Pa ?_
  split
  .rename_i c _ _ _ _ _;cases (c==TD "enumerate") <;> (wp_walk using acH b,ac9 e;exact⟨_,rfl,h⟩)
  .wp_walk using acH b,ac9 e;exact⟨_,rfl,h⟩
noncomputable def Ite (K:O6)(a:f'):It:=
 ⟨λi H=>∃xs x,Pw K H a xs/\xs[i]?=some x,λi H v H'=>∃p x,H p=none/\v=.ref p/\H'=upd H p (.tup [.int (i:Int),x])/\∀xs,Pw K H a xs->xs[i]?=some x,λi H=>∃xs,Pw K H a xs/\xs.length=i⟩
theorem zI {K:O6}{x1}(a it e:f')(hei:e≠it)(hai:a≠it)(hae:a≠e):
  Turn P w K (.Tuple elts x1 pos) (Ite K a) [e,it] e (λi h=>(∃old,IsEnum h e it i old)/\h.IsTupleIter it a i) where
 mem:=by simp
 obj:=λi h st b f=>by
  obtain⟨⟨old,g⟩,o,j,c,d⟩:=st;rcases PN.mp f with z|z
  .subst z;exact⟨_,g,λv z=>nomatch z⟩
  .rw[Qw.mp z];exact⟨o,j,λv z=>by rw[d] at z;cases z⟩
 keep:=λi h h' st k=>by
  obtain⟨⟨old,g⟩,j⟩:=st;exact⟨⟨old,k e (by simp) _ g⟩,j.at λo q=>k it (by simp) o q⟩
 item:=by
  intro X U T hK O i aa s W H E I G st hg;subst U T hK;obtain⟨⟨old,g⟩,j⟩:=st;obtain⟨xs,x,F,hx⟩:=hg;obtain⟨its,Y,pl,hz⟩:=I.tuple F;obtain⟨u,hu,ru⟩:=Y.get hx;have Qf:i<its.toArray.size:=by
   have:=(QE.mp hu).1;simpa using this
  refine wpAny_pyNext_enum_itemD (zG (A:=X.A.in1) (its:=its.toArray) (show X.A.in1.handled=none from I.ok.hd O) hai) g ⟨j,pl⟩ Qf hei (by simp[hei,Qi hae]) λy h' t D ho Zh hT hsz hk=>?_;obtain⟨R,g1,g2,g3,g4,g5⟩:=G e (by simp);obtain⟨k0,k1,k2,k3,k4,k5⟩:=G it (by simp);refine⟨.ref s.heap.objs.size,rfl,?_⟩;refine wpAny_letOwnedTupleGo_enum ho λL S M=>?_;have N:y=u:=by
   have e1:its.toArray[i]?=some u:=by simpa using hu
   rw[e1] at D;exact(Sn D).symm
  subst N;have up:∀b o,b≠e->b≠it->s.heap.get? b=some o->L.get? b=some o:=λb o z1 z2 q=>(M.2 b z1).trans (hk b o z1 z2 q);have C:e<s.heap.objs.size:=P5 g;have Z:L.get? s.heap.objs.size=some { cls:=.type "tuple",data:=.seq #[.int i t,y] }:=(M.2 _ (XI C)).trans hT;have Zc:H s.heap.objs.size=none:=I.Pn.fresh (Po _);have J:Inv X aa W H { s with heap:=L,toks:=t+1 }:=by
   refine I.step (g':=s.gens) (d':=s.drawn) (ch:=[e,it]) (λb f=>?_) (λb o _ _ f q _=>up b o (λz=>f (by simp[z])) (λz=>f (by simp[z])) q) (λb o _ _ f q _=>⟨o.slots,up b o (λz=>f (by simp[z])) (λz=>f (by simp[z])) q⟩) (λ_ _ _ _ n=>n)
    (λb o f q=>⟨o,up b o (λz=>f (by simp[z])) (λz=>f (by simp[z])) q⟩) (λ_ _ q=>q) (λ_ _ _ q=>q) (λb ps q=>⟨#[],by rw[q];simp⟩) (λm hm=>?_) (λb o q=>?_) I.bare
   .rcases PN.mp f with z|z
    .rw[z];exact⟨g3,g1,g4,g5⟩
    .rw[Qw.mp z];exact⟨k3,k1,k4,k5⟩
   .obtain⟨o,es,ep,q,r⟩:=hm;exact⟨o,es,ep,up _ o (Qi g1) (Qi k1) q,r⟩
   .refine(I.Pn b o q).UT (λc v l z=>up c v ?_ ?_ z) (λ_ z=>z) λ_ _ z=>z
    .rintro rfl;rcases l with r|r
     .rw[<-r,R] at q;cases q
     .rw[R] at r;cases r
    .rintro rfl;rcases l with r|r
     .rw[<-r,k0] at q;cases q
     .rw[k0] at r;cases r
  have J2:Inv X aa W (upd H s.heap.objs.size (.tup [.int (i:Int),x])) { s with heap:=L,toks:=t+1 }:=by
   refine J.aed Zc ?_ ?_ (λy c q=>?_) (λp hp=>?_) ⟨by show 2<=Pj;decide,[.int i t,y],.cons ⟨t,rfl⟩ (.cons ru .nil),⟨_,Z,rfl,0,rfl,rfl⟩⟩
   .exact afi I.sz
   .exact XI I.lt
   .obtain⟨v,z⟩:=I.cell y c q;exact Qs z.lt
   .exact Qs (P5 (I.pin p hp).1)
  have ltI:it<s.heap.objs.size:=by
   obtain⟨o,q,_⟩:=j;exact P5 q
  refine⟨.ref s.heap.objs.size,_,J2,rfl,⟨s.heap.objs.size,x,Zc,rfl,rfl,λys D=>by rw[I.YX D F];exact hx⟩,⟨⟨y,?_⟩,?_⟩,λb f=>?_⟩
  .have:((i+1:Nat):Int)=(i:Int)+1:=by simp
   rw[this];exact S
  .exact Zh.1.at λo q=>(M.2 it (Qi hei)).trans q
  .rcases PN.mp f with z|z
   .rw[z,aq (Qs C)];exact R
   .rw[Qw.mp z,aq (Qs ltI)];exact k0
 done:=by
  intro X U T hK O i aa s W H E I G st hg;subst U T hK;obtain⟨⟨old,g⟩,j⟩:=st;obtain⟨xs,F,hx⟩:=hg;obtain⟨its,Y,pl,hz⟩:=I.tuple F;obtain⟨k0,k1,k2,k3,k4,k5⟩:=G it (by simp);have hl:=Y.length;have hi:i=its.toArray.size:=by simp;lia
  rw[hi] at g j;refine wpAny_pyNext_enum_endD (zG (A:=X.A.in1) (its:=its.toArray) (show X.A.in1.handled=none from I.ok.hd O) hai) g ⟨j,pl⟩ λh' eb=>⟨rfl,?_⟩
  exact I.turned (t':=s.toks) (λb o f q=>eb b o f q) k0 k1 k3 k4 k5
 self:=λA i s Q E st h=>by
  obtain⟨⟨old,g⟩,_⟩:=st;exact wpAny_pyIter_enum g h
def Kh (K:O6)(ta:TA):TI:=λσ H R=>ta σ H λvs H1=>∃a,vs=[.ref a]/\(∃xs,Pw K H1 a xs)/\R (Ite K a) H1
theorem Eo {x1}(hg:Gl X "enumerate")(hm:X.mg "enumerate"=none)(ha:PA X [e] ta)(hs:Qz [e] X.env=[(false,eval e X.env)]:=by rfl):
  PI X (.Tuple elts x1 ξ) (.Call (.Name "enumerate" p) [e] [] pos) (Kh X.K ta):=by
 intro aa s w H R I h;refine Call_ (gX I hg hm (by decide +kernel:Sr "enumerate"=some (.type "enumerate")) (aac (Pm (ha pos aa s w H _ I h) λus s1 C=>Qb C λvs A d E y=>?_) hs rfl));obtain⟨a,rfl,⟨xs,D⟩,q⟩:=y;obtain⟨u,rfl,G⟩:=dH E;cases G;obtain⟨its,M,⟨⟨c,f,N,v⟩,j,l,n,hd⟩,hz⟩:=d.tuple D;simp only at l hd;subst l hd;refine callType_new F.called_enumerate (by decide) (F.typeCall_enumerate_1 _) (F.newCall_enumerate_1 _) (λobj=>F.args_object_init_2 obj _) F.entry_enumerate_new (zH a its.toArray n f v) ⟨j,?_⟩;have m:(s1.heap.push { cls:=.type "tuple_iterator",data:=.fields #[.ref a,.int 0 0] }).objs.size=s1.heap.objs.size+1:=YN ..;have g:IsEnum ((s1.heap.push { cls:=.type "tuple_iterator",data:=.fields #[.ref a,.int 0 0] }).push { cls:=.type "enumerate",data:=.fields #[.none,.bool false,.ref s1.heap.objs.size,rawInt 0,.none,.none] }) (s1.heap.objs.size+1) s1.heap.objs.size 0 .none:=by
  have:=QX (s1.heap.push { cls:=.type "tuple_iterator",data:=.fields #[.ref a,.int 0 0] }) (o:={ cls:=.type "enumerate",data:=.fields #[.none,.bool false,.ref s1.heap.objs.size,rawInt 0,.none,.none] }) rfl;rw[m] at this;exact this
 have x:((s1.heap.push { cls:=.type "tuple_iterator",data:=.fields #[.ref a,.int 0 0] }).push { cls:=.type "enumerate",data:=.fields #[.none,.bool false,.ref s1.heap.objs.size,rawInt 0,.none,.none] }).IsTupleIter s1.heap.objs.size a 0:=
  ⟨_,Qe _ (QX _ rfl),rfl,rfl⟩
 have L:∀b o,s1.heap.get? b=some o->((s1.heap.push { cls:=.type "tuple_iterator",data:=.fields #[.ref a,.int 0 0] }).push { cls:=.type "enumerate",data:=.fields #[.none,.bool false,.ref s1.heap.objs.size,rawInt 0,.none,.none] }).get? b=some o:=λb o z=>Qe _ (Qe _ z);have lt:a<s1.heap.objs.size:=P5 j;show _/\_;rw[m];refine⟨⟨_,g,rfl⟩,wpAny_pyIter_enum (i:=0) (old:=.none) g ?_⟩;refine⟨s1.heap.objs.size+1,[s1.heap.objs.size+1,s1.heap.objs.size],_,_,A,rfl,d.kept (t':=s1.toks) L,zI a s1.heap.objs.size (s1.heap.objs.size+1) (Nat.succ_ne_self _) (Qs lt) (Qs (aao lt)),⟨⟨.none,g⟩,x⟩,λb J=>?_,q⟩;have t:s1.heap.objs.size<=b:=by
  rcases PN.mp J with z|z
  .rw[z];exact XN _
  .rw[Qw.mp z];exact Po _
 exact d.XX t (d.Pn.fresh t)
theorem BO {K:O6}{a:f'}{xs:List V}{g:TG}{tb:TS}{D:Ends}{σ:St}{H:Hp}(Pv:Nat->St->Hp->Prop)(h0:Pv 0 σ H)(hl:∀i σ H,i<=xs.length->Pv i σ H->Pw K H a xs)(hs:∀i x σ H p,xs[i]?=some x->Pv i σ H->H p=none->g (.ref p) σ (upd H p (.tup [.int (i:Int),x])) λRp H2=>tb { D with nx:=Pv (i+1),ct:=Pv (i+1),bk:=D.nx } Rp H2)(hd:∀σ H,Pv xs.length σ H->D.nx σ H):
  ∃W:Nat->Nat->St->Hp->Prop,(∃m,W 0 m σ H)/\∀i m σ H,W i m σ H->
   ((Ite K a).stop i H/\D.nx σ H)\/((Ite K a).go i H/\∃N:St->Hp->Prop,(∀Pu H',N Pu H'->∃m',m' < m/\W (i+1) m' Pu H')/\∀x H',(Ite K a).Xe i H x H'->g x σ H' λRp H2=>tb { D with nx:=N,ct:=N,bk:=D.nx } Rp H2):=by
 refine⟨λi m σ H=>m=xs.length-i/\i<=xs.length/\Pv i σ H,⟨xs.length,by simp,QN _,h0⟩,?_⟩;rintro i m σ H ⟨rfl,c,pv⟩;have q:=hl i σ H c pv
 by_cases b:i<xs.length
 .refine .inr ⟨⟨xs,xs[i],q,by simp[b]⟩,Pv (i+1),λPu H' f=>⟨xs.length-(i+1),by lia,rfl,b,f⟩,λv H' y=>?_⟩;obtain⟨p,x,d,rfl,rfl,e⟩:=y;exact hs i x σ H p (e xs q) pv d
 .exact .inl ⟨⟨xs,q,by lia⟩,hd σ H (by rw[show xs.length=i by lia];exact pv)⟩
end L2
namespace Mx
noncomputable def aw (n:Nat):List Int:=(QK n).map λ(i:Nat)=>(i:Int)
theorem bc (n:Nat):(aw n).length=n:=by simp[aw]
theorem br:x∈aw n↔0<=x/\x<n:=by
 simp only[aw,P6,Sq];constructor
 .rintro⟨i,b,rfl⟩;lia
 .rintro⟨h0,c⟩;exact⟨x.toNat,by lia,by lia⟩
theorem gM (n:Nat):(aw n).Nodup:=by
 unfold aw aaJ;rw[VE];exact(abw (n:=n)).imp (λh e=>h (by lia))
theorem vA (n:Nat):(aw n).Pairwise (·<=·):=by
 unfold aw;rw[VE];exact(abh (n:=n)).imp (λh=>by lia)
noncomputable def lL (l:List Int):List Int:=l.mergeSort λa b=>decide (a<=b)
theorem oj (l):(lL l).Perm l:=List.mergeSort_perm l _
theorem tQ (l):(lL l).Pairwise (·<=·):=by
 have h:=List.pairwise_mergeSort (le:=λa b:Int=>decide (a<=b)) (by intro a b c;simp;lia) (by intro a b;simp;lia) l;exact h.imp (λh=>by simpa using h)
theorem tR (p:ys.Perm l)(s:ys.Pairwise (·<=·)):ys=lL l:=
 ae3 (λa b _ _ d c=>Int.le_antisymm d c) s (tQ l) (p.trans (oj l).symm)
def Ord (l:List Int):Prop:=lL l=aw l.length
theorem Ord.perm (h:Ord l):l.Perm (aw l.length):=by
 have p:=(oj l).symm;rw[h] at p;exact p
theorem Ord.mem (h:Ord l)(hx:x∈l):0<=x/\x<l.length:=br.mp (h.perm.mem_iff.mp hx)
end Mx
namespace L2
open PySem PySem.Spec PyProof.Rows
structure Df (P)(w)(K)(mg:N'->Option D')(base)(CX)(k:Nat)(x)(ps)(sp):Prop where
 ex:∃f fd,Py P w K mg base CX k f fd ps sp/\bK K fd ps []/\WX K (.ref f)=true/\mg x=some (.ref f)
def Gc (sp:Sp)(E:St->XK)(t:TA):TE:=λσ H Q=>t σ H λvs H1=>sp vs H1 Q (E σ)
theorem az (D:Df X.prog X.w X.K X.mg X.base CX k x ps sp)(hr:O5 k X.A)(hg:Gl X x)(hx:dA CX X E)(ha:PA X (e::es) t)(UZ:(x==("__debug__":N'))=false:=by decide)(he:Qz (e::es) X.env=(false,eval e X.env)::Qz es X.env:=by rfl)(Sw:(backTo pos (Qz es X.env)).any (·.1)=false:=by rfl):
  PE X (.Call (.Name x p) (e::es) [] pos) (Gc sp E t):=by
 obtain⟨f,l,F,b,j,m⟩:=D.ex;intro aa s d H Q I h;refine BI (Rk:=[]) (ds:=[]) F hr hg m j b .nil hx ha UZ he Sw aa s d H Q I ?_;have g:(λ(vs:List V) c=>sp (vs++[]) c Q (E d))=λvs c=>sp vs c Q (E d):=by funext vs c;rw[SV]
 show t d H (λvs c=>sp (vs++[]) c Q (E d));rw[g];exact h
theorem lM:dA (QQ P w) X (λ_ _ _ _=>False):=λ_ _ _ _ _ _ _ ⟨_,_,_,_,_,_,_,_,_,z⟩=>z.elim
theorem dz:Sr "isinstance"=some (.builtin "isinstance"):=by decide +kernel
theorem Ki:Sr "int"=some (.type "int"):=by decide +kernel
theorem zJ:Sr "bool"=some (.type "bool"):=by decide +kernel
theorem cw:Sr "tuple"=some (.type "tuple"):=by decide +kernel
theorem ib:Sr "list"=some (.type "list"):=by decide +kernel
theorem fA:Sr "range"=some (.type "range"):=by decide +kernel
theorem ig:Sr "sorted"=some (.builtin "sorted"):=by decide +kernel
theorem Dm:Sr "all"=some (.builtin "all"):=by decide +kernel
theorem bN:Sr "len"=some (.builtin "len"):=by decide +kernel
theorem ar.Qh {K:O6}(e:ar H H')(h:Pw K H a xs):Pw K H' a xs:=by
 rcases h with(h|⟨o,h⟩)|h
 .exact .inl (.inl (e _ _ h))
 .exact .inl (.inr ⟨o,e _ _ h⟩)
 .exact .inr h
theorem af (h:H p=none)(o):ar H (upd H p o):=λb u q=>by rw[aq (au q h)];exact q
theorem Pg.up {K:O6}:Pg K (upd H p (.lst xs)) p xs:=.inl (.inl ag)
theorem Pw.up {K:O6}:Pw K (upd H p (.tup xs)) p xs:=.inl (.inl ag)
end L2
namespace Ord
open PySem L2 Mx
noncomputable def top (i:Nat):Pc:=PySem.Challenge.pw_ordernest_k41_whole_groups.main.body.getD i (.Pass ⟨0,0,0,0⟩)
noncomputable abbrev tS:Pc:=top 11
noncomputable abbrev tT:Pc:=top 12
noncomputable abbrev tU:Pc:=top 13
noncomputable abbrev su:Pc:=top 14
structure Txt (K)(mg:N'->Option D')(CO:f'):Prop where
 bo:aen K mg "BadOrder" CO
 most:∃t,mg "MOST_THINGS"=some (.int 8 t)
 SZ:mg "isinstance"=none
 int:mg "int"=none
 bool:mg "bool"=none
 tuple:mg "tuple"=none
 list:mg "list"=none
 range:mg "range"=none
 sorted:mg "sorted"=none
 all:mg "all"=none
 len:mg "len"=none
 enum:mg "enumerate"=none
def jp:Sp:=λvs H Q _=>∃i:Int,vs=[.int i]/\Q (.bl true) H
theorem Ep:Qc ["value"] ["value"] (ap tS):={}
theorem BP (F:PR K "is_whole" "is_whole" tS f fd)(T:Txt K mg CO):Py P w K mg base Ph 1 f fd ["value"] jp:=by
 refine F.ok Ep (λvs H Q E h=>?_) (λc A outer s H vs Q E b h=>?_)
 .obtain⟨i,rfl,_⟩:=h;rfl
 obtain⟨i,rfl,q⟩:=h;refine⟨_,ai (aH (ji (aB bO rfl T.SZ dz (ac (pv 0) (ac (eF (v:=.ty "int") rfl T.int Ki rfl) ad)))
  (nP (FK (aB bO rfl T.SZ dz (ac (pv 0) (ac (eF (v:=.ty "bool") rfl T.bool zJ rfl) ad))))))),?_⟩
 refine⟨_,rfl,_,_,_,_,_,rfl,rfl,.of (.int i),F7,_,rfl,bn ?_⟩;exact⟨_,rfl,_,_,_,_,_,rfl,rfl,.of (.int i),F8,_,rfl,q⟩
def pN:Sp:=λvs H Q _=>∃i:Int,vs=[.int i]/\Q (.bl (decide (1<=i/\i<=8))) H
theorem Er:Qc ["many"] ["many"] (ap tT):={}
theorem BQ (F:PR K "is_count" "is_count" tT f fd)(T:Txt K mg CO)(W:Df P w K mg base Ph 1 "is_whole" ["value"] jp):Py P w K mg base Ph 2 f fd ["many"] pN:=by
 refine F.ok Er (λvs H Q E h=>?_) (λj A outer s H vs Q E c h=>?_)
 .obtain⟨i,rfl,_⟩:=h;rfl
 obtain⟨i,rfl,q⟩:=h;obtain⟨d,g⟩:=T.most;refine⟨_,ai (aH (ji (az W c rfl pS (ac (pv 0) ad)) (nP (Bz xx xx ao (pv 0) (aR (v:=.int 8) rfl g ⟨d,rfl⟩))))),?_⟩;refine⟨_,rfl,i,rfl,_,rfl,bn ?_⟩;refine⟨_,rfl,1,i,rfl,rfl,_,rfl,?_⟩
 by_cases b:1<=i
 .rw[P7 b];refine bn ⟨i,8,rfl,rfl,?_⟩;have e:decide (i<=8)=decide (1<=i/\i<=8):=by simp[b]
  show Q (V.bl (decide (i<=8))) H;rw[e];exact q
 .rw[P8 b];refine ba ?_;have e:decide (1<=i/\i<=8)=false:=by simp[b]
  rw[e] at q;exact q
def Yk (i:Int):Prop:=i.natAbs.log2<1900
theorem bI (h1:-(2 ^ 64)<i)(h2:i<2 ^ 64):Yk i:=by
 have:i.natAbs<2 ^ 64:=by lia
 have b:i.natAbs.log2<65:=by
  by_cases z:i.natAbs=0
  .rw[z];decide
  .have:=(Nat.log2_lt z (k:=64)).mpr this;lia
 unfold Yk;lia
def jq (CO:f'):Sp:=λvs H Q E=>∃i:Int,vs=[.int i]/\Yk i/\(if 1<=i/\i<=8 then Q .Qt H else E (.ref CO) none H)
theorem Es:Qc ["many"] ["many"] (ap tU):={}
theorem BR (F:PR K "look_count" "look_count" tU f fd)(T:Txt K mg CO)(W:Df P w K mg base Ph 2 "is_count" ["many"] pN):Py P w K mg base (QQ P w) 3 f fd ["many"] (jq CO):=by
 refine F.Yd Es (λvs H Q E h=>?_) (λX m A outer s H vs Q E e n j g h=>?_)
 .obtain⟨i,rfl,_⟩:=h;rfl
 obtain⟨i,rfl,d,q⟩:=h;obtain⟨b,l⟩:=T.most;subst e;refine⟨_,ai (aY (cK (cX (az W g rfl pS (ac (pv 0) ad))))
  (ai (hW rfl rfl T.bo j (ac (jo (cg (Ek (pv 0)) (cg (fz (k:=100) (by decide)) (cg (n9 (aR (v:=.int 8) rfl l ⟨b,rfl⟩)) ky))) (by decide)) ad))) aI),?_⟩
 refine⟨_,rfl,i,rfl,_,rfl,?_⟩
 by_cases c:1<=i/\i<=8
 .rw[P7 c];refine ba ?_;rw[Pf c] at q;exact q
 .rw[P8 c];refine bn ?_;rw[O9 c] at q;exact⟨⟨⟨_,rfl,rfl,i,rfl,d⟩,trivial,⟨rfl,8,rfl,by decide⟩,trivial⟩,λx=>⟨by show 1<=Pj;decide,q⟩⟩
end Ord
namespace L2
open PySem PySem.Spec PyProof.Rows
theorem fB (ns:List Int):(ns.map V.int).all cp=true:=by simp[T9,cp]
theorem cA (n:Nat):cU 0 n=(Mx.aw n).map V.int:=by simp[cU,Mx.aw]
theorem gS {ns:List Int}{i:Nat}{x:V}(h:(ns.map V.int)[i]?=some x):∃z,x=.int z/\ns[i]?=some z:=by
 rw[Q6] at h;cases e:ns[i]? with
 | none=>rw[e] at h;cases h
 | some z=>rw[e] at h;exact⟨z,(Sn h).symm,rfl⟩
end L2
namespace Ord
open PySem L2 Mx
def i8 (n:Int)(ns:List Int):Prop:=1<=n/\n<=8/\(ns.length:Int)=n/\Mx.Ord ns
structure Tp (K:O6)(H:Hp)(a:f')(ns:List Int):Prop where
 sq:Pw K H a (ns.map V.int)
 len:ns.length<=60
 SN:∀x∈ns,Yk x
theorem Tp.same (T:Tp K H a ns)(e:ar H H'):Tp K H' a ns:=⟨e.Qh T.sq,T.len,T.SN⟩
def oo (K:O6)(CO:f'):Sp:=λvs H Q E=>∃(n:Int) (a:f') (ns:List Int),vs=[.int n,.ref a]/\Yk n/\Tp K H a ns/\
 (i8 n ns->∀H',ar H H'->Q .Qt H')/\(¬i8 n ns->∀H',ar H H'->E (.ref CO) none H')
theorem zK:Qc ["many","order"] ["many","order"] (ap su):={}
theorem Et (F:PR K "look_order" "look_order" su f fd)(T:Txt K mg CO)(WC:Df P w K mg base (QQ P w) 3 "look_count" ["many"] (jq CO))(WW:Df P w K mg base Ph 1 "is_whole" ["value"] jp):
  Py P w K mg base (QQ P w) 4 f fd ["many","order"] (oo K CO):=by
 refine F.Yd zK (λvs H Q E h=>?_) (λX Pi A outer s H vs Q E hX hp N m h=>?_)
 .obtain⟨n,a,ns,rfl,_⟩:=h;rfl
 obtain⟨n,a,ns,rfl,SN,d,qg,J⟩:=h;subst hX;refine⟨_,ae (bA (az WC m rfl hp (ac (pv 0) ad)))
  (ae (aY (PW.pt (lH (cK (cX (aB bO rfl T.SZ dz (ac (pv 1) (ac (eF (v:=.ty "tuple") rfl T.tuple cw rfl) ad)))))
    (jh (aP iI (aB aN rfl T.len bN (ac (pv 1) ad)) (pv 0) (aW _)))))
   (ai (hW rfl rfl T.bo N (ac (jo (cg (pM m (pv 1)) (cg (fz (k:=100) (by decide)) (cg (n9 (pv 0)) (cg (fz (k:=100) (by decide)) ky)))) (by decide)) ad))) aI)
  (ae (aY (cK (cX (aB (tL rfl) rfl T.all Dm (ac (dB rfl (show Sc false (ap su) ["many","order"] _ _ from by constructor <;> decide +kernel) (fK (pv 1)) (λ_ _ _ _ _ _=>eJ)
    (λcl C PZ QT fp aa=>az WW (m.mono (by decide)) rfl pS (ac (pv 0) ad)) zK.nd) ad))))
   (ai (hW rfl rfl T.bo N (ac (jo (cg (pM m (pv 1)) (cg (fz (k:=100) (by decide)) ky)) (by decide)) ad))) aI)
  (ai (aY (aP (tJ m.θ) (aB tM rfl T.sorted ig (ac (pv 1) ad))
    (aV (gG rfl) rfl T.list ib (ac (aV dG rfl T.range fA (ac (pv 0) ad)) ad)) (aW _))
   (ai (hW rfl rfl T.bo N (ac (jo (cg (pM m (pv 1)) (cg (fz (k:=100) (by decide)) (cg (n9 (pv 0)) (cg (fz (k:=100) (by decide)) ky)))) (by decide)) ad))) aI)))),?_⟩
 refine⟨_,rfl,n,rfl,SN,?_⟩
 by_cases c:1<=n/\n<=8
 case neg=>
  rw[O9 c];exact J (λg=>c ⟨g.1,g.2.1⟩) H (ar.refl H)
 rw[Pf c];have agN:=d.len;have y:(ns.map V.int).length=ns.length:=PP _;refine⟨_,rfl,_,_,_,_,_,rfl,rfl,.tup d.sq,oh,_,rfl,ba ?_⟩;refine⟨_,rfl,a,_,rfl,.inr d.sq,_,rfl,rfl,_,rfl,?_⟩;have o:∀b,ar H b->isT K (Bt 1) [some (.int n),some (.ref a)] b:=λb e=>⟨_,rfl,rfl,a,ns,rfl,e.Qh d.sq,by lia,d.SN⟩
 by_cases u:(ns.length:Int)=n
 case neg=>
  have S:decide (V.int ((ns.map V.int).length:Nat)=V.int n)=false:=by
   rw[y];exact P8 λz=>u (V.int.inj z)
  rw[S];refine bn ?_;exact⟨⟨o H (ar.refl H),trivial,⟨_,rfl,rfl,n,rfl,SN⟩,trivial,trivial⟩,λx=>⟨by show 1<=Pj;decide,J (λg=>u g.2.2.1) H (ar.refl H)⟩⟩
 have S:decide (V.int ((ns.map V.int).length:Nat)=V.int n)=true:=by
  rw[y];exact P7 (congrArg V.int u)
 rw[S];refine ba ?_;refine⟨_,rfl,a,rfl,⟨_,d.sq⟩,jE (K:=K) (a:=a) (xs:=ns.map V.int) (λi t b=>b=H/\t=(Qq i true).map V.bl) ⟨rfl,rfl⟩ ?_ (by rw[y,PY];lia) ?_ ?_⟩
 .rintro i t b hi ⟨rfl,rfl⟩;exact⟨d.sq,by simp⟩
 .rintro i x t b hx ⟨rfl,rfl⟩;obtain⟨z,rfl,_⟩:=gS hx;refine V4 ?_;refine bn ?_;refine⟨_,rfl,z,rfl,rfl,?_⟩;simp[afk,Rm]
 rintro t b p ⟨rfl,rfl⟩ O;refine⟨p,Qq (ns.map V.int).length true,rfl,Pg.up,_,rfl,?_⟩;have Y:(Qq (ns.map V.int).length true).all id=true:=by simp[T9]
 rw[Y];refine ba ?_;have s1:ar b (upd b p (.lst ((Qq (ns.map V.int).length true).map V.bl))):=af O _;refine⟨_,rfl,a,ns,rfl,s1.Qh d.sq,by lia,λl I TQ L D=>?_⟩;have s2:=s1.trans (af TQ (.lst (I.map V.int)));refine⟨_,rfl,n,rfl,λr R=>⟨r,0,n,rfl,ag,by decide,by decide,by lia,by lia,by lia,λU W=>?_⟩⟩;have s3:=s2.trans (af R (.RK 0 n));have s4:=s3.trans (af W (.lst (cU 0 (n-0).toNat)));have n1:l≠U:=au (by rw[aq (au ag R)];exact ag) W;have Z:l≠r:=au ag R;refine⟨l,U,I.map V.int,_,rfl,rfl,.inl (.inl (by rw[aq n1,aq Z];exact ag)),Pg.up,fB _,by rw[cA];exact fB _,_,rfl,?_⟩;have G:I=Mx.lL ns:=Mx.tR L D;have M:(n-0).toNat=ns.length:=by lia
 rw[M,cA,ku,G]
 by_cases g:Mx.lL ns=Mx.aw ns.length
 .rw[P7 g];refine ba ?_;refine qg ⟨c.1,c.2,u,g⟩ _ ?_;rw[<-G,<-cA,<-M];exact s4
 .rw[P8 g];refine bn ?_;have j:=s4;rw[M,cA,G] at j;exact⟨⟨o _ j,trivial,⟨_,rfl,rfl,n,rfl,SN⟩,trivial,trivial⟩,λx=>⟨by show 1<=Pj;decide,J (λgg=>g gg.2.2.2) _ j⟩⟩
end Ord
namespace L2
open PySem PySem.Spec PyProof.Rows
theorem BS (h1:aG x u)(h2:aG y u):x=y:=by
 have q:aE [x] [u]:=.cons h1 .nil;have b:aE [y] [u]:=.cons h2 .nil;exact(adM (q.inj b)).1
theorem bS {α β:Type}{F:α->β->Prop}:∀{RF:List α}{RG:List β}{i:Nat}{a:α},Pl F RF RG->RF[i]?=some a->∃b,RG[i]?=some b/\F a b
 | _,_,_,_,.nil,e=>by simp at e
 | _,_,0,_,.cons h _,e=>by simp at e;subst e;exact⟨_,rfl,h⟩
 | _,_,i+1,a,.cons _ t,e=>by
  obtain⟨b,d,c⟩:=bS (i:=i) (a:=a) t (by simpa using e);exact⟨b,by simpa using d,c⟩
theorem fc {α β:Type}{F:α->β->Prop}:∀{RF:List α}{RG:List β}{i:Nat}{b:β},Pl F RF RG->RG[i]?=some b->∃a,RF[i]?=some a/\F a b
 | _,_,_,_,.nil,e=>by simp at e
 | _,_,0,_,.cons h _,e=>by simp at e;subst e;exact⟨_,rfl,h⟩
 | _,_,i+1,b,.cons _ t,e=>by
  obtain⟨a,d,c⟩:=fc (i:=i) (b:=b) t (by simpa using e);exact⟨a,by simpa using d,c⟩
theorem aJ {α β:Type}{F G:α->β->Prop}(f:∀a b,F a b->G a b):∀{RF:List α}{RG:List β},Pl F RF RG->Pl G RF RG
 | _,_,.nil=>.nil
 | _,_,.cons h t=>.cons (f _ _ h) (aJ f t)
theorem ck {α β:Type}{F:α->β->Prop}:∀{RF m₁:List α}{RG m₂:List β},Pl F RF RG->Pl F m₁ m₂->Pl F (RF++m₁) (RG++m₂)
 | _,_,_,_,.nil,s=>s
 | _,_,_,_,.cons h t,s=>.cons h (ck t s)
theorem sv {α β:Type}{F:α->β->Prop}:∀{RF:List α}{RG:List β}(n:Nat),Pl F RF RG->Pl F (RF.take n) (RG.take n)
 | _,_,0,_=>.nil
 | _,_,_+1,.nil=>.nil
 | _,_,n+1,.cons h t=>.cons h (sv n t)
theorem sx {α β:Type}{F:α->β->Prop}:∀{RF:List α}{RG:List β}(n:Nat),Pl F RF RG->Pl F (RF.drop n) (RG.drop n)
 | _,_,0,h=>h
 | _,_,_+1,.nil=>.nil
 | _,_,n+1,.cons _ t=>sx n t
theorem Yl {α β:Type}{F:α->β->Prop}(f:∀a b c,F a b->F a c->b=c):∀{l:List α}{m n:List β},Pl F l m->Pl F l n->m=n
 | _,_,_,.nil,.nil=>rfl
 | _,_,_,.cons h t,.cons h' t'=>by rw[f _ _ _ h h',Yl f t t']
theorem lN {α:Type}[DecidableEq α]{as bs:List α}(hl:as.length=bs.length):(QK as.length).all (λj=>decide (as[j]?=bs[j]?))=decide (as=bs):=by
 by_cases h:as=bs
 .subst h;rw[P7 rfl,T9];intro j _;exact P7 rfl
 .rw[P8 h];cases e:(QK as.length).all (λj=>decide (as[j]?=bs[j]?)) with
  | false=>rfl
  | true=>
   rw[T9] at e;refine Pp (List.ext_getElem? λj=>?_) h
   by_cases b:j<as.length
   .exact UL (e j (Sq.mpr b))
   .rw[abj (by lia),abj (by lia)]
structure Dk (α:Type)[DecidableEq α]where
 rep:O6->Hp->V->α->Prop
 QV:Nat
 mono:∀{K:O6}{H H':Hp}{x:V}{a:α},ar H H'->rep K H x a->rep K H' x a
 fn:∀{X:Cx}{aa:List (f'×G')}{σ:St}{H:Hp}{s:J'}{x:V}{a b:α},Inv X aa σ H s->rep X.K H x a->rep X.K H x b->a=b
 VW:∀{X:Cx}{aa:List (f'×G')}{σ:St}{H:Hp}{s:J'}{A:Pz}{x y:V}{a b:α}{u v:D'},Inv X aa σ H s->A.units+QV<PK->rep X.K H x a->rep X.K H y b->aG x u->aG y v->Uy A s u v (decide (a=b))
 τ:∀{X:Cx}{aa:List (f'×G')}{σ:St}{H:Hp}{s:J'}{A:Pz}{x y:V}{a b:α}{u v:D'},Inv X aa σ H s->A.units+QV<PK->rep X.K H x a->rep X.K H y b->aG x u->aG y v->SeqAt.RcAt A s u v (decide (a=b))
 υ:∀{X:Cx}{aa:List (f'×G')}{σ:St}{H:Hp}{s:J'}{A:Pz}{x y:V}{a b:α}{u v:D'},Inv X aa σ H s->A.units+QV<PK->rep X.K H x a->rep X.K H y b->aG x u->aG y v->SeqAt.RcNeAt A s u v (!decide (a=b))
theorem fV {i j:Int}:(i==j)=decide (i=j):=by
 by_cases h:i=j
 .subst h;simp
 .rw[P8 h];simpa using h
noncomputable def xQ:Dk Int where
 rep:=λ_ _ x a=>x=.int a
 QV:=0
 mono:=λ_ h=>h
 fn:=λ_ h1 h2=>V.int.inj (h1.symm.trans h2)
 VW:=λ_ _ h1 h2 r1 r2=>by
  subst h1 h2;obtain⟨t,rfl⟩:=r1;obtain⟨t',rfl⟩:=r2;rw[<-fV];exact aak _ _ _ _
 τ:=λ_ _ h1 h2 r1 r2=>by
  subst h1 h2;obtain⟨t,rfl⟩:=r1;obtain⟨t',rfl⟩:=r2;rw[<-fV];exact SeqAt.RcAt.int_int _ _ _ _
 υ:=λ_ _ h1 h2 r1 r2=>by
  subst h1 h2;obtain⟨t,rfl⟩:=r1;obtain⟨t',rfl⟩:=r2;rw[<-fV];exact SeqAt.RcNeAt.int_int _ _ _ _
section
variable {α:Type} [DecidableEq α]
theorem fW (k:Dk α){σ:St}(I:Inv X aa σ H s)(hu:A.units+k.QV<PK)(p:Pl (k.rep X.K H) xs as)(q:Pl (k.rep X.K H) ys bs)(r1:aE xs us)(r2:aE ys vs):
  ∀j (h1:j<us.toArray.size) (h2:j<vs.toArray.size),Uy A s us.toArray[j] vs.toArray[j] (decide (as[j]?=bs[j]?)):=by
 intro j h1 h2;have D:=r1.length;have E:=r2.length;have g:j<us.length:=by simpa using h1
 have w:j<vs.length:=by simpa using h2
 obtain⟨u,C,n⟩:=r1.get (i:=j) (x:=xs[j]'(by lia)) (by simp);obtain⟨v,c,l⟩:=r2.get (i:=j) (x:=ys[j]'(by lia)) (by simp);have t:us.toArray[j]=u:=by
  have:=(QE.mp C).2;simpa using this
 have m:vs.toArray[j]=v:=by
  have:=(QE.mp c).2;simpa using this
 obtain⟨a,d,o⟩:=bS (i:=j) (a:=xs[j]'(by lia)) p (by simp);obtain⟨b,y,e⟩:=bS (i:=j) (a:=ys[j]'(by lia)) q (by simp);rw[t,m,d,y];have f:decide (some a=some b)=decide (a=b):=by
  by_cases h:a=b
  .subst h;simp
  .simp[h]
 rw[f];exact k.VW I hu o e n l
theorem jr {as bs:List α}(hn:n=as.length)(hm:m=bs.length):((QK (min n m)).all (λj=>decide (as[j]?=bs[j]?))&&n==m)=decide (as=bs):=by
 subst hn hm
 by_cases h:as.length=bs.length
 .rw[h,Nat.min_self,<-h,lN h];simp[h]
 .have:(as.length==bs.length)=false:=by simpa using h
  rw[this,adG,P8];rintro rfl;exact h rfl
noncomputable def Gd (k:Dk α):Dk (List α) where
 rep:=λK H x as=>∃p xs,x=.ref p/\Pw K H p xs/\Pl (k.rep K H) xs as
 QV:=k.QV+1
 mono:=λs ⟨p,xs,e,q,r⟩=>⟨p,xs,e,by
  rcases q with(h|⟨o,h⟩)|h
  .exact .inl (.inl (s _ _ h))
  .exact .inl (.inr ⟨o,s _ _ h⟩)
  .exact .inr h,aJ (λ_ _ z=>k.mono s z) r⟩
 fn:=λI ⟨p,xs,e,q,r⟩ ⟨p',Ym,e',q',r'⟩=>by
  rw[e] at e';cases e';have:=I.YX q q';subst this;exact Yl (F:=k.rep _ _) (λ_ _ _ h1 h2=>k.fn I h1 h2) r r'
 VW:=λ{X aa σ H s A x y a b u v} I hu ⟨p,xs,e,q,r⟩ ⟨p',Ym,e',q',r'⟩ rx ry=>by
  subst e e';cases rx;cases ry
  by_cases hp:p=p'
  .subst hp;have:=I.YX q q';subst this;have:=Yl (F:=k.rep _ _) (λ_ _ _ h1 h2=>k.fn I h1 h2) r r';subst this;rw[P7 rfl];exact YJ _
  .obtain⟨its,v1,t1,_⟩:=I.tuple q;obtain⟨its',v2,t2,_⟩:=I.tuple q';refine ZN hp ?_;have h:=YF (A:=A) (e:=λj=>decide (a[j]?=b[j]?)) t1 t2 (by lia) (fW k I (by show A.units+1+k.QV<PK;lia) r r' v1 v2);rw[jr (by rw[Qv,<-v1.length,r.length]) (by rw[Qv,<-v2.length,r'.length])] at h;exact h
 τ:=λ{X aa σ H s A x y a b u v} I hu ⟨p,xs,e,q,r⟩ ⟨p',Ym,e',q',r'⟩ rx ry=>by
  subst e e';cases rx;cases ry;obtain⟨its,v1,t1,_⟩:=I.tuple q;obtain⟨its',v2,t2,_⟩:=I.tuple q';have h:=YF (A:=A) (e:=λj=>decide (a[j]?=b[j]?)) t1 t2 (by lia) (fW k I (by show A.units+1+k.QV<PK;lia) r r' v1 v2);rw[jr (by rw[Qv,<-v1.length,r.length]) (by rw[Qv,<-v2.length,r'.length])] at h;exact h
 υ:=λ{X aa σ H s A x y a b u v} I hu ⟨p,xs,e,q,r⟩ ⟨p',Ym,e',q',r'⟩ rx ry=>by
  subst e e';cases rx;cases ry;obtain⟨its,v1,t1,_⟩:=I.tuple q;obtain⟨its',v2,t2,_⟩:=I.tuple q';have h:=afp (A:=A) (e:=λj=>decide (a[j]?=b[j]?)) t1 t2 (by lia) (fW k I (by show A.units+1+k.QV<PK;lia) r r' v1 v2);rw[jr (by rw[Qv,<-v1.length,r.length]) (by rw[Qv,<-v2.length,r'.length])] at h;exact h
noncomputable def i9 (k:Dk α):Dk (List α) where
 rep:=λK H x as=>∃p xs,x=.ref p/\Pg K H p xs/\Pl (k.rep K H) xs as
 QV:=k.QV+1
 mono:=λs ⟨p,xs,e,q,r⟩=>⟨p,xs,e,by
  rcases q with(h|⟨o,h⟩)|h
  .exact .inl (.inl (s _ _ h))
  .exact .inl (.inr ⟨o,s _ _ h⟩)
  .exact .inr h,aJ (λ_ _ z=>k.mono s z) r⟩
 fn:=λI ⟨p,xs,e,q,r⟩ ⟨p',Ym,e',q',r'⟩=>by
  rw[e] at e';cases e';have:=I.ab8 q q';subst this;exact Yl (F:=k.rep _ _) (λ_ _ _ h1 h2=>k.fn I h1 h2) r r'
 VW:=λ{X aa σ H s A x y a b u v} I hu ⟨p,xs,e,q,r⟩ ⟨p',Ym,e',q',r'⟩ rx ry=>by
  subst e e';cases rx;cases ry
  by_cases hp:p=p'
  .subst hp;have:=I.ab8 q q';subst this;have:=Yl (F:=k.rep _ _) (λ_ _ _ h1 h2=>k.fn I h1 h2) r r';subst this;rw[P7 rfl];exact YJ _
  .obtain⟨its,v1,t1,_⟩:=I.list q;obtain⟨its',v2,t2,_⟩:=I.list q';refine ZN hp ?_;have z1:its.toArray.size=a.length:=by rw[Qv,<-v1.length,r.length]
   have z2:its'.toArray.size=b.length:=by rw[Qv,<-v2.length,r'.length]
   by_cases hl:a.length=b.length
   .have h:=afF (A:=A) (e:=λj=>decide (a[j]?=b[j]?)) t1.isList t2.isList (by lia) (by lia) (fW k I (by show A.units+1+k.QV<PK;lia) r r' v1 v2);rw[z1,lN hl] at h;exact h
   .rw[P8 (λz=>hl (by rw[z]))];exact ae4 t1.isList t2.isList (by rw[z1,z2];simpa using hl) (by lia)
 τ:=λ{X aa σ H s A x y a b u v} I hu ⟨p,xs,e,q,r⟩ ⟨p',Ym,e',q',r'⟩ rx ry=>by
  subst e e';cases rx;cases ry;obtain⟨its,v1,t1,_⟩:=I.list q;obtain⟨its',v2,t2,_⟩:=I.list q';have z1:its.toArray.size=a.length:=by rw[Qv,<-v1.length,r.length]
  have z2:its'.toArray.size=b.length:=by rw[Qv,<-v2.length,r'.length]
  by_cases hl:a.length=b.length
  .have h:=afF (A:=A) (e:=λj=>decide (a[j]?=b[j]?)) t1.isList t2.isList (by lia) (by lia) (fW k I (by show A.units+1+k.QV<PK;lia) r r' v1 v2);rw[z1,lN hl] at h;exact h
  .rw[P8 (λz=>hl (by rw[z]))];exact ae4 t1.isList t2.isList (by rw[z1,z2];simpa using hl) (by lia)
 υ:=λ{X aa σ H s A x y a b u v} I hu ⟨p,xs,e,q,r⟩ ⟨p',Ym,e',q',r'⟩ rx ry=>by
  subst e e';cases rx;cases ry;obtain⟨its,v1,t1,_⟩:=I.list q;obtain⟨its',v2,t2,_⟩:=I.list q';have z1:its.toArray.size=a.length:=by rw[Qv,<-v1.length,r.length]
  have z2:its'.toArray.size=b.length:=by rw[Qv,<-v2.length,r'.length]
  by_cases hl:a.length=b.length
  .have h:=afz (A:=A) (e:=λj=>decide (a[j]?=b[j]?)) t1.isList t2.isList (by lia) (by lia) (fW k I (by show A.units+1+k.QV<PK;lia) r r' v1 v2);rw[z1,lN hl] at h;exact h
  .rw[P8 (λz=>hl (by rw[z]))];exact aeX t1.isList t2.isList (by rw[z1,z2];simpa using hl) (by lia)
def Ge (k:Dk α)(K:O6)(neg:Bool):R2:=λx y H Q=>∃a b,k.rep K H x a/\k.rep K H y b/\Q (.bl (if neg then !decide (a=b) else decide (a=b))) H
theorem zL (k:Dk α)(hu:X.A.units+k.QV<PK):Qy X (RD .Eq) (Ge k X.K false):=by
 intro aa s g H x y v u Q I f d h;obtain⟨a,b,c,e,q⟩:=h;exact k.τ I hu c e f d X.prog X.w X.xe _ ⟨.bl (decide (a=b)),H,I,rfl,q⟩
theorem tV (k:Dk α)(hu:X.A.units+k.QV<PK):Qy X (RD .NotEq) (Ge k X.K true):=by
 intro aa s g H x y v u Q I f d h;obtain⟨a,b,c,e,q⟩:=h;exact k.υ I hu c e f d X.prog X.w X.xe _ ⟨.bl (!decide (a=b)),H,I,rfl,q⟩
noncomputable def gI (k:Dk α)(K:O6)(H:Hp)(b:α)(u:D'):Bool:=@decide (∃y,aG y u/\k.rep K H y b) (abf _)
theorem vU (k:Dk α){σ:St}(I:Inv X aa σ H s)(r:aG y u)(h:k.rep X.K H y a):gI k X.K H b u=decide (a=b):=by
 unfold gI
 by_cases z:a=b
 .subst z;rw[P7 rfl];exact @P7 _ (abf _) ⟨y,r,h⟩
 .rw[P8 z];refine @P8 _ (abf _) ?_;rintro⟨d,c,h'⟩;have:=BS r c;subst this;exact z (k.fn I h h')
theorem lO (k:Dk α){σ:St}(I:Inv X aa σ H s)(hu:A.units+k.QV<PK)(rx:aG x v)(hb:k.rep X.K H x b):
  ∀{xs:List V}{us:List D'}{as:List α},aE xs us->Pl (k.rep X.K H) xs as->(∀u∈us,Uy A s u v (gI k X.K H b u))/\us.any (gI k X.K H b)=as.any λa=>decide (a=b)
 | _,_,_,.nil,.nil=>⟨λu hu=>(by cases hu),rfl⟩
 | y::xs,u::us,a::as,.cons r t,.cons p q=>by
  obtain⟨d,c⟩:=lO k I hu rx hb t q;have e:=vU (b:=b) k I r p;refine⟨λw hw=>?_,by rw[WQ,WQ,e,c]⟩;rcases PN.mp hw with rfl|hw
  .rw[e];exact k.VW I hu p hb r rx
  .exact d w hw
def BU (k:Dk α)(K:O6)(neg:Bool):R2:=λx y H Q=>∃b as,k.rep K H x b/\(i9 k).rep K H y as/\Q (.bl (if neg then !as.any (λa=>decide (a=b)) else as.any (λa=>decide (a=b)))) H
theorem Gf (k:Dk α)(hu:X.A.units+1+k.QV<PK):Qy X (RD .In) (BU k X.K false):=by
 intro aa s n H x y v u Q I l d h;obtain⟨b,as,m,⟨p,xs,rfl,c,f⟩,q⟩:=h;cases d;obtain⟨its,r,pl,hz⟩:=I.list c;obtain⟨j,e⟩:=lO k (A:=X.A.in1) I hu l m r f;refine SeqAt.in_listAt (gI k X.K H b) pl.isList (λw g=>j w (by simpa using g)) ⟨.bl _,H,I,rfl,?_⟩;rw[show its.toArray.any (gI k X.K H b)=its.any (gI k X.K H b) by simp,e];exact q
theorem qK (k:Dk α)(hu:X.A.units+1+k.QV<PK):Qy X (RD .NotIn) (BU k X.K true):=by
 intro aa s n H x y v u Q I l d h;obtain⟨b,as,m,⟨p,xs,rfl,c,f⟩,q⟩:=h;cases d;obtain⟨its,r,pl,hz⟩:=I.list c;obtain⟨j,e⟩:=lO k (A:=X.A.in1) I hu l m r f;refine afx (gI k X.K H b) pl.isList (λw g=>j w (by simpa using g)) ⟨.bl _,H,I,rfl,?_⟩;rw[show its.toArray.any (gI k X.K H b)=its.any (gI k X.K H b) by simp,e];exact q
def Eu (k:Dk α)(K:O6):V->List V->Hp->VK->Prop:=λo vs H Q=>∃x b as j,vs=[x]/\k.rep K H x b/\(i9 k).rep K H o as/\as[j]?=some b/\(∀(i:Nat),i<j->as[i]?≠some b)/\Q (.int (j:Int)) H
theorem zM (k:Dk α)(hu:X.A.units+4+k.QV<PK):MtM X "list.index" (Eu k X.K):=by
 intro aa s U H o vs v us Q I G M h;obtain⟨x,b,as,j,rfl,R,⟨p,xs,rfl,F,d⟩,hit,L,q⟩:=h;cases G;obtain⟨u,rfl,P⟩:=M.one;obtain⟨its,r,pl,hz⟩:=I.list F;obtain⟨⟨cls,dd,data,C⟩,l,f,n,hd⟩:=pl.isList;simp only at f hd;subst f hd;have T:=r.length;have W:=d.length;have Y:j<as.length:=(QE.mp hit).1;have t:j<its.toArray.size:=by simp;lia
 have at_:∀(i:Nat) (D:i<its.toArray.size) (a:α),as[i]?=some a->gI k X.K H b its.toArray[i]=decide (a=b):=λi D a N=>by
  obtain⟨z,hz,O⟩:=fc d N;obtain⟨w,S,y⟩:=r.get hz;have:its.toArray[i]=w:=by
   have:=(QE.mp S).2;simpa using this
  rw[this];exact vU k I y O
 refine Z6 aaf ⟨_,l,rfl⟩ ae2 (aeY _ _)
  (afA p its.toArray n dd C u (gI k X.K H b) j t (by have:=hz;rw[PY] at this;lia) (by rw[at_ j t b hit];exact P7 rfl) λm E J=>?_) ⟨l,λz c=>?_,?_⟩
 .have g:m<as.length:=by lia
  rw[at_ m E _ (Qu g)];refine P8 λe=>L m J ?_;rw[Qu g,e]
 .exact(lO k I (by first|lia|(show X.A.units+_+k.QV<PK;lia)) P R r d).1 z (by simpa using c)
 .exact⟨.int (j:Int),H,I.tok _,⟨s.toks,rfl⟩,q⟩
end
section
variable {κ:Type} [DecidableEq κ]
noncomputable def cx (kvs:List (κ×V))(k:κ):Option V:=(kvs.find? λkv=>decide (kv.1=k)).map (·.2)
noncomputable def cV (kvs:List (κ×V))(k:κ)(v:V):List (κ×V):=
 if (kvs.any λkv=>decide (kv.1=k))=true then kvs.map (λkv=>if kv.1=k then (kv.1,v) else kv) else kvs++[(k,v)]
theorem LD:cx ([]:List (κ×V)) k=none:=rfl
theorem dW {p:κ×V}(e:p.1=k):cx (p::r) k=some p.2:=by simp[cx,ZU,e]
theorem dX {p:κ×V}(e:¬p.1=k):cx (p::r) k=cx r k:=by simp[cx,ZU,e]
theorem jG (k:κ):∀kvs:List (κ×V),(kvs.any λkv=>decide (kv.1=k))=(cx kvs k).isSome
 | []=>rfl
 | p::r=>by
  rw[WQ]
  by_cases e:p.1=k
  .simp only[dW e,P7 e,Bool.true_or,afy]
  .rw[dX e,P8 e,Bool.false_or];exact jG k r
theorem gq (kvs:List (κ×V))(k:κ)(v):(cV kvs k v).length<=kvs.length+1:=by
 unfold cV
 split
 .rw[PP];lia
 .rw[QI,Q0,WE];lia
theorem eR.ab7 (r:eR o u):o.isSome=u.isSome:=by
 cases o with
 | none=>cases u with
  | none=>rfl
  | some _=>exact(show False from r).elim
 | some _=>cases u with
  | none=>exact(show False from r).elim
  | some _=>rfl
theorem KV.val (r:KV kvs vs)(k:κ):eR (cx kvs k) (valueAt vs k):=by
 unfold KV at r
 induction r with
 | nil=>exact SG
 | @cons p q ps d h t j=>
  obtain⟨f,g⟩:=h
  by_cases e:p.1=k
  .have c:q.1=k:=f.symm.trans e;have b:valueAt (q::d) k=some q.2:=by simp[valueAt,ZU,c]
   rw[dW e,b];exact g
  .have c:¬q.1=k:=λz=>e (f.trans z);have b:valueAt (q::d) k=valueAt d k:=by simp[valueAt,ZU,c]
   rw[dX e,b];exact j
theorem KV.any (r:KV kvs vs)(k:κ):(kvs.any λkv=>decide (kv.1=k))=vs.any λkv=>decide (kv.1=k):=by
 unfold KV at r
 induction r with
 | nil=>rfl
 | cons h t b=>rw[WQ,WQ,b,h.1]
theorem KV.acx (r:KV kvs vs)(k:κ)(ry:aG y u):
  KV (kvs.map λkv=>if kv.1=k then (kv.1,y) else kv) (vs.map λkv=>if kv.1=k then (kv.1,u) else kv):=by
 unfold KV at r ⊢
 induction r with
 | nil=>exact .nil
 | @cons p q ps f h t d=>
  rw[Qr,Qr];refine .cons ?_ d;obtain⟨b,c⟩:=h
  by_cases e:p.1=k
  .rw[Pf e,Pf (b.symm.trans e)];exact⟨b,ry⟩
  .rw[O9 e,O9 (λz=>e (b.trans z))];exact⟨b,c⟩
theorem KV.put (r:KV kvs vs)(k:κ)(ry:aG y u):KV (cV kvs k y) (stored vs k u):=by
 unfold cV stored;rw[r.any k]
 by_cases e:(vs.any λb=>decide (b.1=k))=true
 .rw[Pf e,Pf e];exact r.acx k ry
 .rw[O9 e,O9 e];exact Pl.snoc r ⟨rfl,ry⟩
theorem KV.length {kvs:List (κ×V)}(r:KV kvs vs):kvs.length=vs.length:=ZX r
end
theorem lP (r:aG (kV k) u):(bu P w).is k u=true:=by
 cases k with
 | inl i=>obtain⟨t,e⟩:=(show ∃t,u=R0 i t from r);subst e;exact vv P w i t
 | inr x=>obtain⟨t,e⟩:=(show ∃t,u=aaK x t from r);subst e;exact vw P w x t
theorem qL:∀{ks:List Key}{us:List D'},aE (ks.map kV) us->ItemsAre (bu P w) ks us
 | [],_,r=>by rw[aaD] at r;cases r;exact .nil
 | k::ks,_,r=>by
  rw[Qr] at r;cases r with
  | cons h t=>exact .cons (lP h) (qL t)
abbrev KT (H:Hp):List (List Key×V)->List (List Key×f'×D')->Prop:=Pl λp q=>p.1=q.1/\H q.2.1=some (.tup (p.1.map kV))/\aG p.2 q.2.2
theorem KT.val (r:KT H kvs xs)(k):eR (cx kvs k) ((atKey xs k).map (·.2)):=by
 induction r with
 | nil=>exact SG
 | @cons p q ps d h t j=>
  obtain⟨f,_,g⟩:=h
  by_cases e:p.1=k
  .have c:q.1=k:=f.symm.trans e;have b:atKey (q::d) k=some q.2:=by simp[atKey,ZU,c]
   rw[dW e,b];exact g
  .have c:¬q.1=k:=λz=>e (f.trans z);have b:atKey (q::d) k=atKey d k:=by simp[atKey,ZU,c]
   rw[dX e,b];exact j
theorem KT.acx (r:KT H kvs xs)(k)(ry:aG y u):
  KT H (kvs.map λkv=>if kv.1=k then (kv.1,y) else kv) (xs.map (putAt k u)):=by
 induction r with
 | nil=>exact .nil
 | @cons p q ps g h t d=>
  rw[Qr,Qr];refine .cons ?_ d;obtain⟨b,c,f⟩:=h;unfold putAt
  by_cases e:p.1=k
  .rw[Pf e,Pf (b.symm.trans e)];exact⟨b,c,ry⟩
  .rw[O9 e,O9 (λz=>e (b.trans z))];exact⟨b,c,f⟩
theorem KT.put (r:KT H kvs xs)(k)(hb:H b=some (.tup (k.map kV)))(ry:aG y u):
  KT H (cV kvs k y) (storedH xs k b u):=by
 have e:(kvs.any λc=>decide (c.1=k))=(atKey xs k).isSome:=by
  rw[jG,(r.val k).ab7,afD]
 unfold cV storedH;rw[e]
 by_cases q:(atKey xs k).isSome=true
 .rw[Pf q,Pf q];exact r.acx k ry
 .rw[O9 q,O9 q];exact Pl.snoc r ⟨rfl,hb,ry⟩
theorem KT.keeps (r:KT H kvs xs)(ht:∀b ys,H b=some (.tup ys)->H' b=some (.tup ys)):KT H' kvs xs:=
 Paired.acp r λ_ _ z=>⟨z.1,ht _ _ z.2.1,z.2.2⟩
theorem Dp (ok:Q2 P w H h)(e:Rd H a u):bq P w H h a u:=e.ok ok
theorem sy (ok:Q2 P w H h)(e:Rd H a (.dK kvs)):kvs.length<=Pj/\(a==SW)=false/\∃vs,KV kvs vs/\h.DictOf (bu P w) a vs:=
 show bq P w H h a (.dK kvs) from Dp ok e
theorem lQ (ok:Q2 P w H h)(e:H a=some (.dK kvs)):kvs.length<=Pj/\(a==SW)=false/\∃vs,KV kvs vs/\h.DictOf (bu P w) a vs:=sy ok (.inl e)
theorem ou (ok:Q2 P w H h)(e:H a=some (.tup (ks.map kV))):(tupleKind (bu P w)).is h ks a:=by
 obtain⟨_,its,r,o,c,b,n,d,_⟩:=(show bq P w H h a (.tup (ks.map kV)) from ok a _ e)
 exact⟨o,its.toArray,n,c,b,d,by simpa using qL r⟩
theorem sA (ok:Q2 P w H h)(e:Rd H a (.dT kvs)):kvs.length<=Pj/\(a==SW)=false/\
  ∃xs,KT H kvs xs/\h.DictOfH (tupleKind (bu P w)) a xs:=by
 obtain⟨z,y,xs,r,o,es,ep,d,c,g,b,f⟩:=(show bq P w H h a (.dT kvs) from Dp ok e)
 refine⟨z,y,xs,r,o,es,ep,d,c,g,b,λx hx=>?_,f⟩;have all:∀{l:List (List Key×V)}{m:List (List Key×f'×D')},KT H l m->∀x∈m,(tupleKind (bu P w)).is h x.1 x.2.1:=by
  intro l m q
  induction q with
  | nil=>intro x hx;exact nomatch hx
  | @cons p q ps qs hq t ih=>
   intro x hx;rcases PN.mp hx with e|hx
   .subst e;exact ou ok (by rw[<-hq.1];exact hq.2.1)
   .exact ih x hx
 exact all r x hx
theorem Kj (ok:Q2 P w H h)(e:H a=some (.dT kvs)):kvs.length<=Pj/\(a==SW)=false/\
  ∃xs,KT H kvs xs/\h.DictOfH (tupleKind (bu P w)) a xs:=sA ok (.inl e)
def jH (H:Hp)(a:f')(y:V)(r:Option V):Prop:=
 (∃kvs k,Rd H a (.dK kvs)/\y=kV k/\r=cx kvs k)\/∃kvs k b,Rd H a (.dT kvs)/\y=.ref b/\H b=some (.tup (k.map kV))/\r=cx kvs k
def tW (H:Hp)(a:f')(y v:V)(H':Hp):Prop:=
 (∃kvs k,H a=some (.dK kvs)/\y=kV k/\kvs.length<Pj/\H'=upd H a (.dK (cV kvs k v)))\/
 ∃kvs k b,H a=some (.dT kvs)/\y=.ref b/\H b=some (.tup (k.map kV))/\kvs.length<Pj/\H'=upd H a (.dT (cV kvs k v))
theorem jH.k {k:Key}(e:H a=some (.dK kvs)):jH H a (kV k) (cx kvs k):=.inl ⟨kvs,k,.inl e,rfl,rfl⟩
theorem tW.k {k:Key}(e:H a=some (.dK kvs))(hl:kvs.length<Pj):tW H a (kV k) v (upd H a (.dK (cV kvs k v))):=.inl ⟨kvs,k,e,rfl,hl,rfl⟩
theorem Inv.big {σ:St}(I:Inv X aa σ H s):SW<s.heap.objs.size:=by
 have h:Qx<s.heap.objs.size:=(I.mod.glob.keeps I.bk).lt;exact aaF (by decide) h
theorem zN {σ:St}(hu:A.units+1<PK)(I:Inv X aa σ H s)(g:jH H a y (some v))(ry:aG y u)(h:∀w' s',Inv X aa σ H s'->aG v w'->Q w' s'):
  O7 (Pb X.prog X.w) A (getItem (.ref a) u) Q E s:=by
 rcases g with⟨kvs,k,e,d,l⟩|⟨kvs,k,b,e,d,m,l⟩
 .subst d;obtain⟨z,hd,vs,rel,dd⟩:=sy I.Pn e;obtain⟨w',f,c⟩:=eR.some_of (v:=v) (o:=valueAt vs k) (by rw[l];exact rel.val k);exact wpAny_getItem_of (lP ry) dd.mapOf f (h w' _ (I.tok _) c)
 .subst d;cases (show u=Qg b from ry);obtain⟨z,hd,xs,rel,dd⟩:=sA I.Pn e;obtain⟨w',f,c⟩:=eR.some_of (v:=v) (o:=(atKey xs k).map (·.2)) (by rw[l];exact rel.val k);obtain⟨p,j,n⟩:=ZF.mp f;refine wpAny_getItem_heap (adb hu) (ou I.Pn m) dd j ?_;rw[n];exact h w' _ (I.tok _) c
theorem LF {σ:St}(hu:A.units+1<PK)(I:Inv X aa σ H s)(g:jH H a y o)(ry:aG y u)(h:∀s',Inv X aa σ H s'->Q (.bool o.isSome) s'):
  O7 (Pb X.prog X.w) A (RD .In u (.ref a)) Q E s:=by
 rcases g with⟨kvs,k,e,c,l⟩|⟨kvs,k,b,e,c,d,l⟩
 .subst c;obtain⟨z,hd,vs,rel,dd⟩:=sy I.Pn e;refine wpAny_in_of (lP ry) hd dd.mapOf ?_;rw[<-(rel.val k).ab7,<-l];exact h _ (I.tok _)
 .subst c;cases (show u=Qg b from ry);obtain⟨z,hd,xs,rel,dd⟩:=sA I.Pn e;refine wpAny_in_heap (adb hu) (ou I.Pn d) hd dd ?_;have q:=(rel.val k).ab7;rw[afD] at q;rw[<-q,<-l];exact h _ (I.tok _)
theorem lR {σ:St}{t':Nat}(I:Inv X aa σ H s)(mu:Mut (H a))(hs:Tz a s.heap h')(he:∃q,h'.get? a=some q)(new:bq X.prog X.w (upd H a ob) h' a ob):
  Inv X aa σ (upd H a ob) { s with heap:=h',toks:=t' }:=
 I.write (x:=a) (e:=a) mu (.inl rfl) (λb q c z=>(hs.2 b c).trans z) he new
theorem tX (z:kvs.length<=Pj)(hd:(a==SW)=false)(rel:KV kvs vs)(dd:h'.DictOf (bu P w) a vs):
  bq P w H' h' a (.dK kvs):=⟨z,hd,vs,rel,dd⟩
theorem zO {σ:St}(hu:A.units+1<PK)(I:Inv X aa σ H s)(g:tW H a y v H')(ry:aG y u)(rv:aG v r)(h:∀s',Inv X aa σ H' s'->Q () s'):
  O7 (Pb X.prog X.w) A (setItem (.ref a) u r) Q E s:=by
 rcases g with⟨kvs,k,e,m,l,o⟩|⟨kvs,k,b,e,m,t,l,o⟩
 .subst m o;obtain⟨z,hd,vs,rel,dd⟩:=lQ I.Pn e;have hz:vs.length<=Pj:=by rw[<-rel.length];exact z
  have j:(cV kvs k v).length<=Pj:=by have:=gq kvs k v;lia
  refine wpAny_setItem_pairs (hsz:=hz) (lP ry) dd λh' f n=>h _ ?_;have D:∃q,h'.get? a=some q:=let ⟨q,_,_,d,_⟩:=f;⟨q,d⟩;exact lR I (by rw[e];exact SG) n D (tX j hd (rel.put k rv) f)
 .subst m o;cases (show u=Qg b from ry);obtain⟨z,hd,xs,rel,dd⟩:=Kj I.Pn e;have hz:xs.length<=Pj:=by rw[<-ZX rel];exact z
  have j:(cV kvs k v).length<=Pj:=by have:=gq kvs k v;lia
  refine wpAny_setItem_heap (hsz:=hz) (adb hu) (ou I.Pn t) dd λh' f n=>h _ ?_;obtain⟨q,es,ep,d,C,G,x,_,F⟩:=f;refine lR I (by rw[e];exact SG) n ⟨q,d⟩ ⟨j,hd,_,(rel.put k t rv).keeps λc J p=>?_,q,es,ep,d,C,G,x,F⟩;rw[aq (lG p e (λz=>nomatch z))];exact p
def xR (i:Pr):Prop:=∀ov iv,subscripted i false ov iv=operate [ov,iv] (getItem ov iv)
theorem pO {T id:String}(hl:typeLookup (.type T) "__getitem__"=pure (some (.builtin id)))(hs:xR slice)(h:O7 (Pb prog w) A (eval value env) (λo PH=>O7 (Pb prog w) A (eval slice env) (λi PZ=>PZ.TypeIs o T/\O7 (Pb prog w) A (getItem o i) Q E PZ) E PH) E s):
  O7 (Pb prog w) A (eval (.Subscript value slice pos) env) Q E s:=by
 refine Subscript_ (UQ h (λo PH f=>UQ f (λi PZ b=>?_) λ_ _ x=>x) λ_ _ x=>x);obtain⟨e,b⟩:=b;unfold subscriptTail;refine O4 ?_;rw[getitemInPython_of_ne e.not_modules];refine O4 (WJ e hl ?_);have fin:O7 (Pb prog w) A (subscripted slice false o i) (λr d=>O7 (Pb prog w) A (letTemporaryGo value o r >>= λ_=>pure r) Q E d) E PZ:=by
  rw[hs o i];exact wpAny_operating (UQ b (λr d c=>O4 (wpAny_letTemporaryGo (Pa c))) λ_ _ x=>x)
 first
  | exact Pa (O4 fin)
  | exact O4 (Pa (O4 fin))
  | exact O4 fin
theorem vB {σ:St}(I:Inv X aa σ H s)(g:jH H a y o):s.TypeIs (.ref a) "dict":=by
 rcases g with⟨kvs,k,e,_,_⟩|⟨kvs,k,b,e,_,_,_⟩
 .obtain⟨_,_,vs,_,dd⟩:=sy I.Pn e;exact dd.typeIs
 .obtain⟨_,_,xs,_,dd⟩:=sA I.Pn e;exact dd.typeIs
def Kk (td ty:TE):TE:=λσ H Q=>td σ H λx H1=>ty σ H1 λy H2=>∃a v,x=.ref a/\jH H2 a y (some v)/\Q v H2
def LG (ty td:TE):TE:=λσ H Q=>ty σ H λy H1=>td σ H1 λx H2=>∃a o,x=.ref a/\jH H2 a y o/\Q (.bl o.isSome) H2
def Kl (td ty tv:TE):TS:=λD σ H=>tv σ H λv H1=>td σ H1 λx H2=>ty σ H2 λy H3=>∃a H4,x=.ref a/\tW H3 a y v H4/\D.nx σ H4
theorem Ev (hu:X.A.units+1<PK)(ho:PE X o td)(hi:PE X i ty)(hs:xR i):PE X (.Subscript o i pos) (Kk td ty):=by
 intro aa s b H Q I h;refine pO acP.lookup hs (Pm (ho aa s b H _ I h) λu s1 w=>Qb w λx p e t n=>Pm (hi aa s1 b p _ e n) λD s2 j=>?_);obtain⟨y,f,c,m,a,v,ex,g,l⟩:=j;subst ex;obtain rfl:u=Qg a:=t;exact⟨vB c g,zN hu c g m λE s3 C d=>⟨v,f,C,d,l⟩⟩
theorem zP (hu:X.A.units+1<PK)(hi:PE X i ty)(ho:PE X o td):PC X .In i o (LG ty td):=by
 intro aa s b H Q I h;refine Pm (hi aa s b H _ I h) λC s1 t=>Qb t λy n c l m=>Pm (ho aa s1 b n _ c m) λu s2 e=>?_;obtain⟨x,d,f,p,a,v,ex,g,j⟩:=e;subst ex;obtain rfl:u=Qg a:=p;exact LF hu f g l λs3 w=>⟨.bl v.isSome,d,w,rfl,j⟩
theorem Ew (hu:X.A.units+1<PK)(ho:PE X o td)(hi:PE X i ty)(hv:PE X value tv)(hs:swapsWith value (some (.Subscript o i pos')) pos.line X.env=pure false):
  PS X (.Assign [.Subscript o i pos'] value pos) (Kl td ty tv):=by
 intro aa s b H D I h;refine acX (Pm (hv aa s b H _ I h) λr s1 c=>Qb c λv C d l w=>Pm (ho aa s1 b C _ d w) λu s2 c=>Qb c λx e m E n=>Pm (hi aa s2 b e _ m n) λL s3 j=>?_) hs;obtain⟨y,J,G,t,a,F,ex,g,p⟩:=j;subst ex;obtain rfl:u=Qg a:=E;exact zO hu G g t l λs4 f=>⟨b,F,f,p⟩
theorem tY (h:O8)(hb:SW<h.objs.size):bq P w H (h.push { cls:=.type "dict",data:=.dict #[] }) h.objs.size (.dK []):=
 ⟨QN _,beq_eq_false_iff_ne.mpr (Qi (Qs hb)),[],.nil,O8.DictOf.new h⟩
def Gg:TE:=λ_ H Q=>∀p,H p=none->Q (.ref p) (upd H p (.dK []))
theorem BV:PE X (.Dict [] [] pos) Gg:=λaa s b H Q I h=>
 wpAny_Dict_empty ⟨.ref s.heap.objs.size,_,I.laid (a:=s.heap.objs.size) (o:=.dK []) (t':=s.toks) (λ_ _ q=>Qe _ q) (Po _) (tY s.heap I.big),rfl,h _ (I.Pn.fresh (Po _))⟩
def tZ:List (TE×TE)->St->Hp->(List (V×V)->Hp->Prop)->Prop
 | [],_,H,Q=>Q [] H
 | (tk,tv)::r,σ,H,Q=>tk σ H λx H1=>tv σ H1 λy H2=>tZ r σ H2 λps H3=>Q ((x,y)::ps) H3
abbrev VV:List (V×V)->List (D'×D')->Prop:=Pl λp q=>aG p.1 q.1/\aG p.2 q.2
def PPs (X:Cx)(pos:Qd)(keys:List (Option Pr))(values:List Pr)(V5:List (TE×TE)):Prop:=
 ∀(aa:List (f'×G')) (s:J') (σ:St) (H:Hp) (Q:List (V×V)->Hp->Prop),Inv X aa σ H s->tZ V5 σ H Q->
  O7 (Pb X.prog X.w) X.A (evalPairs (pairTrees keys values X.env pos)) (λvs s'=>∃ps H',Inv X aa σ H' s'/\VV ps vs/\Q ps H') X.xe s
theorem vV:PPs X pos [] [] []:=λaa s b H Q I h=>pairTrees_nil_walk ⟨[],H,I,.nil,h⟩
theorem jI (hk:PE X k tk)(hv:PE X v tv)(hr:PPs X pos ks vs V5):
  PPs X pos (some k::ks) (v::vs) ((tk,tv)::V5):=λaa s c H Q I h=>
 pairTrees_cons_walk (Pm (hk aa s c H _ I h) λu s1 b=>Qb b λx o d p n=>Pm (hv aa s1 c o _ d n) λA s2 b=>Qb b λy e g m j=>
  Pm (hr aa s2 c e _ g j) λw s3 b=>Qb b λps f t rel l=>⟨(x,y)::ps,f,t,.cons ⟨p,m⟩ rel,l⟩)
noncomputable def gw (kvs more:List (Key×V)):List (Key×V):=more.foldl (λacc kv=>cV acc kv.1 kv.2) kvs
theorem KV.merge:∀{more:List (Key×V)}{rs:List (Key×D')}{kvs:List (Key×V)}{vs:List (Key×D')},KV more rs->KV kvs vs->KV (gw kvs more) (merged vs rs):=by
 intro more rs kvs vs r;unfold KV at r
 induction r generalizing kvs vs with
 | nil=>intro q;exact q
 | @cons p q ps d h t b=>
  intro c;have e:KV (cV kvs p.1 p.2) (stored vs q.1 q.2):=by
   have:=c.put p.1 h.2;rw[<-h.1];exact this
  exact b e
theorem j7:∀(more kvs:List (Key×V)),(gw kvs more).length<=kvs.length+more.length
 | [],kvs=>by show kvs.length<=kvs.length+0;lia
 | p::r,kvs=>by
  have c:=j7 r (cV kvs p.1 p.2);have b:=gq kvs p.1 p.2;show(gw (cV kvs p.1 p.2) r).length<=_;rw[Q0];lia
theorem ow:∀{kvs:List (Key×V)}{ws:List (D'×D')},VV (kvs.map λkv=>(kV kv.1,kv.2)) ws->∃rs,Carries (bu P w) ws rs/\KV kvs rs
 | [],_,r=>by rw[aaD] at r;cases r;exact⟨[],SG,.nil⟩
 | p::kvs,_,r=>by
  rw[Qr] at r;cases r with
  | @cons a b as bs h t=>
   obtain⟨rs,c,q⟩:=ow (P:=P) (w:=w) t;obtain⟨e,d⟩:=b;exact⟨(p.1,d)::rs,⟨lP h.1,rfl,c⟩,.cons ⟨rfl,h.2⟩ q⟩
def Km (V5:List (TE×TE)):TE:=λσ H Q=>∀p,H p=none->tZ V5 σ (upd H p (.dK [])) λps H2=>H2 p=some (.dK [])/\∃kvs:List (Key×V),ps=kvs.map (λkv=>(kV kv.1,kv.2))/\kvs.length<=15/\Q (.ref p) (upd H2 p (.dK (gw [] kvs)))
theorem vW (h:PPs X pos keys values V5)(R1:keys.all (·.isSome)=true)(hl:keys.length=values.length)(h0:keys≠[])(h15:keys.length<=15):PE X (.Dict keys values pos) (Km V5):=by
 intro aa s j H Q I q;have v:=I.Pn.fresh (Po s.heap.objs.size);have g:=I.laid (a:=s.heap.objs.size) (o:=.dK []) (h':=s.heap.push { cls:=.type "dict",data:=.dict #[] }) (t':=s.toks) (λ_ _ q=>Qe _ q) (Po _) (tY s.heap I.big);refine wpAny_Dict_walk (knd:=bu X.prog X.w) R1 hl h0 h15 (Pm (h aa _ j _ _ g (q _ v)) λy s2 l=>?_);obtain⟨ps,C,d,rel,e,kvs,ep,A,p⟩:=l;subst ep;obtain⟨rs,c,m⟩:=ow (P:=X.prog) (w:=X.w) rel;obtain⟨z,hd,x,f,dd⟩:=lQ d.Pn e;cases f;refine⟨rs,c,dd,λh' b n=>⟨.ref s.heap.objs.size,_,?_,rfl,p⟩⟩;have hz:(gw [] kvs).length<=Pj:=by
  have u:=j7 kvs [];rw[WE] at u;rw[PY];lia
 have t:∃q,h'.get? s.heap.objs.size=some q:=let ⟨q,_,_,hq,_⟩:=b;⟨q,hq⟩;exact lR d (by rw[e];exact SG) n t (tX hz hd (m.merge .nil) b)
section
variable {κ:Type} [DecidableEq κ]
end
def bJ (h:O8)(ks:List Int)(a:f'):Prop:=∃items:Array D',h.IsTuple a items/\Pl (λv (k:Int)=>∃t,v=R0 k t) items.toList ks
def dc (h:O8)(PM:List (List Int))(a:f'):Prop:=∃items:Array D',h.IsTuple a items/\Pl (λv ks=>∃b,v=Qg b/\bJ h ks b) items.toList PM
theorem pP {h:O8}(x:h.IsTuple a i)(y:h.IsTuple a j):i=j:=by
 obtain⟨o,e,_,n,d⟩:=x;obtain⟨c,b,_,f,d'⟩:=y;rw[e] at b;cases b;rw[d] at d';injection d'
theorem bJ.inj (p:bJ h x a)(q:bJ h y a):x=y:=by
 obtain⟨i,t,r⟩:=p;obtain⟨j,t',d⟩:=q;have:=pP t t';subst this;exact Yl (F:=λv (k:Int)=>∃t,v=R0 k t) (λ_ _ _ ⟨_,c⟩ ⟨_,b⟩=>by rw[c] at b;cases b;rfl) r d
theorem dc.inj (p:dc h x a)(q:dc h y a):x=y:=by
 obtain⟨i,t,r⟩:=p;obtain⟨j,t',g⟩:=q;have:=pP t t';subst this;exact Yl (F:=λv l=>∃b,v=Qg b/\bJ h l b) (λ_ _ _ ⟨_,f,d⟩ ⟨_,c,e⟩=>by rw[f] at c;cases c;exact d.inj e) r g
theorem kA {es ep}(x:h.IsTuple a i)(ho:h.get? d=some o)(hd:o.data=.dict es ep)(hs:Tz d h h'):h'.IsTuple a i:=by
 obtain⟨b,e,c,n,d'⟩:=x;refine⟨b,(hs.2 a ?_).trans e,c,n,d'⟩;rintro rfl;rw[e] at ho;cases ho;rw[d'] at hd;cases hd
theorem bJ.keeps {es ep}(p:bJ h x a)(ho:h.get? d=some o)(hd:o.data=.dict es ep)(hs:Tz d h h'):bJ h' x a:=
 let ⟨i,t,r⟩:=p;⟨i,kA t ho hd hs,r⟩
theorem dc.keeps {es ep}(p:dc h x a)(ho:h.get? d=some o)(hd:o.data=.dict es ep)(hs:Tz d h h'):dc h' x a:=
 let ⟨i,t,r⟩:=p;⟨i,kA t ho hd hs,aJ (λ_ _ ⟨b,e,q⟩=>⟨b,e,q.keeps ho hd hs⟩) r⟩
theorem t7 {A:Pz}{s:J'}{α:Type}[DecidableEq α]{F:D'->α->Prop}{us vs:Array D'}{as bs:List α}(p:Pl F us.toList as)(q:Pl F vs.toList bs)(h:∀u v a b,F u a->F v b->Uy A s u v (decide (a=b))):
  ∀j (h1:j<us.size) (h2:j<vs.size),Uy A s us[j] vs[j] (decide (as[j]?=bs[j]?)):=by
 intro j h1 h2;obtain⟨a,d,c⟩:=bS (i:=j) (a:=us[j]) p (by simp[h1]);obtain⟨b,e,f⟩:=bS (i:=j) (a:=vs[j]) q (by simp[h2]);rw[d,e];have g:decide (some a=some b)=decide (a=b):=by
  by_cases h:a=b
  .subst h;simp
  .simp[h]
 rw[g];exact h _ _ _ _ c f
theorem xS (hu:A.units<PK)(p:bJ s.heap x a)(q:bJ s.heap y b):Uy A s (.ref a) (.ref b) (decide (x=y)):=by
 by_cases e:a=b
 .subst e;have:=p.inj q;subst this;rw[P7 rfl];exact YJ _
 .obtain⟨i,t,r⟩:=p;obtain⟨j,t',c⟩:=q;refine ZN e ?_;have h:=YF (A:=A) (e:=λk=>decide (x[k]?=y[k]?)) t t' hu (t7 r c λu v a b ⟨_,f⟩ ⟨_,d⟩=>by
   subst f d;rw[<-fV];exact aak _ _ _ _)
  rw[jr (by rw[<-Ri,r.length]) (by rw[<-Ri,c.length])] at h;exact h
theorem Gh (hu:A.units+1<PK)(p:dc s.heap x a)(q:dc s.heap y b):Uy A s (.ref a) (.ref b) (decide (x=y)):=by
 by_cases e:a=b
 .subst e;have:=p.inj q;subst this;rw[P7 rfl];exact YJ _
 .obtain⟨i,t,r⟩:=p;obtain⟨j,t',c⟩:=q;refine ZN e ?_;have h:=YF (A:=A) (e:=λk=>decide (x[k]?=y[k]?)) t t' (by lia) (t7 r c λu v a b ⟨_,l,d⟩ ⟨_,f,g⟩=>by
   subst l f;exact xS (A:=A.in1) hu d g)
  rw[jr (by rw[<-Ri,r.length]) (by rw[<-Ri,c.length])] at h;exact h
theorem ab6:∀{vs:List D'}{ks:List Int},Pl (λv (k:Int)=>∃t,v=R0 k t) vs ks->ItemsAre (intKind prog w) ks vs
 | _,_,.nil=>.nil
 | _,_,.cons ⟨t,e⟩ r=>by
  subst e;exact .cons (by simp[intKind,adY]) (ab6 r)
theorem bJ.key (p:bJ h ks a):IsTupleKey (intKind prog w) h ks a:=by
 obtain⟨i,⟨o,e,c,n,d⟩,r⟩:=p;exact⟨o,i,n,e,c,d,ab6 r⟩
noncomputable def cM (ks:List Int):Int:=reduceHash (T2 (ks.map hashInt))
noncomputable def jt (PM:List (List Int)):Int:=reduceHash (T2 (PM.map cM))
noncomputable def mT (PM:List (List Int)):Nat:=(PM.map λks=>ks.length+1).sum+1
theorem eK {s:J'}(x:s.heap.IsTuple a i):s.TypeIs (.ref a) "tuple":=let ⟨o,e,c,_⟩:=x;⟨o,e,c⟩
theorem kB (hu:A.units<PK)(hk:bJ s.heap ks a)(h:Q (cM ks) { s with toks:=s.toks+(ks.length+1) }):O7 (Pb prog w) A (pyHash (.ref a)) Q E s:=
 wpAny_pyHash_tuple (knd:=intKind prog w) hu hk.key h
theorem xT (hu:A.units+1<PK)(hk:dc s.heap PM a)(h:Q (jt PM) { s with toks:=s.toks+mT PM }):O7 (Pb prog w) A (pyHash (.ref a)) Q E s:=by
 obtain⟨items,p,t⟩:=hk;have g:=eK p;obtain⟨o,u,y,n,hd⟩:=p;unfold pyHash
 first|unfold pyHashByItsType|skip
 first|refine O4 (wpAny_cRoomFor_or (.inr (by lia)) ?_)|skip
 refine O4 (WJ g Wx.lookup ?_);show O7 _ _ (if (some (YS "tuple.__hash__")==some Ua)=true then _ else _) Q E s;rw[O9 (by rw[beq_builtin_none];exact Rt)];refine O4 (WJ g Wx.lookup ?_);show O7 _ _ (callSpecialIfBoundUnlessNone? (.ref a) "__hash__" _ >>= _) Q E s;refine O4 (aeH g Wx (Tc Wx g F.entry_tuple_hash ?_ (F.args_tuple_hash_1 _)));show O7 _ _ (aa7 (.ref a) >>= _) _ _ s;refine O4 (wpAny_tupleItemsOf u hd ?_);refine O4 ?_;rw[<-aal];refine Uv _
  (λrest (b:Array Int) l=>∃done left,PM=done++left/\Pl (λv d=>∃b,v=Qg b/\bJ s.heap d b) rest left/\b.toList=done.map cM/\l={ s with toks:=s.toks+(done.map λd=>d.length+1).sum })
  _ ?_ ?_ _ _ ⟨[],PM,rfl,t,rfl,rfl⟩
 .rintro x rest b l ⟨done,left,rfl,j,f,rfl⟩;cases j with
  | @cons _ d _ aef m hl'=>
   obtain⟨c,rfl,m⟩:=m;refine O4 (kB (A:=A.in1) hu m ?_)
   first
    | exact Pa ⟨done++[d],aef,by simp,hl',by simp[f],by simp[aaB]⟩
    | exact O4 (Pa (Pa ⟨done++[d],aef,by simp,hl',by simp[f],by simp[aaB]⟩))
 .rintro b l ⟨done,left,rfl,j,f,rfl⟩;cases j;rw[SV] at h;show O7 _ _ (retInt (T2 b.toList)) _ _ _;rw[f];refine wpAny_ret_mkInt ?_;show O7 _ _ (if (decide (-(2:Int) ^ 63<=T2 (done.map cM))&&decide (T2 (done.map cM)<2 ^ 63))=true then _ else _) Q E _;unfold jt reduceHash mT at h
  by_cases e:(decide (-(2:Int) ^ 63<=T2 (done.map cM))&&decide (T2 (done.map cM)<2 ^ 63))=true
  .rw[Pf e];rw[Pf e] at h;exact Pa (by simpa [aaB] using h)
  .rw[O9 e];rw[O9 e] at h;exact O4 (Ss (Pa (by simpa [aaB] using h)))
theorem mU (n:Nat)(tp:s.heap.IsTuple a items)(hv:∀v∈items.toList,∀(Q:Bool->J'->Prop),Q true s->O7 (Pb prog w) A (eqIsQuiet n v) Q E s)(h:Q true s):
  O7 (Pb prog w) A (eqIsQuiet (n+1) (.ref a)) Q E s:=by
 have f:=eK tp;obtain⟨o,g,j,p,hd⟩:=tp;unfold eqIsQuiet;refine O4 (WJ f F.slot_tuple_eq.lookup ?_);show O7 _ _ (isInstance (.ref a) (.type "tuple") >>= _) _ _ s;refine O4 (adp f isSubtype_tuple_tuple ?_);simp only[T',QY,if_false];refine O4 (aay g hd ?_);refine O4 ?_;show O7 _ _ (forIn items _ _) _ _ s;rw[<-aal];refine Uv _ (λrest r b=>r.1=none/\b=s/\∀v∈rest,v∈items.toList) _ ?_ ?_ _ _ ⟨rfl,rfl,λv hv=>hv⟩
 .rintro v rest r b ⟨d,rfl,e⟩;refine O4 (hv v (e v Px) _ ?_);simp only[T',QY,if_false];exact Pa ⟨rfl,rfl,λu c=>e u (PU _ c)⟩
 .rintro⟨m,l⟩ b ⟨d,rfl,_⟩;simp only at d;subst d;exact Pa h
theorem fg {α β:Type}{F:α->β->Prop}:∀{RF:List α}{RG:List β},Pl F RF RG->∀a∈RF,∃b∈RG,F a b
 | _,_,.nil,a,h=>by cases h
 | _,_,.cons r t,a,h=>by
  rcases PN.mp h with rfl|h
  .exact⟨_,Px,r⟩
  .obtain⟨b,m,q⟩:=fg t a h;exact⟨b,PU _ m,q⟩
theorem mV (n:Nat)(hk:bJ s.heap ks a)(h:Q true s):O7 (Pb prog w) A (eqIsQuiet (n+1) (.ref a)) Q E s:=by
 obtain⟨i,t,r⟩:=hk;refine mU n t (λv b c q=>?_) h;obtain⟨k,_,t',e⟩:=fg r v b;subst e;rw[adj n rfl];exact Pa q
theorem zQ (n:Nat)(hk:dc s.heap PM a)(h:Q true s):O7 (Pb prog w) A (eqIsQuiet (n+2) (.ref a)) Q E s:=by
 obtain⟨i,t,r⟩:=hk;refine mU (n+1) t (λv c f q=>?_) h;obtain⟨d,_,b,e,g⟩:=fg r v c;subst e;exact mV n g q
noncomputable def im (prog)(w):HeapKind prog w (List (List Int)) where
 is:=dc
 hash:=jt
 draws:=mT
 room:=λA=>A.units+1<PK
 inj:=λp q=>p.inj q
 keeps:=λp ho hd hs=>p.keeps ho hd hs
 pyHash:=λhu hk h=>xT hu hk h
 eqBool:=λhu hx hy h=>Gh hu hx hy _ _ _ _ h
 quiet:=λhk h=>zQ 6 hk h
theorem oy {α β γ:Type}{F:α->β->Prop}{G:α->γ->Prop}{R:β->γ->Prop}(h:∀a b c,F a b->G a c->R b c):∀{l:List α}{m:List β}{n:List γ},Pl F l m->Pl G l n->Pl R m n
 | _,_,_,.nil,.nil=>.nil
 | _,_,_,.cons r t,.cons d t'=>.cons (h _ _ _ r d) (oy h t t')
noncomputable abbrev aA:Dk (List Int):=Gd xQ
noncomputable abbrev de:Dk (List (List Int)):=Gd aA
theorem lS {σ:St}(I:Inv X aa σ H s)(h:aA.rep X.K H (.ref a) ks):bJ s.heap ks a:=by
 obtain⟨p,xs,e,q,r⟩:=h;cases e;obtain⟨its,v,t,_⟩:=I.tuple q;refine⟨its.toArray,t,?_⟩;exact oy (F:=aG) (G:=xQ.rep X.K H) (λx u k c b=>by
  have b:x=V.int k:=b;subst b;exact c) v r
theorem kC {σ:St}(I:Inv X aa σ H s)(h:de.rep X.K H (.ref a) PM):dc s.heap PM a:=by
 obtain⟨p,xs,e,q,r⟩:=h;cases e;obtain⟨its,v,t,_⟩:=I.tuple q;refine⟨its.toArray,t,?_⟩;exact oy (F:=aG) (G:=aA.rep X.K H) (λx u k c b=>by
  obtain⟨p,xs,e,q,r⟩:=id b;subst e;cases c;exact⟨p,rfl,lS I b⟩) v r
abbrev Tn:=List (List (List Int)×f'×Int)
def PL (L:Tn)(xs:List (List (List Int)×f'×D')):Prop:=Pl (λ(p:List (List Int)×f'×Int) (q:List (List Int)×f'×D')=>p.1=q.1/\p.2.1=q.2.1/\∃t,q.2.2=R0 p.2.2 t) L xs
noncomputable def fh (d:f')(L:Tn):HO:=.ext λh=>(d==SW)=false/\∃xs,PL L xs/\∃o es ep,h.get? d=some o/\o.ExactDict/\o.data=.dict es ep/\es.toList=xs.map (λx=>(⟨jt x.1,.ref x.2.1,x.2.2⟩:Rc))/\(xs.map (·.1)).Nodup
theorem vX (x:(d==SW)=false/\∃xs,PL L xs/\∃o es ep,h.get? d=some o/\o.ExactDict/\o.data=.dict es ep/\es.toList=xs.map (λx=>(⟨jt x.1,.ref x.2.1,x.2.2⟩:Rc))/\(xs.map (·.1)).Nodup):
  bq P w H h d (fh d L):=by
 refine⟨x,?_,λc b ⟨y,xs,p,o,es,ep,e,r⟩ k=>⟨y,xs,p,o,es,ep,k _ e,r⟩⟩;obtain⟨_,_,_,o,_,_,e,_⟩:=x;exact⟨o,e⟩
noncomputable def eU (L:Tn)(k:List (List Int)):Option Int:=(L.find? λe=>decide (e.1=k)).map (·.2.2)
theorem sB:∀{L:Tn}{xs:List (List (List Int)×f'×D')},PL L xs->(eU L k=none/\atKey xs k=none)\/∃n a t,eU L k=some n/\atKey xs k=some (a,.int n t)
 | _,_,.nil=>.inl ⟨rfl,rfl⟩
 | e::L,x::xs,.cons r t=>by
  obtain⟨k1,b,c⟩:=e;obtain⟨k2,o,p⟩:=x;obtain⟨g,f,d,h⟩:=r;dsimp only at g f h;subst g f h
  by_cases z:k1=k
  .subst z;exact .inr ⟨c,b,d,by simp[eU],by simp[atKey]⟩
  .have l:=sB (k:=k) t;have m:eU ((k1,b,c)::L) k=eU L k:=by simp[eU,z]
   have j:atKey ((k1,b,R0 c d)::xs) k=atKey xs k:=by simp[atKey,z]
   rw[m,j];exact l
def jJ (K:O6)(H:Hp)(L:Tn):Prop:=∀e∈L,de.rep K H (.ref e.2.1) e.1
theorem ua {σ:St}(I:Inv X aa σ H s)(e:H d=some (fh d L))(hk:jJ X.K H L):(d==SW)=false/\∃xs,PL L xs/\s.heap.DictOfH (im X.prog X.w) d xs:=by
 obtain⟨⟨y,xs,p,o,es,ep,m,c,g,j,l⟩,_⟩:=(show bq X.prog X.w H s.heap d (fh d L) from I.Pn d _ e)
 refine⟨y,xs,p,o,es,ep,m,c,g,j,λx b=>?_,l⟩;have all:∀{L:Tn}{xs:List (List (List Int)×f'×D')},jJ X.K H L->PL L xs->∀x∈xs,dc s.heap x.1 x.2.1:=by
  intro L xs hk p
  induction p with
  | nil=>intro x b;cases b
  | @cons e x L xs r t ih=>
   intro z hz;rcases PN.mp hz with rfl|hz
   .have:=kC I (hk e Px);rw[r.1,r.2.1] at this;exact this
   .exact ih (λf h=>hk f (PU _ h)) z hz
 exact all hk p x b
def Ex (K:O6):R2:=λx y H Q=>∃d L b k,y=.ref d/\x=.ref b/\H d=some (fh d L)/\jJ K H L/\de.rep K H (.ref b) k/\Q (.bl (!(eU L k).isSome)) H
theorem zR (hu:X.A.units+2<PK):Qy X (RD .NotIn) (Ex X.K):=by
 intro aa s o H x y v u Q I j g h;obtain⟨d,L,b,k,rfl,rfl,e,m,l,q⟩:=h;cases j;cases g;obtain⟨hd,xs,p,dd⟩:=ua I e m;refine wpAny_notIn_heap (knd:=im X.prog X.w) (by show X.A.units+1+1<PK;lia) (kC I l) hd dd ⟨.bl (!(eU L k).isSome),H,I.tok _,?_,q⟩;show _=UP _;rcases sB (k:=k) p with⟨f,c⟩|⟨n,a,t,f,c⟩
 .rw[f,c];rfl
 .rw[f,c];rfl
def Kn (K:O6)(td ty:TE):TE:=λσ H Q=>td σ H λx H1=>ty σ H1 λy H2=>∃d L b k n,x=.ref d/\y=.ref b/\H2 d=some (fh d L)/\jJ K H2 L/\de.rep K H2 (.ref b) k/\eU L k=some n/\Q (.int n) H2
theorem Ey (hu:X.A.units+2<PK)(ho:PE X o td)(hi:PE X i ty)(hs:xR i):PE X (.Subscript o i pos) (Kn X.K td ty):=by
 intro aa s j H Q I h;refine pO acP.lookup hs (Pm (ho aa s j H _ I h) λu s1 N=>Qb N λx J m M G=>Pm (hi aa s1 j J _ m G) λR s2 C=>?_);obtain⟨y,v,f,F,d,L,b,k,n,ex,D,e,P,O,c,E⟩:=C;subst ex D;cases M;cases F;obtain⟨hd,xs,p,dd⟩:=ua f e P;refine⟨dd.typeIs,?_⟩;rcases sB (k:=k) p with⟨g,l⟩|⟨S,a,t,g,l⟩
 .rw[g] at c;cases c
 .rw[g] at c;cases c;exact wpAny_getItem_heap (knd:=im X.prog X.w) (by show X.A.units+1+1<PK;lia) (kC f O) dd l ⟨.int n,v,f.tok _,⟨t,rfl⟩,E⟩
def Ko (K:O6)(td ty tv:TE):TS:=λD σ H=>tv σ H λv H1=>td σ H1 λx H2=>ty σ H2 λy H3=>∃d L b k n,v=.int n/\x=.ref d/\y=.ref b/\H3 d=some (fh d L)/\jJ K H3 L/\de.rep K H3 (.ref b) k/\eU L k=none/\L.length<Pj/\
 D.nx σ (upd H3 d (fh d (L++[(k,b,n)])))
theorem Ez (hu:X.A.units+2<PK)(ho:PE X o td)(hi:PE X i ty)(hv:PE X value tv)(hs:swapsWith value (some (.Subscript o i pos')) pos.line X.env=pure false):
  PS X (.Assign [.Subscript o i pos'] value pos) (Ko X.K td ty tv):=by
 intro aa s c H D I h;refine acX (Pm (hv aa s c H _ I h) λr s1 j=>Qb j λv H1 N R Z=>Pm (ho aa s1 c H1 _ N Z) λu s2 j=>Qb j λx O T rx U=>Pm (hi aa s2 c O _ T U) λiv s3 Q=>?_) hs;obtain⟨y,H3,m,Y,d,L,b,k,n,ev,ex,S,e,hk,l,E,hl,W⟩:=Q;subst ev ex S;obtain⟨t,rfl⟩:=R;cases rx;cases Y;obtain⟨hd,xs,p,dd⟩:=ua m e hk;have f:atKey xs k=none:=by
  rcases sB (k:=k) p with⟨F,f⟩|⟨n',a,t',F,f⟩
  .exact f
  .rw[F] at E;cases E
 refine wpAny_setItem_heap (knd:=im X.prog X.w) (hsz:=by rw[<-ZX p];lia) (by show X.A.units+1+1<PK;lia) (kC m l) dd λh' C g=>⟨c,_,?_,W⟩
 rw[storedH_new f] at C;obtain⟨M,es,ep,G,J,P,e4,_,e5⟩:=C;refine m.write (x:=d) (e:=d) (by rw[e];exact SG) (.inl rfl) (λb q l z=>(g.2 b l).trans z) ⟨_,G⟩ (vX ⟨hd,_,ck p (.cons ⟨rfl,rfl,t,rfl⟩ .nil),M,es,ep,G,J,P,e4,e5⟩)
theorem BW:PE X (.Dict [] [] pos) (λ_ H Q=>∀p,H p=none->Q (.ref p) (upd H p (fh p []))):=λaa s b H Q I h=>
 wpAny_Dict_empty ⟨.ref s.heap.objs.size,_,I.laid (a:=s.heap.objs.size) (o:=fh s.heap.objs.size []) (t':=s.toks) (λ_ _ q=>Qe _ q) (Po _)
  (vX ⟨beq_eq_false_iff_ne.mpr (Qi (Qs I.big)),[],.nil,_,#[],0,QX _ rfl,⟨rfl,rfl,rfl⟩,rfl,rfl,YO⟩),rfl,h _ (I.Pn.fresh (Po _))⟩
theorem Inv.freeze {σ:St}(I:Inv X aa σ H s)(e:H a=some (.dK kvs)):∃ob,(∃es ep,ob.data=.dict es ep)/\Inv X aa σ (upd H a (.Q8 ob (.dK kvs))) s:=by
 obtain⟨z,hd,vs,rel,dd⟩:=lQ I.Pn e;obtain⟨o,es,ep,d,f,c,r⟩:=id dd;refine⟨o,⟨es,ep,c⟩,?_⟩;have:=I.write (x:=a) (e:=a) (h':=s.heap) (t':=s.toks) (o:=.Q8 o (.dK kvs)) (by rw[e];exact SG) (.inl rfl) (λb u _ q=>q) ⟨o,d⟩ ⟨d,z,hd,vs,rel,dd⟩;exact this
theorem ub {σ:St}(I:Inv X aa σ H s)(e:H a=some (.Q8 ob (.dK kvs)))(Xj:ob.data=.dict es ep):(a==SW)=false/\∃vs,KV kvs vs/\s.heap.DictAt (bu X.prog X.w) a vs ep:=by
 obtain⟨d,z,hd,vs,rel,h,j,f,c,g,b,r⟩:=(show bq X.prog X.w H s.heap a (.Q8 ob (.dK kvs)) from I.Pn a _ e)
 rw[d] at c;cases c;rw[Xj] at b;cases b;exact⟨hd,vs,rel,ob,es,d,g,Xj,r⟩
noncomputable def Itd (a:f')(ob:G')(kvs:List (Key×V)):It:=
 ⟨λi H=>H a=some (.Q8 ob (.dK kvs))/\i<kvs.length,λi H x H'=>H'=H/\∃kv,kvs[i]?=some kv/\x=kV kv.1,λi H=>H a=some (.Q8 ob (.dK kvs))/\kvs.length<=i⟩
theorem vY (h:(bu P w).is k u=true):aG (kV k) u:=by
 rw[xm] at h;rcases bX h with⟨i,t,rfl,rfl⟩|⟨x,t,rfl,rfl⟩
 .exact⟨t,rfl⟩
 .exact⟨t,rfl⟩
theorem zS {K:O6}(a it:f')(ob:G')(kvs:List (Key×V))(Xj:ob.data=.dict es ep):
  Turn P w K tg (Itd a ob kvs) [it] it (λi h=>h.IsKeyIter it a i kvs.length ep) where
 mem:=by simp
 obj:=λi h st b f=>by
  have e:b=it:=by simpa using f
  subst e;obtain⟨o,e,c,d⟩:=st;exact⟨o,e,λv z=>by rw[d] at z;cases z⟩
 keep:=λi h h' st k=>st.at λo e=>k it (by simp) o e
 item:=by
  intro X x u n J i aa s G H E I g st y;subst x u n;obtain⟨e,D⟩:=y;obtain⟨hd,vs,rel,dd⟩:=ub I e Xj;obtain⟨l,t,R,m,A,j⟩:=g it (by simp);have L:kvs[i]?=some kvs[i]:=Qu D;obtain⟨⟨k,v⟩,O,T,_⟩:=bS (F:=λ(p:Key×V) (q:Key×D')=>p.1=q.1/\aG p.2 q.2) rel L;rw[rel.length] at st;refine wpAny_pyNext_dict_item (knd:=bu X.prog X.w) st dd O λkey h' Q C sb=>?_;have N:Inv X aa G H { s with heap:=h' }:=I.turned (t':=s.toks) (λb o f e=>(sb.2 b f).trans e) l t m A j;obtain⟨o,M,c,d⟩:=id C;rw[<-rel.length] at C;exact⟨key,rfl,nQ (s:={ s with heap:=h' }) M c d (by decide) ⟨kV k,H,N,vY Q,⟨rfl,kvs[i],L,by rw[T]⟩,C,λb f=>(g b f).1⟩⟩
 done:=by
  intro X x u n J i aa s G H E I g st y;subst x u n;obtain⟨e,D⟩:=y;obtain⟨hd,vs,rel,dd⟩:=ub I e Xj;obtain⟨l,t,R,m,A,j⟩:=g it (by simp);have U:=rel.length;rw[rel.length] at st;exact wpAny_pyNext_dict_end (knd:=bu X.prog X.w) (I.ok.hd J) st dd (abj (by lia)) λh' S=>⟨rfl,I.turned (t':=s.toks) (λb o f e=>S b o f e) l t m A j⟩
 self:=λ_ _ _ _ _ st h=>wpAny_pyIter_keyiter st h
def Kp (tl:TE):TI:=λσ H R=>tl σ H λx H1=>∃a kvs,x=.ref a/\H1 a=some (.dK kvs)/\∀ob,R (Itd a ob kvs) (upd H1 a (.Q8 ob (.dK kvs)))
theorem EA (hl:PE X l tl):PI X tg l (Kp tl):=by
 intro aa s j H R I h;refine Pm (hl aa s j H _ I h) λv s1 m=>?_;obtain⟨x,t,g,n,a,kvs,ex,f,q⟩:=m;subst ex;cases n;obtain⟨ob,⟨es,ep,d⟩,c⟩:=g.freeze f;obtain⟨hd,vs,rel,dd⟩:=ub c ag d;refine wpAny_pyIter_dict (knd:=bu X.prog X.w) hd dd ?_;refine⟨s1.heap.objs.size,[s1.heap.objs.size],_,_,_,rfl,c.kept (t':=s1.toks) λb o e=>Qe _ e,zS a _ ob kvs d,⟨_,QX _ rfl,rfl,by rw[rel.length];rfl⟩,λb p=>?_,q ob⟩;have e:b=s1.heap.objs.size:=by simpa using p
 subst e;exact c.XX (Po _) (c.Pn.fresh (Po _))
theorem zT (Pv:Nat->List V->Hp->Prop)(h0:Pv 0 [] H)(hl:∀i ys H,i<=kvs.length->Pv i ys H->H a=some (.Q8 ob (.dK kvs))/\ys.length<=i)(hz:kvs.length<=Pj)(hs:∀i kv ys H,kvs[i]?=some kv->Pv i ys H->tt (some (kV kv.1)::σ) H λb H4=>if b=true then te (some (kV kv.1)::σ) H4 λy H5=>Pv (i+1) (ys++[y]) H5 else Pv (i+1) ys H4)(hd:∀ys H p,Pv kvs.length ys H->H p=none->Q (.ref p) (upd H p (.lst ys))):nZ (Itd a ob kvs) σ tt te Q H:=by
 refine⟨λi m ys H=>m=kvs.length-i/\i<=kvs.length/\Pv i ys H,⟨kvs.length,by simp,QN _,h0⟩,?_⟩;rintro i m ys c ⟨rfl,f,p⟩;obtain⟨q,o⟩:=hl i ys c f p
 by_cases d:i<kvs.length
 .refine .inr ⟨⟨q,d⟩,by lia,Pv (i+1),λn l g=>⟨kvs.length-(i+1),by lia,rfl,d,g⟩,λx j y=>?_⟩;obtain⟨e,kv,y,ex⟩:=y;subst e ex;exact hs i kv ys _ y p
 .have e:i=kvs.length:=by lia
  subst e;exact .inl ⟨⟨q,Po _⟩,by lia,λb h=>hd ys c b p h⟩
theorem pQ (hc:X.calm=true):cR X (.type "list") (λxs H Q=>∃p kvs,xs=[.ref p]/\H p=some (.dK kvs)/\∀l,H l=none->Q (.ref l) (upd H l (.lst (kvs.map λkv=>kV kv.1)))):=by
 intro aa s G H xs us Q I r h;obtain⟨p,kvs,rfl,A,q⟩:=h;obtain⟨u,rfl,D⟩:=dH r;cases D;obtain⟨z,hd,vs,rel,dd⟩:=lQ I.Pn A;obtain⟨ep,n⟩:=dd.dictAt;refine W.kdl_call (W.kdl_dict (knd:=bu X.prog X.w) hd) (I.ok.hd hc) n (by rw[<-rel.length];exact z) λh' J c j E C b=>?_;refine⟨.ref s.heap.objs.size,_,I.laid (o:=.lst (kvs.map λkv=>kV kv.1)) E (Po _) ⟨by rw[PP];exact z,c.toList,j,?_,by simpa using C⟩,rfl,q _ (I.Pn.fresh (Po _))⟩;refine i7 (by have M:=b.1;have L:=rel.length;simp;lia) λi x u d e=>?_;have t:c[i]?=some u:=by simpa using e
 obtain⟨k,v,m,f⟩:=b.2 i u t;obtain⟨kv,g,y,_⟩:=fc (F:=λ(p:Key×V) (q:Key×D')=>p.1=q.1/\aG p.2 q.2) rel m;rw[Q6,g] at d;cases d;show aG (kV kv.1) u;rw[show kv.1=k from y];exact vY f
def Kq:V->List V->Hp->VK->Prop:=λo vs H Q=>∃p kvs k v,o=.ref p/\vs=[kV k,v]/\H p=some (.dK kvs)/\kvs.length<Pj/\(∀y,cx kvs k=some y->Q y H)/\(cx kvs k=none->Q v (upd H p (.dK (cV kvs k v))))
theorem sf:MtR X "dict.setdefault" Kq:=by
 intro aa s J H o vs v us Q I l m h;obtain⟨p,kvs,k,y,rfl,rfl,d,E,x,t⟩:=h;cases l;obtain⟨G,g,rfl,C,f⟩:=m.two;obtain⟨z,hd,j,rel,dd⟩:=lQ I.Pn d;refine call_meetsIn aeM dd.typeIs PySem.F.entry_dict_setdefault (PySem.F.args_dict_setdefault_3 _ _ _) (kt_meets_setdefault (bu X.prog X.w) p (lP C) hd g) ⟨j,dd,by rw[<-rel.length];exact z,λL A=>?_,λD h' c n=>?_⟩
 .have b:=rel.val k;rw[A] at b;cases e:cx kvs k with
  | none=>rw[e] at b;exact b.elim
  | some y'=>
   rw[e] at b;exact⟨y',H,I.tok _,b,x y' e⟩
 .have b:=rel.val k;rw[D] at b;have e:cx kvs k=none:=by
   cases e:cx kvs k with
   | none=>rfl
   | some y'=>rw[e] at b;exact b.elim
  have u:∃q,h'.get? p=some q:=let ⟨q,_,_,hq,_⟩:=c;⟨q,hq⟩;exact⟨y,_,lR I (by rw[d];exact SG) n u (tX (by have:=gq kvs k y;lia) hd (rel.put k f) c),f,t e⟩
theorem vZ:RQ κ xs 1:=λi j c b=>by
 obtain rfl:i=0:=by lia
 obtain rfl:j=0:=by lia
 exact ZV _
theorem EB (h:RQ κ xs x)(hx:1<=x)(hl:κ.kle (KK κ xs (x-1)) (KK κ xs x)):RQ κ xs (x+1):=λi j b c=>by
 rcases RZ j x with z|z
 .exact h i j b z
 obtain rfl:j=x:=by lia
 rcases RZ i j with y|y
 .exact abx (h i (j-1) (by lia) (by lia)) hl
 obtain rfl:i=j:=by lia
 exact ZV _
theorem lT (h:UR κ xs x)(hx:1<=x)(hl:κ.kle (KK κ xs x) (KK κ xs (x-1))):UR κ xs (x+1):=λi j b c=>by
 rcases RZ j x with z|z
 .exact h i j b z
 obtain rfl:j=x:=by lia
 rcases RZ i j with y|y
 .exact abx hl (h i (j-1) (by lia) (by lia))
 obtain rfl:i=j:=by lia
 exact ZV _
theorem uc (e:∀k,KK κ ys k=KK κ xs k)(h:UR κ xs n):UR κ ys n:=λi j c b=>by
 have:=h i j c b;rw[<-e,<-e] at this;exact this
theorem EC:UR κ xs 1:=λi j c b=>vZ j i (by lia) (by lia)
theorem BX (h:UR κ xs n)(hn:n<=xs.size):RQ κ (mirror xs 0 n ((n-0) / 2)) n:=λi j c b=>by
 rw[KK_mirror hn,KK_mirror hn,Pf ⟨by lia,by lia⟩,Pf ⟨by lia,by lia⟩];exact h _ _ (by lia) (by lia)
structure Rx (kd)(P0)(st):Prop where
 perm:(PQ st).Perm P0
 kind:kindOf st=kd
 failed:failedOf st=none
 pend:pendingOf st=#[]
theorem Rx.sz {st:Sb}(h:Rx kd P0 st):(PQ st).size=P0.size:=h.perm.size_eq
theorem Rx.arr {st:Sb}(h:Rx kd P0 st)(p:xs.Perm (PQ st)):Rx kd P0 (setArr st xs):=⟨p.trans h.perm,h.kind,h.failed,h.pend⟩
def Xl (prog:Pk)(w:Pd)(A:Pz)(E:D'->J'->Prop)(s:J')(κ:abk)(kd:Z')(P0:Array US):Prop:=
 ∀(st:Sb) (i j:Nat) (Q:Option Bool->Sb->Prop),Rx kd P0 st->i<P0.size->j<P0.size->Q (some (κ.blt (KK κ (PQ st) i) (KK κ (PQ st) j))) st->wpS (Pb prog w) A E s (ltAt' i j) Q st
theorem Dq (C:Xl prog w A E s κ kd P0){st:Sb}(hm:m<=P0.size)(ha:1<=a)(ham:a<=m)(B:Rx kd P0 st)(hs:RQ κ (PQ st) a)(h:∀n,a<=n->n<=m->RQ κ (PQ st) n->(n=m\/κ.klt (KK κ (PQ st) n) (KK κ (PQ st) (n-1)))->Q (none,n) st):wpS (Pb prog w) A E s (ascLoop a m) Q st:=by
 refine Z3 (λx c b=>b=st/\c=(none,x)/\RQ κ (PQ st) x) (λx c b g j ⟨f,d,r⟩=>?_) (λc b ⟨f,d,r⟩=>?_) ⟨rfl,rfl,hs⟩
 .subst f d;refine Q1 (C _ _ _ _ B (by lia) (by lia) ?_);cases e:κ.blt (KK κ (PQ b) x) (KK κ (PQ b) (x-1)) with
  | true=>exact RX (h x g (by lia) r (.inr e))
  | false=>exact RX ⟨rfl,rfl,EB r (by lia) e⟩
 .subst f d;have z:max a m=m:=by lia
  rw[z] at r ⊢;exact h m ham (Po _) r (.inl rfl)
theorem zU (C:Xl prog w A E s κ kd P0){st:Sb}(hm:m<=P0.size)(h1:1<=n)(hn:n<=m)(B:Rx kd P0 st)(hs:UR κ (PQ st) n)(h:∀k Pq,Rx kd P0 Pq->1<=k->k<=m->RQ κ (PQ Pq) k->Q (some k) Pq):wpS (Pb prog w) A E s (tail3 n m) Q st:=by
 have b:=B.arr (abY (PQ st) 0 n ((n-0) / 2));exact Q1 (abZ (Q1 (Dq C hm h1 hn b (BX hs (by rw[B.sz];lia)) λk k1 k2 r _=>RX (h k _ b (by lia) k2 r))))
theorem Gi (C:Xl prog w A E s κ kd P0){st:Sb}(hm:m<=P0.size)(h1:1<=n)(hn:n<=m)(B:Rx kd P0 st)(hs:UR κ (PQ st) n)(h:∀k q Pq,Rx kd P0 Pq->n<=k->k<=m->UR κ (PQ Pq) k->q+1<=k->(∀i,k-(q+1)<=i->i<k->KK κ (PQ Pq) i=KK κ (PQ Pq) (k-1))->Q (none,k,q) Pq):
  wpS (Pb prog w) A E s (descLoop n m) Q st:=by
 have last:∀(g:Array US) (k:Nat),∀i,k+1-(0+1)<=i->i<k+1->KK κ g i=KK κ g (k+1-1):=λg k i a b=>by
  obtain rfl:i=k:=by lia
  rfl
 refine Z3 (λx c Pq=>∃q,c=(none,x,q)/\Rx kd P0 Pq/\UR κ (PQ Pq) x/\q+1<=x/\∀i,x-(q+1)<=i->i<x->KK κ (PQ Pq) i=KK κ (PQ Pq) (x-1))
  (λx c Pq l p ⟨q,e,d,r,f,eq⟩=>?_) (λc Pq ⟨q,e,d,r,f,eq⟩=>?_) ⟨0,rfl,B,hs,by lia,λi a b=>by obtain rfl:i=n-1:=(by lia);rfl⟩
 .subst e;have sz:x<=(PQ Pq).size:=by rw[d.sz];lia
  refine Q1 (C _ x (x-1) _ d (by lia) (by lia) ?_);cases e:κ.blt (KK κ (PQ Pq) x) (KK κ (PQ Pq) (x-1)) with
  | true=>
   have j:=lT r (by lia) (abt e);show wpS _ _ _ _ (if q > 0 then _ else _) _ _;rcases adc q with z|z
   .rw[O9 (by lia)];exact RX ⟨0,rfl,d,j,by lia,last _ _⟩
   .rw[Pf z];exact Q1 (abZ (RX ⟨0,rfl,d.arr (abY _ _ _ _),uc (adw sz eq) j,by lia,last _ _⟩))
  | false=>
   refine Q1 (C _ (x-1) x _ d (by lia) (by lia) ?_);cases e2:κ.blt (KK κ (PQ Pq) (x-1)) (KK κ (PQ Pq) x) with
   | true=>exact RX (h x q Pq d l (by lia) r f eq)
   | false=>
    have one:KK κ (PQ Pq) x=KK κ (PQ Pq) (x-1):=afq e2 e;refine RX ⟨q+1,rfl,d,lT r (by lia) e2,by lia,λi t o=>?_⟩;rw[show x+1-1=x from rfl];rcases RZ i x with z|z
    .rw[one];exact eq i (by lia) z
    .obtain rfl:i=x:=by lia
     rfl
 .subst e;have z:max n m=m:=by lia
  rw[z] at r f eq ⊢;exact h m q Pq d hn (Po _) r f eq
theorem zV (C:Xl prog w A E s κ kd P0){st:Sb}(hm:m<=P0.size)(hn:n+1<=m)(B:Rx kd P0 st)(hs:UR κ (PQ st) (n+1))(h:∀k Pq,Rx kd P0 Pq->1<=k->k<=m->RQ κ (PQ Pq) k->Q (some k) Pq):wpS (Pb prog w) A E s (descPart n m) Q st:=by
 refine Q1 (wpS_lift (Ss ⟨rfl,Q1 (Gi C hm (by lia) hn B hs λk q Pq b k1 k2 r c eq=>?_)⟩));show wpS _ _ _ _ (if q > 0 then _ else _) _ _;rcases adc q with z|z
 .rw[O9 (by lia)];exact zU (n:=k) C hm (by lia) k2 b r h
 .rw[Pf z];exact Q1 (abZ (zU (n:=k) C hm (by lia) k2 (b.arr (abY _ _ _ _)) (uc (adw (j:=k) (by rw[b.sz];lia) eq) r) h))
theorem Kr (C:Xl prog w A E s κ kd P0){st:Sb}(hm:m<=P0.size)(h1:1<=m)(B:Rx kd P0 st)(h:∀k Pq,Rx kd P0 Pq->1<=k->k<=m->RQ κ (PQ Pq) k->Q (some k) Pq):wpS (Pb prog w) A E s (countRun' 0 m) Q st:=by
 rw[countRun0_eq];refine Q1 (Dq C hm (Po 1) h1 B vZ λn c d r o=>?_);dsimp only;rcases RZ n m with z|z
 case inr=>
  rw[Pf (by simp;lia)];exact RX (h n st B c d r)
 rw[O9 (by simp;lia)];have less:κ.klt (KK κ (PQ st) n) (KK κ (PQ st) (n-1)):=o.resolve_left (by lia);rcases RZ 1 n with y|y
 case inr=>
  rw[O9 (by lia)];obtain rfl:n=1:=by lia
  exact zV C hm (by lia) B (lT EC (Po 1) (abt less)) h
 rw[Pf y];refine Q1 (C _ _ _ _ B (by lia) (by lia) ?_);cases e:κ.blt (KK κ (PQ st) 0) (KK κ (PQ st) (n-1)) with
 | true=>exact RX (h n st B c d r)
 | false=>
  have all:∀k,0<=k->k<n->KK κ (PQ st) k=KK κ (PQ st) (n-1):=λk _ f=>
   afq (r k (n-1) (by lia) (by lia)) (abx (show κ.kle _ _ from e) (r 0 k (by lia) f))
  have g:UR κ (PQ st) n:=λi j a b=>by
   rw[all i (by lia) (by lia),all j (by lia) b];exact ZV _
  exact Q1 (abZ (zV C hm (by lia) (B.arr (abY _ _ _ _)) (uc (adw (by rw[B.sz];lia) all) (lT g c (abt less))) h))
theorem ED (h:RQ κ xs k)(hk:k<xs.size)(hl:l<=k)(lo:∀i,i<l->κ.kle (KK κ xs i) (KK κ xs k))(hi:∀i,l<=i->i<k->κ.klt (KK κ xs k) (KK κ xs i)):
  RQ κ (bubble xs k (k-l)) (k+1):=by
 have at_:∀i,i<k+1->KK κ (bubble xs k (k-l)) i=if i<l then KK κ xs i else if i=l then KK κ xs k else KK κ xs (i-1):=λi d=>by
  rw[KK_bubble hk (by lia),show k-(k-l)=l by lia];rcases ZR i l with z|z|z
  .rw[O9 (by lia),O9 (by lia),Pf z]
  .rw[Pf z,O9 (by lia),Pf z]
  .rw[O9 (by lia),Pf (by lia),O9 (by lia),O9 (by lia)]
 intro i j c b;rw[at_ i (by lia),at_ j b];rcases ZR j l with z|z|z
 .rw[Pf (by lia),Pf z];exact h i j c (by lia)
 .rw[O9 (show ¬j<l by lia),Pf z];rcases RZ i l with y|y
  .rw[Pf y];exact lo i y
  .rw[O9 (by lia),Pf (by lia)];exact ZV _
 .rw[O9 (show ¬j<l by lia),O9 (show ¬j=l by lia)];rcases ZR i l with y|y|y
  .rw[Pf y];exact h i (j-1) (by lia) (by lia)
  .rw[O9 (by lia),Pf y];exact abt (hi (j-1) (by lia) (by lia))
  .rw[O9 (by lia),O9 (by lia)];exact h (i-1) (j-1) (by lia) (by lia)
theorem BZ (C:Xl prog w A E s κ kd P0){st:Sb}(hn:n<=P0.size)(ho1:1<=ok)(Pn:ok<=n)(B:Rx kd P0 st)(hs:RQ κ (PQ st) ok)(h:∀Pq,Rx kd P0 Pq->RQ κ (PQ Pq) n->Q true Pq):wpS (Pb prog w) A E s (binarySort' 0 n ok) Q st:=by
 rw[binarySort'_eq];simp only[aaE];have y:max ok 1=ok:=by lia
 rw[y];refine Q1 (wpS_mono (Z3 (λk c Pq=>c=(none,())/\Rx kd P0 Pq/\RQ κ (PQ Pq) k) (Q:=λc Pq=>c=(none,())/\Rx kd P0 Pq/\RQ κ (PQ Pq) n)
  (λk c Pq k1 k2 ⟨e,d,r⟩=>?step) (λc Pq ⟨e,d,r⟩=>?fin) ⟨rfl,B,hs⟩) λc Pq ⟨e,d,r⟩=>?post)
 case step=>
  subst e;refine Q1 (wpS_mono (Z3 (λx c b=>b=Pq/\∃l u,c=(none,l,u)/\l<=u/\u<=k/\u-l<=k-x/\(∀i,i<l->κ.kle (KK κ (PQ Pq) i) (KK κ (PQ Pq) k))/\∀i,u<=i->i<k->κ.klt (KK κ (PQ Pq) k) (KK κ (PQ Pq) i))
   (Q:=λc b=>b=Pq/\∃l u,c=(none,l,u)/\l<=k/\(∀i,i<l->κ.kle (KK κ (PQ Pq) i) (KK κ (PQ Pq) k))/\∀i,l<=i->i<k->κ.klt (KK κ (PQ Pq) k) (KK κ (PQ Pq) i))
   (λx c b _ D ⟨j,l,u,g,m,o,t,lo,f⟩=>?acj) (λc b ⟨j,l,u,g,m,o,t,lo,f⟩=>?agr) ⟨rfl,0,k,rfl,by lia,by lia,by lia,λi z=>by lia,λi v p=>by lia⟩) λc b ⟨j,l,u,g,m,lo,f⟩=>?ack)
  case acj=>
   subst j g;dsimp only;rcases RZ l u with z|z
   case inr=>
    rw[Pf z];obtain rfl:l=u:=by lia
    exact RX ⟨rfl,l,l,rfl,o,lo,f⟩
   rw[O9 (by lia)];have mid:l<=(l+u) / 2/\(l+u) / 2<u:=by lia
   refine Q1 (C _ k ((l+u) / 2) _ d (by lia) (by lia) ?_);cases e:κ.blt (KK κ (PQ b) k) (KK κ (PQ b) ((l+u) / 2)) with
   | true=>exact RX ⟨rfl,l,(l+u) / 2,rfl,by lia,by lia,by lia,lo,λi v p=>KeyOrd.klt_of_klt_of_kle e (r _ _ v p)⟩
   | false=>exact RX ⟨rfl,(l+u) / 2+1,u,rfl,by lia,by lia,by lia,λi z=>abx (r i ((l+u) / 2) (by lia) (by lia)) e,f⟩
  case agr=>
   subst j g;have z:max 0 k=k:=by lia
   rw[z] at t;obtain rfl:l=u:=by lia
   exact⟨rfl,l,l,rfl,o,lo,f⟩
  case ack=>
   subst j g;show wpS _ _ _ _ (do moveDown' k l;pure (YK (none,()))) _ _;rw[moveDown'_eq];exact Q1 (wpS_modify (RX ⟨rfl,d.arr (bubble_perm _ _ _),ED r (by rw[d.sz];lia) m lo f⟩))
 case fin=>
  subst e;have z:max ok n=n:=by lia
  rw[z] at r;exact⟨rfl,d,r⟩
 case post=>
  subst e;exact RX (h Pq d r)
theorem Gj (C:Xl prog w A E s κ kd P0){st:Sb}(B:Rx kd P0 st)(h2:2<=P0.size)(Vo:P0.size<64)(h:∀Pq,(PQ Pq).Perm P0->failedOf Pq=none->RQ κ (PQ Pq) P0.size->Q () Pq):wpS (Pb prog w) A E s sortRuns' Q st:=by
 let Fin:Sb->Prop:=λPq=>(PQ Pq).Perm P0/\failedOf Pq=none/\pendingOf Pq=#[(0,P0.size,0)]/\RQ κ (PQ Pq) P0.size;have fin:∀Pq,Rx kd P0 Pq->RQ κ (PQ Pq) P0.size->Fin (setPending Pq ((pendingOf Pq).push (0,P0.size,0))):=λPq g r=>⟨g.perm,g.failed,by show(pendingOf Pq).push _=_;rw[g.pend];rfl,r⟩
 have u:minRun' P0.size P0.size 0=P0.size:=by
  obtain⟨f,hf⟩:∃f,P0.size=f+1:=⟨P0.size-1,by lia⟩
  have q:minRun' (f+1) P0.size 0=P0.size+0:=by rw[minRun'_succ,Pf Vo]
  rw[<-hf] at q;exact q
 rw[sortRuns'_eq];refine Q1 (ε ?_);dsimp only;simp only[B.sz,u];refine Q1 (wpS_mono (Z3 (λx c Pq=>(x=0/\c=(none,0)/\Rx kd P0 Pq)\/(1<=x/\c=(none,P0.size)/\Fin Pq)) (Q:=λc Pq=>c=(none,P0.size)/\Fin Pq)
  (λx c Pq _ D o=>?step) (λc Pq o=>?fin) (.inl ⟨rfl,rfl,B⟩)) λc Pq ⟨e,F⟩=>?post)
 case step=>
  rcases o with⟨t,e,g⟩|⟨v,e,F⟩
  .subst t e;dsimp only;rw[O9 (by lia)];simp only[adU,Nat.min_self,aaE];refine Q1 (Kr C (Po _) (by lia) g λk d n k1 k2 r=>?_);dsimp only;have go:∀b,Rx kd P0 b->RQ κ (PQ b) P0.size->(pendingOf b).back?=none/\Fin (setPending b ((pendingOf b).push (0,P0.size,0))):=λb j l=>⟨by rw[j.pend];rfl,fin b j l⟩
   rcases RZ k P0.size with z|z
   .rw[Pf z];refine Q1 (wpS_lift (Ss ⟨rfl,Q1 (BZ C (Po _) k1 k2 n r λb j l=>?_)⟩));simp only[T',QY,if_false];refine Q1 (ε ?_);rw[(go b j l).1];exact Q1 (wpS_modify (RX (.inr ⟨by lia,rfl,(go b j l).2⟩)))
   .rw[O9 (by lia)];obtain rfl:k=P0.size:=by lia
    refine Q1 (ε ?_);rw[(go d n r).1];exact Q1 (wpS_modify (RX (.inr ⟨by lia,rfl,(go d n r).2⟩)))
  .subst e;dsimp only;rw[Pf (Po _)];exact RX ⟨rfl,F⟩
 case fin=>
  rcases o with⟨y,_⟩|⟨_,e,F⟩
  .omega
  .exact⟨e,F⟩
 case post=>
  subst e;refine Q1 (wpS_mono (Z3 (λ_ c d=>d=Pq/\c=(none,())) (Q:=λc d=>d=Pq/\c=(none,())) (λx c d _ _ ⟨p,m⟩=>?acj) (λ_ _ q=>q) ⟨rfl,rfl⟩) λc d ⟨p,m⟩=>?ack)
  case acj=>
   subst p m;refine Q1 (ε ?_);rw[Pf (by rw[F.2.2.1];exact Po 1)];exact RX ⟨rfl,rfl⟩
  case ack=>
   subst p m;exact RX (h _ F.1 F.2.1 F.2.2.2)
theorem oz:∀a:List Int,HT.bR a a=false
 | []=>rfl
 | x::a=>by rw[HT.eI,Pf rfl];exact oz a
theorem kD:∀(a b c:List Int),HT.bR a b=true->HT.bR b c=true->HT.bR a c=true
 | [],[],_,h,_=>by cases h
 | [],_::_,[],_,h=>by cases h
 | [],_::_,_::_,_,_=>rfl
 | _::_,[],_,h,_=>by cases h
 | _::_,_::_,[],_,h=>by cases h
 | x::a,y::b,z::c,e,d=>by
  rw[HT.eI] at e d ⊢
  by_cases g:x=y
  .subst g;rw[Pf rfl] at e
   by_cases f:x=z
   .subst f;rw[Pf rfl] at d ⊢;exact kD a b c e d
   .rw[O9 f] at d ⊢;exact d
  .rw[O9 g] at e;have e:=UL e
   by_cases f:y=z
   .subst f;rw[O9 g];exact P7 e
   .rw[O9 f] at d;have d:=UL d;rw[O9 (by lia)];exact P7 (by lia)
theorem kE:∀(a b:List Int),HT.bR a b=false->HT.bR b a=false->a=b
 | [],[],_,_=>rfl
 | [],_::_,h,_=>by cases h
 | _::_,[],_,h=>by cases h
 | x::a,y::b,d,c=>by
  rw[HT.eI] at d c
  by_cases e:x=y
  .subst e;rw[Pf rfl] at d c;rw[kE a b d c]
  .rw[O9 e] at d;rw[O9 (λz=>e z.symm)] at c;have d:=of_decide_eq_false d;have c:=of_decide_eq_false c;lia
theorem EE (a b c)(h:HT.bR a c=true):HT.bR a b=true\/HT.bR b c=true:=by
 cases e:HT.bR a b with
 | true=>exact .inl rfl
 | false=>
  refine .inr ?_;cases e2:HT.bR b a with
  | true=>exact kD b a c e2 h
  | false=>rw[<-kE a b e e2];exact h
noncomputable def gx (kf:D'->List Int):abk where
 α:=List Int
 blt:=HT.bR
 irrefl:=oz
 trans:=kD
 negTrans:=EE
 total:=kE
 keyOf:=λv=>some (kf v)
 dflt:=[]
theorem ud (h:i<xs.size):KK (gx kf) xs i=kf xs[i].1:=by
 unfold KK;rw[getElem?_pos xs i h];rfl
theorem ue (f)(x y):keyLt' (tuples' f) x y=(do
  let xs <-acY x;let ys <-acY y
  for ((p,q),i) in (xs.toList.zip ys.toList).zipIdx do
   if !(<-eqBool p q) then return <-oneLt' (f&&i==0) p q
  return decide (xs.size<ys.size)):=rfl
theorem xU (h:Q (decide (a<b)) s):O7 (Pb prog w) A (oneLt' f (.int a t) (.int b u)) Q E s:=by
 cases f with
 | true=>exact oneLt_int h
 | false=>
  rw[oneLt'_eq];simp only[QY,if_false];exact O4 (lt_int (Ut h))
abbrev Gk (v:D')(k:Int):Prop:=∃t,v=R0 k t
theorem B0 (x:bJ s.heap ks a)(y:bJ s.heap TR b)(h:Q (HT.bR ks TR) s):O7 (Pb prog w) A (keyLt' (tuples' f) (.ref a) (.ref b)) Q E s:=by
 obtain⟨xs,⟨o,e,_,n,d⟩,r⟩:=x;obtain⟨m,⟨O,M,_,S,d'⟩,N⟩:=y;rw[ue];refine O4 (Z2 e d (O4 (Z2 M d' (O4 ?_))));refine Uv _ (λrest r F=>r.1=none/\F=s/\∃(C l:List Int) (us vs:List D') (i:Nat),rest=(us.zip vs).zipIdx i/\Pl Gk us C/\Pl Gk vs l/\HT.bR C l=HT.bR ks TR/\decide (us.length<vs.length)=decide (xs.size<m.size))
  _ ?turn ?fin _ _ ⟨rfl,rfl,ks,TR,xs.toList,m.toList,0,rfl,r,N,rfl,by simp⟩
 case turn=>
  rintro⟨⟨p,q⟩,j⟩ rest c F ⟨_,I,C,l,us,vs,i,g,G,D,le,J⟩;subst I;cases G with
  | nil=>simp at g
  | @cons u k us' x'' hu p1'=>
   cases D with
   | nil=>simp at g
   | @cons v k' vs' y'' hv p2'=>
    rw[ZL,List.zipIdx_cons] at g;injection g with e3 e4
    cases e3;obtain⟨t,rfl⟩:=hu;obtain⟨t',rfl⟩:=hv;rw[HT.eI] at le;refine O4 (wpAny_eqBool_int ?_)
    by_cases z:k=k'
    .subst z;rw[Pf rfl] at le;rw[O9 (by simp)];exact Pa ⟨rfl,rfl,x'',y'',us',vs',_,e4,p1',p2',le,by rw[<-J];simp⟩
    .rw[O9 z] at le;rw[Pf (by simpa using z)];refine O4 (xU ?_);rw[le];exact Pa (Pa h)
 case fin=>
  rintro⟨P,R⟩ F ⟨L,I,C,l,us,vs,i,g,G,D,le,J⟩;simp only at L;subst L I;have z:decide (xs.size<m.size)=HT.bR ks TR:=by
   rw[<-le,<-J];cases G with
   | nil=>cases D with
    | nil=>rfl
    | cons _ _=>simp[HT.pG]
   | cons _ _=>cases D with
    | nil=>simp[HT.pH]
    | cons _ _=>rw[ZL,List.zipIdx_cons] at g;cases g
  show O7 _ _ (pure (decide (xs.size<m.size))) _ _ _;rw[z];exact Pa h
noncomputable def bW (h:O8)(v:D'):List Int:=@dite (List Int) (∃ks,∃a,v=.ref a/\bJ h ks a) (abf _) (λz=>Classical.choose z) λ_=>[]
theorem eN (x:bJ h ks a):bW h (.ref a)=ks:=by
 have z:∃ks,∃b,Qg a=.ref b/\bJ h ks b:=⟨ks,a,rfl,x⟩
 unfold bW;rw[dif_pos z];obtain⟨b,e,q⟩:=Classical.choose_spec z;cases e;exact q.inj x
abbrev jK (h:O8)(v:D')(ks:List Int):Prop:=∃a,v=Qg a/\bJ h ks a
theorem uf:∀{vs:List D'}{PM:List (List Int)},Pl (jK h) vs PM->vs.map (bW h)=PM
 | _,_,.nil=>rfl
 | _,_,.cons ⟨a,e,x⟩ t=>by rw[Qr,uf t,e,eN x]
theorem EF (p:Pl (jK s.heap) vs PM):Xl prog w A E s (gx (bW s.heap)) (tuples' f) (pairsOf vs):=by
 intro st i j Q B n G h;have at_:∀k,(l:k<(pairsOf vs).size)->∃v b c,(PQ st)[k]?=some (v,b)/\jK s.heap v c/\KK (gx (bW s.heap)) (PQ st) k=c:=λk l=>by
  have d:k<(PQ st).size:=by rw[B.sz];exact l
  have g:(PQ st)[k]∈(pairsOf vs).toList:=(acM.mp B.perm).mem_iff.mp (by simp);rw[adH] at g;have o:=(mem_zip_self g).2;obtain⟨c,_,a,e,x⟩:=fg p _ o;refine⟨(PQ st)[k].1,(PQ st)[k].2,c,U7 d,⟨a,e,x⟩,?_⟩;rw[ud d,e,eN x]
 obtain⟨L,O,k1,F,⟨M,rfl,t⟩,C⟩:=at_ i n;obtain⟨N,I,k2,m,⟨J,rfl,D⟩,u⟩:=at_ j G;rw[C,u] at h;rw[ltAt'_eq];refine Q1 (ε ?_);show wpS _ _ _ _ (do let x <-elem' (PQ st) i;let y <-elem' (PQ st) j;lt' x y) Q st;rw[elem'_eq,elem'_eq,F,m];refine Q1 (RX (Q1 (RX ?_)));rw[lt'_eq];refine Q1 (ε ?_);rw[B.kind];exact Q1 (wpS_lift (adP (B0 t D ⟨rfl,RX h⟩)))
theorem wa {A:Pz}{E:D'->J'->Prop}{s:J'}{α β:Type}{f:α->Sem β}{R:α->β->Prop}{M:Vg}:∀(l:List α) {Q:List β->J'->Prop},(∀v∈l,∀Q':β->J'->Prop,(∀b,R v b->Q' b s)->O7 M A (f v) Q' E s)->(∀bs,Pl R l bs->Q bs s)->O7 M A (l.mapM f) Q E s
 | [],Q,_,h=>by rw[List.mapM_nil];exact Pa (h [] .nil)
 | a::l,Q,d,h=>by
  rw[List.mapM_cons];refine O4 (d a Px _ λb e=>?_);exact O4 (wa l (λv g=>d v (PU _ g)) λbs c=>Pa (h _ (.cons e c)))
theorem B8 (v):firstOfTuple' v=(do
  if (<-typeOf v) != .type "tuple" then return none
  return (<-acY v)[0]?):=rfl
theorem B9 (x:bJ s.heap ks a)(QB:ks≠[])(h:∀k t,Q (some (.int k t)) s):O7 (Pb prog w) A (firstOfTuple' (.ref a)) Q E s:=by
 obtain⟨xs,f,r⟩:=x;have j:=eK f;obtain⟨o,e,c,n,d⟩:=f;rw[B8];refine O4 (XM j ?_);rw[O9 (by simp)];refine O4 (Z2 e d (Pa ?_));cases ks with
 | nil=>exact Pp rfl QB
 | cons k ks=>
  obtain⟨v,l,t,g⟩:=fc (i:=0) (b:=k) r rfl;have:xs[0]?=some v:=by rw[<-Wq];exact l
  rw[this,g];exact h k t
theorem wb:∀{l:List D'}{fs:List (Option D')},Pl (λ_ o=>∃k t,o=some (R0 k t)) l fs->fs.all (·.isSome)=true/\∃ns,VO (fs.filterMap id) ns/\ns.length=l.length
 | _,_,.nil=>⟨rfl,[],.nil,rfl⟩
 | _,_,.cons ⟨k,t,e⟩ r=>by
  obtain⟨c,ns,b,d⟩:=wb r;subst e;exact⟨by simpa using c,k::ns,.cons k t b,by simp[d]⟩
theorem Ca (p:Pl (jK s.heap) (Ti::Tj::vs) PM)(QB:∀ks∈PM,ks≠[])(h:Q (tuples' true) s):
  O7 (Pb prog w) A (keyKind' (Ti::Tj::vs).toArray) Q E s:=by
 rw[keyKind'_eq,List.mapM_toArray];refine O4 (wpAny_map (wa (R:=λ_ o=>∃k t,o=some (R0 k t)) _ (λv d n q=>?_) λfs b=>?_))
 .obtain⟨ks,l,a,e,x⟩:=fg p v d;subst e;exact B9 x (QB ks l) λk t=>q _ ⟨k,t,rfl⟩
 .obtain⟨g,ns,c,m⟩:=wb b;rw[Pf (by simpa using g)];refine O4 (Ss ?_);rw[oneTypeOnly'_eq];have e:(List.toArray fs).filterMap id=(fs.filterMap id).toArray:=by simp
  rw[e,List.mapM_toArray,mapM_typeOf_ints c];simp only[map_pure,pure_bind];cases z:fs.filterMap id with
  | nil=>
   rw[z] at c;cases c;simp at m
  | cons f0 fr=>
   have f:(List.map (λ_=>TD "int") (f0::fr)).toArray[0]?=some (TD "int"):=by simp
   have j:((List.map (λ_=>TD "int") (f0::fr)).toArray.all λx=>x==TD "int")=true:=by
    simp only[List.all_toArray,aaG,T9];intro _ _;rfl
   rw[f];simp only[j,if_true,pure_bind];exact Pa h
abbrev kF (PM:List (List Int)):Prop:=PM.Pairwise λa b=>HT.bR b a=false
theorem wc (x:bJ h ks a)(ho:h.get? d=some o)(hc:o.cls≠.type "tuple")(k:∀b u,b≠d->h.get? b=some u->h'.get? b=some u):bJ h' ks a:=by
 obtain⟨i,⟨f,e,c,n,d'⟩,r⟩:=x;refine⟨i,⟨f,k a f ?_ e,c,n,d'⟩,r⟩;rintro rfl;rw[e] at ho;cases ho;exact hc c
theorem EG (hp:xs.Perm (pairsOf vs))(hs:RQ (gx (bW h)) xs (pairsOf vs).size):(xs.map (·.2)).toList.Perm vs/\kF ((xs.map (·.2)).toList.map (bW h)):=by
 have same:∀q∈xs.toList,q.1=q.2:=λq l=>(mem_zip_self (by rw[<-adH];exact(acM.mp hp).mem_iff.mp l)).1;have d:(xs.map (·.2)).toList=xs.toList.map (·.2):=by simp
 have f:(pairsOf vs).toList.map (·.2)=vs:=by
  rw[adH];exact List.map_snd_zip (by simp)
 refine⟨?_,?_⟩
 .rw[d];have:=(acM.mp hp).map (·.2);rw[f] at this;exact this
 .rw[d,TC];unfold kF;rw[acQ];intro i j b e m;rw[PP] at b e;have g:i<xs.size:=by simpa using b
  have c:j<xs.size:=by simpa using e
  have z:=hs i j (by lia) (by rw[<-hp.size_eq];exact c);have z:HT.bR (KK (gx (bW h)) xs j) (KK (gx (bW h)) xs i)=false:=z;rw[ud g,ud c] at z;have s1:=same xs[i] (by simp);have s2:=same xs[j] (by simp);rw[s1,s2] at z;simpa using z
theorem ug (ho:s.heap.get? a=some (Qa "list" vs.toArray n))(p:Pl (jK s.heap) vs PM)(QB:∀ks∈PM,ks≠[])(Vo:vs.length<64)(h:∀out:Array D',out.toList.Perm vs->kF (out.toList.map (bW s.heap))->P (.done (.ret .none)) { s with heap:=sortedHeap s.heap a vs out }):O7 (Pb prog w) A (Tf.«list.sort» ⟨[.ref a],[]⟩) P E s:=by
 have lt:a<s.heap.objs.size:=P5 ho;obtain⟨t,o1⟩:∃t,(s.heap.update a (Ro λ_=>#[])).get? a=some (Qa "list" #[] t):=⟨_,abA ho _⟩
 have l:(((s.heap.update a (Ro λ_=>#[])).push (Qa "tuple" vs.toArray 0)).push (Qa "list" #[] 0)).get? a=some (Qa "list" #[] t):=Qe _ (Qe _ o1);have keep:∀b u,b≠a->s.heap.get? b=some u->(((s.heap.update a (Ro λ_=>#[])).push (Qa "tuple" vs.toArray 0)).push (Qa "list" #[] 0)).get? b=some u:=λb u L q=>
  Qe _ (Qe _ ((YA _ _ (Qi L)).trans q))
 have y:Pl (jK (((s.heap.update a (Ro λ_=>#[])).push (Qa "tuple" vs.toArray 0)).push (Qa "list" #[] 0))) vs PM:=aJ (λ_ _ ⟨b,e,x⟩=>⟨b,e,wc x ho (by simp) keep⟩) p;have kf:∀v∈vs,bW (((s.heap.update a (Ro λ_=>#[])).push (Qa "tuple" vs.toArray 0)).push (Qa "list" #[] 0)) v=bW s.heap v:=λv m=>by
  obtain⟨ks,_,b,e,x⟩:=fg p v m;rw[e,eN x,eN (wc x ho (by simp) keep)]
 have fin:∀xs:Array US,xs.Perm (pairsOf vs)->RQ (gx (bW (((s.heap.update a (Ro λ_=>#[])).push (Qa "tuple" vs.toArray 0)).push (Qa "list" #[] 0)))) xs (pairsOf vs).size->
   P (.done (.ret .none)) { s with heap:=sortedHeap s.heap a vs (xs.map (·.2)) }:=λxs g o=>by
  obtain⟨C,J⟩:=EG g o;refine h _ C ?_;have e:(xs.map (·.2)).toList.map (bW s.heap)=(xs.map (·.2)).toList.map (bW (((s.heap.update a (Ro λ_=>#[])).push (Qa "tuple" vs.toArray 0)).push (Qa "list" #[] 0))):=
   Tb λv m=>(kf v (C.mem_iff.mp m)).symm
  rw[e];exact J
 have sz:∀xs:Array US,xs.Perm (pairsOf vs)->((λ(_:Array D')=>xs.map (·.2)) #[]).size<=Pj+1:=λxs g=>by
  show(xs.map (·.2)).size<=_;rw[Array.size_map,g.size_eq,abS,PY];lia
 rw[list_sort_plain];refine O4 (Z2 ho rfl (O4 (abI ho rfl (O4 (seqEpoch_at o1 rfl (O4 (wpAny_newTuple (O4 (Z1 (RY ?_)))))) ) ?_ ?_)))
 case refine_2=>rw[Qv,PY];lia
 case refine_3=>show(#[]:Array D').size<=_;simp
 show O7 (Pb prog w) A _ P E { s with heap:=((s.heap.update a (Ro λ_=>#[])).push (Qa "tuple" vs.toArray 0)).push (Qa "list" #[] 0) };dsimp only
 by_cases c:vs.toArray.size<2
 .rw[Pf c,Pf c];refine O4 (Pa ?_);rw[StateT.run_pure];refine O4 (Pa (O4 (seqEpoch_at l rfl (O4 (abI l rfl ?_ (QN _) (sz (pairsOf vs) (adx _)))))));simp only[bne_self_eq_false,QY,if_false];refine Pa (fin (pairsOf vs) (adx _) λi j O M=>?_);rw[abS] at M;have c:vs.length<2:=by simpa using c
  obtain rfl:i=j:=by lia
  exact ZV _
 .rw[O9 c,O9 c];have c:2<=vs.length:=by simpa using c
  obtain⟨Ti,d,rest,rfl⟩:∃Ti d rest,vs=Ti::d::rest:=by
   match vs,c with
   | [],c=>simp at c
   | [_],c=>simp at c
   | Ti::d::rest,_=>exact⟨Ti,d,rest,rfl⟩
  refine O4 (Ca (s:={ s with heap:=((s.heap.update a (Ro λ_=>#[])).push (Qa "tuple" (Ti::d::rest).toArray 0)).push (Qa "list" #[] 0) }) y QB ?_);refine O4 (UQ (Gj (EF y) (st:=Sb.mk' (tuples' true) ((Ti::d::rest).toArray.zip (Ti::d::rest).toArray) #[] 7 none)
   (Q:=λ_ f=>(PQ f).Perm (pairsOf (Ti::d::rest))/\failedOf f=none/\RQ (gx (bW _)) (PQ f) (pairsOf (Ti::d::rest)).size)
   ⟨adx _,rfl,rfl,rfl⟩ (by rw[abS];exact c) (by rw[abS];exact Vo) λf I D G=>⟨I,D,G⟩) ?_ λ_ _ e=>e)
  rintro⟨⟨⟩,f⟩ N ⟨rfl,g,F,o⟩;dsimp only;refine O4 (seqEpoch_at l rfl (O4 (abI l rfl ?_ (QN _) (sz (PQ f) g))));rw[F];simp only[bne_self_eq_false,QY,if_false];exact Pa (fin (PQ f) g o)
theorem vC (hl:s.heap.IsList l vs.toArray)(p:Pl (jK s.heap) vs PM)(QB:∀ks∈PM,ks≠[])(Vo:vs.length<64)(h:∀out:Array D',out.toList.Perm vs->kF (out.toList.map (bW s.heap))->Q (.ref (s.heap.objs.size+1)) { s with heap:=sortedAll s.heap vs out }):O7 (Pb prog w) A (call (.builtin "sorted") [.ref l]) Q E s:=by
 refine acO kind_sorted plain_sorted entry_sorted (args_sorted1 _) ?_;have hz:((s.heap.push (Qa "list" #[] 0)).update s.heap.objs.size (Ro (·++vs.toArray))).objs.size=s.heap.objs.size+1:=by rw[O8.size_update,size_push']
 have f:(((s.heap.push (Qa "list" #[] 0)).update s.heap.objs.size (Ro (·++vs.toArray))).push (Qa "list" vs.toArray 0)).get? (s.heap.objs.size+1)=some (Qa "list" vs.toArray 0):=by
  rw[<-hz];exact QX _ rfl
 have y:∀b u,s.heap.get? b=some u->(((s.heap.push (Qa "list" #[] 0)).update s.heap.objs.size (Ro (·++vs.toArray))).push (Qa "list" vs.toArray 0)).get? b=some u:=λb u q=>
  Qe _ ((YA _ _ (XI (P5 q))).trans (Qe _ q))
 have up:∀{ks:List Int}{b:f'},bJ s.heap ks b->bJ (((s.heap.push (Qa "list" #[] 0)).update s.heap.objs.size (Ro (·++vs.toArray))).push (Qa "list" vs.toArray 0)) ks b:=λ⟨i,⟨o,e,c,n,d⟩,r⟩=>⟨i,⟨o,y _ _ e,c,n,d⟩,r⟩
 unfold Tf.«sorted»;refine O4 (m:=checkCount "sorted" 1 1 _) (Pa (O4 (collect_list hl (O4 (Z1 ?_)) (by rw[PY];lia))));show O7 _ _ _ _ _ { s with heap:=((s.heap.push (Qa "list" #[] 0)).update s.heap.objs.size (Ro (·++vs.toArray))).push (Qa "list" vs.toArray 0) };rw[hz];refine O4 (RY (Tc acK ⟨_,f,rfl⟩ acI (ug f (aJ (λ_ _ ⟨b,e,x⟩=>⟨b,e,up x⟩) p) QB Vo λout g t=>⟨_,rfl,Pa ⟨_,rfl,h out g ?_⟩⟩) (adF _)));have e:out.toList.map (bW s.heap)=out.toList.map (bW (((s.heap.push (Qa "list" #[] 0)).update s.heap.objs.size (Ro (·++vs.toArray))).push (Qa "list" vs.toArray 0))):=Tb λv j=>by
  obtain⟨ks,_,b,e,x⟩:=fg p v (g.mem_iff.mp j);rw[e,eN x,eN (up x)]
 rw[e];exact t
noncomputable def toV:D'->V
 | .ref a=>.ref a
 | _=>.Qt
theorem mF {K:O6}(f:∀a ks,aA.rep K H (.ref a) ks->bJ h ks a)(r:aE as its)(p:Pl (aA.rep K H) as PM):
  Pl (jK h) its PM/\∀v∈its,∃a ks,v=.ref a/\aA.rep K H (.ref a) ks/\bW h v=ks:=by
 have q:Pl (λv ks=>∃a,v=Qg a/\aA.rep K H (.ref a) ks) its PM:=oy (F:=aG) (G:=aA.rep K H) (λx u ks c b=>by
  obtain⟨a,xs,e,q⟩:=id b;subst e;cases c;exact⟨a,rfl,b⟩) r p
 refine⟨aJ (λ_ _ ⟨a,e,z⟩=>⟨a,e,f a _ z⟩) q,λv d=>?_⟩;obtain⟨ks,_,a,e,z⟩:=fg q v d;exact⟨a,ks,e,z,by rw[e];exact eN (f a ks z)⟩
theorem kG:cR X (.builtin "sorted") (λxs H Q=>∃(y:V) (PM:List (List Int)),xs=[y]/\(i9 aA).rep X.K H y PM/\(∀ks∈PM,ks≠[])/\PM.length<64/\
  ∀(l:f') (S7:List V) (Rv:List (List Int)),H l=none->Pl (aA.rep X.K H) S7 Rv->Rv.Perm PM->kF Rv->Q (.ref l) (upd H l (.lst S7))):=by
 intro aa s N H xs us Q I r h;obtain⟨y,PM,rfl,⟨p,as,e,G,hd⟩,A,O,q⟩:=h;subst e;obtain⟨u,rfl,J⟩:=dH r;cases J;obtain⟨its,j,pl,hz⟩:=I.list G;have c:=j.length;have P:=hd.length;obtain⟨pt,back⟩:=mF (h:=s.heap) (λa ks z=>lS I z) j hd;refine vC pl.isList pt A (by lia) λout d C=>?_;obtain⟨e,D⟩:=sortedAll_at s.heap its out;have g:H (s.heap.objs.size+1)=none:=I.Pn.fresh (XN _);have each:∀v∈out.toList,∃a ks,v=.ref a/\aA.rep X.K H (.ref a) ks/\bW s.heap v=ks:=λv t=>back v (d.mem_iff.mp t);have mk:∀l:List D',(∀v∈l,∃a ks,v=.ref a/\aA.rep X.K H (.ref a) ks/\bW s.heap v=ks)->aE (l.map toV) l/\Pl (aA.rep X.K H) (l.map toV) (l.map (bW s.heap)):=by
  intro l
  induction l with
  | nil=>intro _;exact⟨.nil,.nil⟩
  | cons v l ih=>
   intro c;obtain⟨L,F⟩:=ih λu w=>c u (PU _ w);obtain⟨a,ks,M,m,n⟩:=c v Px;subst M;exact⟨.cons rfl L,.cons (by rw[n];exact m) F⟩
 obtain⟨x,E⟩:=mk out.toList each;have f:its.map (bW s.heap)=PM:=uf pt;have hlen:out.toList.length=its.length:=d.length_eq;refine⟨.ref (s.heap.objs.size+1),_,I.laid (t':=s.toks) (o:=.lst (out.toList.map toV)) (λb o z=>sortedAll_old z) (XN _) ⟨by rw[PP,PY];lia,out.toList,e,x,by simpa [Qa] using D⟩,rfl,
  q _ _ _ g E (by rw[<-f];exact d.map _) C⟩
end L2
namespace Sa
open PySem PySem.SetTable
noncomputable def PV (t:QS)(h:Int):Nat->Probe
 | 0=>t.probeStart h
 | n+1=>t.advance (PV t h n)
theorem Gm {t u:QS}(e:t.mask=u.mask)(p:Probe):t.advance p=u.advance p:=by
 unfold advance;rw[e]
theorem mW (e:t.mask=u.mask)(h:Int):∀n,PV t h n=PV u h n
 | 0=>by unfold PV probeStart;rw[e]
 | n+1=>by unfold PV;rw[mW e h n,Gm e]
theorem ad3 (t)(h:Int):∀n,(PV t h n).dummy=none
 | 0=>rfl
 | n+1=>by
  have b:=ad3 t h n;unfold PV advance
  split
  .exact b
  .exact b
noncomputable def aS (mask:Nat)(h:Int):Nat->Nat×Nat
 | 0=>(bits h % (mask+1),bits h)
 | r+1=>leap mask (aS mask h r).1 (aS mask h r).2
noncomputable def bP (mask:Nat)(h:Int):Nat->Nat
 | 0=>0
 | r+1=>bP mask h r+(runEnd mask (aS mask h r).1-(aS mask h r).1)+1
theorem kH (mask i:Nat):i<=runEnd mask i/\runEnd mask i<=i+9:=by
 unfold runEnd
 split <;> lia
theorem qM (mask:Nat)(h:Int):∀r,bP mask h r<=10*r
 | 0=>Po _
 | r+1=>by
  have b:=qM mask h r;have:=kH mask (aS mask h r).1;unfold bP;lia
theorem dY (t)(h:Int):∀r k,k<=runEnd t.mask (aS t.mask h r).1-(aS t.mask h r).1->
  PV t h (bP t.mask h r+k)={ j:=(aS t.mask h r).1+k,more:=runEnd t.mask (aS t.mask h r).1-(aS t.mask h r).1-k,i:=(aS t.mask h r).1,perturb:=(aS t.mask h r).2,dummy:=none }
 | 0,0,_=>rfl
 | r+1,0,_=>by
  have b:=dY t h r (runEnd t.mask (aS t.mask h r).1-(aS t.mask h r).1) (Po _);have e:bP t.mask h (r+1)+0=(bP t.mask h r+(runEnd t.mask (aS t.mask h r).1-(aS t.mask h r).1))+1:=rfl;rw[e];show t.advance (PV t h _)=_;rw[b];unfold advance;simp only[Z4,VL,gt_iff_lt,if_false];rfl
 | r,k+1,c=>by
  have b:=dY t h r k (by lia);have e:bP t.mask h r+(k+1)=(bP t.mask h r+k)+1:=rfl;rw[e];show t.advance (PV t h _)=_;rw[b];unfold advance;have z:runEnd t.mask (aS t.mask h r).1-(aS t.mask h r).1-k > 0:=by lia
  simp only[z,if_true]
  congr 1
theorem vD (t)(h:Int)(r:Nat):(PV t h (bP t.mask h r)).j=(aS t.mask h r).1:=by
 have:=dY t h r 0 (QN _);rw[abR] at this;rw[this];rfl
noncomputable def nx (mask i:Nat):Nat:=(i*5+1) % (mask+1)
noncomputable def Tq (mask:Nat):Nat->Nat->Nat
 | 0,i=>i
 | n+1,i=>Tq mask n (nx mask i)
theorem ju (mask:Nat):∀a b i,Tq mask (a+b) i=Tq mask b (Tq mask a i)
 | 0,b,i=>by rw[aaE];rfl
 | a+1,b,i=>by
  rw[show a+1+b=(a+b)+1 by lia];show Tq mask (a+b) (nx mask i)=Tq mask b (Tq mask a (nx mask i));exact ju mask a b _
noncomputable def orb (mask:Nat):Nat->Nat->List Nat
 | 0,_=>[]
 | n+1,i=>i::orb mask n (nx mask i)
theorem pR (mask:Nat):∀n i j,j∈orb mask n i->∃k,k<n/\Tq mask k i=j
 | 0,_,_,h=>by cases h
 | n+1,i,j,h=>by
  rcases PN.mp h with rfl|h
  .exact⟨0,by lia,rfl⟩
  .obtain⟨k,b,e⟩:=pR mask n _ j h;exact⟨k+1,by lia,e⟩
def Mk (mask:Nat):Prop:=mask=7\/mask=31\/mask=127\/mask=15\/mask=63\/mask=255
theorem Ks {mask:Nat}(h:Mk mask):Tq mask (mask+1) 0=0/\∀j,j<mask+1->j∈orb mask (mask+1) 0:=by
 rcases h with rfl|rfl|rfl|rfl|rfl|rfl <;> decide +kernel
theorem reach {mask i j:Nat}(h:Mk mask)(hi:i<mask+1)(hj:j<mask+1):∃k,k<mask+1/\Tq mask k i=j:=by
 obtain⟨f,c⟩:=Ks h;obtain⟨a,g,d⟩:=pR _ _ _ _ (c i hi);obtain⟨b,l,e⟩:=pR _ _ _ _ (c j hj);rcases RZ b a with z|z
 .refine⟨b+(mask+1)-a,by lia,?_⟩;have:Tq mask (a+(b+(mask+1)-a)) 0=j:=by
   rw[show a+(b+(mask+1)-a)=(mask+1)+b by lia,ju,f,e]
  rw[ju,d] at this;exact this
 .refine⟨b-a,by lia,?_⟩;have:Tq mask (a+(b-a)) 0=j:=by rw[show a+(b-a)=b by lia,e]
  rw[ju,d] at this;exact this
theorem we (mask:Nat)(h:Int):∀r,(aS mask h r).1<mask+1
 | 0=>Nat.mod_lt _ (adV _)
 | r+1=>Nat.mod_lt _ (adV _)
theorem qN (mask:Nat)(h:Int):∀r,(aS mask h r).2=bits h / 32 ^ r
 | 0=>by show bits h=_;rw[Nat.pow_zero,Nat.div_one]
 | r+1=>by
  show(aS mask h r).2 / 32=_;rw[qN mask h r,Nat.div_div_eq_div_mul,Nat.pow_succ]
theorem EH (h:Int):bits h<2 ^ 64:=by
 unfold bits;have c:=YL h (show(2 ^ 64:Int)≠0 by decide);have b:=YD h (show(0:Int)<2 ^ 64 by decide);lia
theorem zW (mask:Nat)(h:Int)(hr:13<=r):(aS mask h r).2=0:=by
 rw[qN];refine Nat.div_eq_of_lt (QP (EH h) ?_);exact RC (show 2 ^ 64<=32 ^ 13 by decide) (ZI (by decide) hr)
theorem uh (mask:Nat)(h:Int):∀q,(aS mask h (13+q)).1=Tq mask q (aS mask h 13).1
 | 0=>rfl
 | q+1=>by
  have e:Tq mask (q+1) (aS mask h 13).1=nx mask (Tq mask q (aS mask h 13).1):=by rw[ju];rfl
  rw[e,<-uh mask h q];show(leap mask (aS mask h (13+q)).1 (aS mask h (13+q)).2).1=_;rw[zW mask h (by lia)];rfl
theorem Ds (t:QS)(h:Int)(hm:Mk t.mask){j:Nat}(hj:j<t.mask+1):∃r,r<t.mask+14/\(aS t.mask h r).1=j:=by
 obtain⟨k,b,e⟩:=reach hm (we t.mask h 13) hj;exact⟨13+k,by lia,by rw[uh];exact e⟩
theorem Gn (t)(h:Int)(hm:Mk t.mask)(hj:j<t.mask+1):∃n,n<10*(t.mask+14)/\(PV t h n).j=j:=by
 obtain⟨r,b,e⟩:=Ds t h hm hj;have:=qM t.mask h r;exact⟨bP t.mask h r,by lia,by rw[vD];exact e⟩
theorem Go {mask:Nat}(i k:Nat)(hi:i<mask+1)(hk:k<=runEnd mask i-i):i+k<mask+1:=by
 unfold runEnd at hk
 split at hk <;> lia
theorem zX (mask:Nat)(h:Int):∀n,∃r k,n=bP mask h r+k/\k<=runEnd mask (aS mask h r).1-(aS mask h r).1
 | 0=>⟨0,0,rfl,QN _⟩
 | n+1=>by
  obtain⟨r,k,e,b⟩:=zX mask h n;rcases RZ k (runEnd mask (aS mask h r).1-(aS mask h r).1) with z|z
  .exact⟨r,k+1,by lia,by lia⟩
  .refine⟨r+1,0,?_,QN _⟩;show n+1=bP mask h r+(runEnd mask (aS mask h r).1-(aS mask h r).1)+1+0;lia
theorem ui (t)(h:Int)(n:Nat):(PV t h n).j<t.mask+1:=by
 obtain⟨r,k,e,b⟩:=zX t.mask h n;rw[e,dY t h r k b];exact Go _ _ (we _ _ _) b
theorem first {p:Nat->Prop}[DecidablePred p]:∀n,p n->∃m,m<=n/\p m/\∀k,k<m->¬p k
 | 0,h=>⟨0,Po _,h,λk b=>Pp b (aav _)⟩
 | n+1,h=>by
  by_cases z:∃k,k<=n/\p k
  .obtain⟨k,b,q⟩:=z;obtain⟨m,e,c,d⟩:=first k q
   exact⟨m,by lia,c,d⟩
  .exact⟨n+1,Po _,h,λk b q=>z ⟨k,by lia,q⟩⟩
def Vj (xs:Array Nat):Prop:=xs.toList.Pairwise (· < ·)
theorem aaN (r:Vj xs)(h:a<b)(hb:b<xs.size):xs[a]'(by lia)<xs[b]:=by
 have:=(acQ.mp r) a b (by simp;lia) (by simpa using hb) h;simpa using this
theorem mX (r:Vj xs)(j:Nat):∀fuel lo hi,lo<=hi->hi<=xs.size->hi-lo<=fuel->(∀a,(ha:a<lo)->(hs:a<xs.size)->xs[a]<j)->(∀a,hi<=a->(hs:a<xs.size)->j<=xs[a])->
  below.go xs j fuel lo hi<=xs.size/\(∀a,(ha:a<below.go xs j fuel lo hi)->(hs:a<xs.size)->xs[a]<j)/\∀a,below.go xs j fuel lo hi<=a->(hs:a<xs.size)->j<=xs[a]
 | 0,lo,hi,g,b,h,c,d=>by
  have:lo=hi:=by lia
  subst this;unfold below.go;exact⟨b,c,d⟩
 | fuel+1,lo,hi,g,b,h,c,d=>by
  unfold below.go
  by_cases z:lo<hi
  .rw[Pf z];have f:(lo+hi) / 2<xs.size:=by lia
   have e:xs.getD ((lo+hi) / 2) j=xs[(lo+hi) / 2]:=by simp[TF,f]
   simp only[e]
   split
   .rename_i y;refine mX r j fuel _ _ (by lia) b (by lia) (λa ha hs=>?_) d;rcases RZ a ((lo+hi) / 2) with q|q
    .exact aaF (aaN r q f) y
    .obtain rfl:a=(lo+hi) / 2:=by lia
     exact y
   .rename_i y;refine mX r j fuel _ _ (by lia) (by lia) (by lia) c (λa ha hs=>?_);rcases RZ ((lo+hi) / 2) a with q|q
    .exact RC (abv y) (XH (aaN r q hs))
    .obtain rfl:a=(lo+hi) / 2:=by lia
     exact abv y
  .rw[O9 z];have:lo=hi:=by lia
   subst this;exact⟨b,c,d⟩
theorem WV (r:Vj xs)(j:Nat):below xs j<=xs.size/\(∀a,(ha:a<below xs j)->(hs:a<xs.size)->xs[a]<j)/\∀a,below xs j<=a->(hs:a<xs.size)->j<=xs[a]:=
 mX r j xs.size 0 xs.size (QN _) (Po _) (by lia) (λa ha=>Pp ha (aav _)) λa ha hs=>by lia
theorem Cb (r:Vj xs)(h:xs[i]?=some j):below xs j=i:=by
 obtain⟨g,d,f⟩:=WV r j;obtain⟨c,e⟩:=Wl.mp h;rcases ZR (below xs j) i with z|z|z
 .have a:=f _ (Po _) (by lia);have b:=aaN r z c;lia
 .exact z
 .have:=d i z c;lia
structure Tab (t:QS):Prop where
 QG:Mk t.mask
 rise:Vj t.place
 le:∀j∈t.place.toList,j<=t.mask
 nod:t.dummies=#[]
theorem qO (j:Nat):has #[] j=false:=by
 unfold has;simp
theorem afK (T:Tab t)(h:j∉t.place.toList):t.slot j=.empty:=by
 unfold slot;have z:(t.place[below t.place j]?==some j)=false:=by
  cases e:t.place[below t.place j]? with
  | none=>rfl
  | some k=>
   have b:k∈t.place.toList:=by
    rw[<-Wq] at e;exact QF e
   have:k≠j:=λq=>h (q▸b);simpa using this
 simp only[z,T.nod,qO,QY,if_false]
theorem Z8 (T:Tab t)(h:t.place[i]?=some j):t.slot j=.live i:=by
 unfold slot;rw[Cb T.rise h];simp[h]
theorem afQ {xs:Array Nat}(h:j∈xs.toList):∃i:Nat,xs[i]?=some j:=by
 obtain⟨i,b,e⟩:=abl.mp h;exact⟨i,by rw[<-Wq,Qu b,e]⟩
theorem Cc {l:List Nat}(h:l.length<n):∃j,j<n/\j∉l:=by
 refine Wm λz=>?_;have sub:∀j∈QK n,j∈l:=λj g=>Wm λy=>z ⟨j,Sq.mp g,y⟩;have key:∀(a b:List Nat),a.Nodup->(∀x∈a,x∈b)->a.length<=b.length:=by
  intro a
  induction a with
  | nil=>intro b _ _;exact QN _
  | cons x a ih=>
   intro b c e;rw[Td] at c;have f:=e x Px;have:=ih (b.erase x) c.2 λy d=>by
    refine(afl ?_).mpr (e y (PU _ d));rintro rfl;exact c.1 d
   rw[U8 f] at this;have m:0<b.length:=YB f;simp only[Q0];lia
 have:=key (QK n) l abw sub;rw[aaq] at this;lia
theorem meets (T:Tab t)(h:Int)(hf:t.place.size<=t.mask):∃n,n<10*(t.mask+14)/\(PV t h n).j∉t.place.toList/\∀m,m<n->(PV t h m).j∈t.place.toList:=by
 obtain⟨j,g,f⟩:=Cc (n:=t.mask+1) (l:=t.place.toList) (by simp;lia);obtain⟨n,s,e⟩:=Gn t h T.QG g;obtain⟨m,o,d,b⟩:=first (p:=λn=>(PV t h n).j∉t.place.toList) n (by rw[e];exact f)
 exact⟨m,by lia,d,λk c=>Wm λz=>b k c z⟩
def lU (mask:Nat)(P:List Nat)(h:Int)(j:Nat):Prop:=∃(t:QS) (n:Nat),t.mask=mask/\(PV t h n).j=j/\∀m,m<n->(PV t h m).j∈P
theorem lU.more {mask:Nat}(r:lU mask P h j)(s:∀x∈P,x∈P'):lU mask P' h j:=
 let ⟨t,n,e,a,b⟩:=r;⟨t,n,e,a,λm c=>s _ (b m c)⟩
theorem lU.at (r:lU t.mask P h j):∃n,(PV t h n).j=j/\∀m,m<n->(PV t h m).j∈P:=by
 obtain⟨u,n,e,a,b⟩:=r;exact⟨n,by rw[mW e.symm];exact a,λm c=>by rw[mW e.symm];exact b m c⟩
abbrev RJ:=Int×D'
structure Full (t:QS)(es:Array RJ):Prop where
 tab:Tab t
 size:t.place.size=es.size
 reach:∀x∈t.place.toList.zip es.toList,lU t.mask t.place.toList x.2.1 x.1
theorem wg {α β:Type}:∀(p:Nat) (P:List α) (E:List β) (a:α) (b:β),P.length=E.length->p<=P.length->(P.take p++a::P.drop p).zip (E.take p++b::E.drop p)=(P.zip E).take p++(a,b)::(P.zip E).drop p
 | 0,P,E,a,b,_,_=>by simp
 | p+1,[],_,_,_,_,h=>by simp at h
 | p+1,x::P,[],_,_,h,_=>by simp at h
 | p+1,x::P,y::E,a,b,h,c=>by
  have:=wg p P E a b (by simpa using h) (by simpa using c);simp only[afr,List.drop_succ_cons,List.cons_append,ZL];rw[this]
theorem XR {α:Type}(xs)(p:Nat)(x:α):(insertAt xs p x).toList=xs.toList.take p++x::xs.toList.drop p:=by
 rw[QS.toList_insertAt]
theorem Cd (r:Vj xs)(h:j∉xs.toList):Vj (insertAt xs (below xs j) j):=by
 obtain⟨s,l,p⟩:=WV r j;unfold Vj at r ⊢;rw[XR];have e:=(Wr (below xs j) xs.toList).symm;rw[e] at r;rw[abm] at r ⊢;obtain⟨n,m,o⟩:=r;refine⟨n,?_,?_⟩
 .rw[Ww];refine⟨λb hb=>?_,m⟩;obtain⟨k,c,rfl⟩:=abl.mp hb;rw[YH] at c;have f:below xs j+k<xs.size:=by simp at c;lia
  rw[List.getElem_drop];have q:=p (below xs j+k) (by lia) f;have ne:xs[below xs j+k]≠j:=λz=>h (by rw[<-z];simp);have:j<xs[below xs j+k]:=by lia
  simpa using this
 .intro a d b hb;have g:a<j:=by
   obtain⟨k,c,rfl⟩:=abl.mp d;rw[RW] at c;rw[List.getElem_take];have q:=l k (by lia) (by simp at c;lia);simpa using q
  rcases PN.mp hb with rfl|hb
  .exact g
  .exact o a d b hb
theorem pT {α:Type}{l:List α}{p:Nat}{x y:α}:y∈l.take p++x::l.drop p↔y=x\/y∈l:=by
 have e:=Wr p l;rw[QJ,PN];have m:y∈l↔y∈l.take p\/y∈l.drop p:=by
  rw[<-QJ,e]
 rw[m];constructor
 .rintro(h|h|h)
  .exact .inr (.inl h)
  .exact .inl h
  .exact .inr (.inr h)
 .rintro(h|h|h)
  .exact .inr (.inl h)
  .exact .inl h
  .exact .inr (.inr h)
theorem ad7 (T:Tab t)(j:Nat):(t.put j).2=below t.place j/\(t.put j).1.mask=t.mask/\(t.put j).1.place=insertAt t.place (below t.place j) j/\(t.put j).1.dummies=#[]/\(t.put j).1.plain=t.plain/\(t.put j).1.led=t.led/\(t.put j).1.moves=t.moves:=by
 unfold put;refine⟨rfl,rfl,rfl,?_,rfl,rfl,rfl⟩;show(if has t.dummies j=true then _ else t.dummies)=#[];rw[T.nod,qO];rfl
theorem ab9 {α:Type}(xs)(x:α)(h:p<=xs.size):(insertAt xs p x).size=xs.size+1:=by
 rw[<-Ri,XR,QI,Q0,RW,YH];simp;lia
theorem afL (F:Full t es)(hn:(PV t e.1 n).j∉t.place.toList)(hb:∀m,m<n->(PV t e.1 m).j∈t.place.toList):
  Full (t.put (PV t e.1 n).j).1 (insertAt es (t.put (PV t e.1 n).j).2 e):=by
 obtain⟨d,c,b,h,_⟩:=ad7 F.tab (PV t e.1 n).j;obtain⟨f,_,_⟩:=WV F.tab.rise (PV t e.1 n).j;have l:(PV t e.1 n).j<t.mask+1:=ui t e.1 n;have sz:=F.size;refine⟨⟨by rw[c];exact F.tab.QG,by rw[b];exact Cd F.tab.rise hn,λj hj=>?_,h⟩,?_,λx hx=>?_⟩
 .rw[b,XR,pT] at hj;rw[c];rcases hj with rfl|hj
  .omega
  .exact F.tab.le j hj
 .rw[d,b,ab9 _ _ f,ab9 _ _ (by lia),sz]
 .rw[d,b,XR,XR,wg _ _ _ _ _ (by simp[sz]) (by simpa using f),pT] at hx;have up:∀z∈t.place.toList,z∈(t.put (PV t e.1 n).j).1.place.toList:=λz hz=>by rw[b,XR,pT];exact .inr hz
  rw[c];rcases hx with rfl|hx
  .exact⟨t,n,rfl,rfl,λm g=>up _ (hb m g)⟩
  .exact(F.reach x hx).more up
noncomputable abbrev tm (mask:Nat):QS:={ mask,place:=#[],dummies:=#[],finger:=0,led:=true,moves:=0,plain:=true }
def cG (owner:Array (Option Nat))(j:Nat):Prop:=(owner.getD j (some 0)).isSome=true
instance (owner)(j:Nat):Decidable (cG owner j):=inferInstanceAs (Decidable (_=true))
theorem qP {mask:Nat}(h:Int):∀fuel r,(∀m,m<bP mask h r->cG owner (PV (tm mask) h m).j)->(∃r',r<=r'/\r' < r+fuel/\¬cG owner (aS mask h r').1)->
  ∃j n,layClean.free mask owner fuel (aS mask h r).1 (aS mask h r).2=some j/\¬cG owner j/\(PV (tm mask) h n).j=j/\∀m,m<n->cG owner (PV (tm mask) h m).j
 | 0,r,_,⟨r',A,w,_⟩=>by lia
 | fuel+1,r,s,⟨r',A,w,t⟩=>by
  unfold layClean.free;cases e:(QK (runEnd mask (aS mask h r).1+1-(aS mask h r).1)).find? λk=>(owner.getD ((aS mask h r).1+k) (some 0)).isNone with
  | some k=>
   have D:=Sq.mp (abb e);have x:=kH mask (aS mask h r).1;have g:(owner.getD ((aS mask h r).1+k) (some 0)).isNone=true:=ady (p:=λk=>(owner.getD ((aS mask h r).1+k) (some 0)).isNone) e;have sk:=dY (tm mask) h r k (by show k<=runEnd mask (aS mask h r).1-(aS mask h r).1;lia);refine⟨_,bP mask h r+k,rfl,?_,by rw[sk],λm l=>?_⟩
   .unfold cG;intro z;rw[Option.isNone_iff_eq_none] at g;rw[g] at z;cases z
   .rcases RZ m (bP mask h r) with y|y
    .exact s m y
    .obtain⟨d,rfl⟩:∃d,m=bP mask h r+d:=⟨m-bP mask h r,by lia⟩
     have b:=dY (tm mask) h r d (by show d<=runEnd mask (aS mask h r).1-(aS mask h r).1;lia);rw[b];show cG owner ((aS mask h r).1+d);unfold cG;have hd:d<k:=by lia
     obtain⟨_,as,bs,f,u⟩:=List.find?_eq_some_iff_append.mp e;have v:as.length=k:=by
      have:(QK (runEnd mask (aS mask h r).1+1-(aS mask h r).1))[as.length]?=some k:=by rw[f];simp
      rw[abn (by have:=congrArg Ux f;simp at this;lia)] at this;exact Sn this
     have c:d∈as:=by
      have:(QK (runEnd mask (aS mask h r).1+1-(aS mask h r).1))[d]?=some d:=abn (by lia);rw[f,VB (by lia)] at this;exact QF this
     have:=u d c;cases z:owner.getD ((aS mask h r).1+d) (some 0) with
     | none=>rw[z] at this;simp at this
     | some _=>rfl
  | none=>
   have all:=aam.mp e;have x:=kH mask (aS mask h r).1;have o:∀d,d<=runEnd mask (aS mask h r).1-(aS mask h r).1->cG owner ((aS mask h r).1+d):=λd hd=>by
    have:=all d (Sq.mpr (by lia));unfold cG;cases z:owner.getD ((aS mask h r).1+d) (some 0) with
    | none=>rw[z] at this;simp at this
    | some _=>rfl
   have ne:r'≠r:=λz=>t (by rw[z];exact o 0 (QN _));refine qP h fuel (r+1) (λm l=>?_) ⟨r',by lia,by lia,t⟩;rcases RZ m (bP mask h r) with y|y
   .exact s m y
   .have C:m<bP mask h r+(runEnd mask (aS mask h r).1-(aS mask h r).1)+1:=l;obtain⟨d,rfl⟩:∃d,m=bP mask h r+d:=⟨m-bP mask h r,by lia⟩
    have b:=dY (tm mask) h r d (by show d<=runEnd mask (aS mask h r).1-(aS mask h r).1;lia);rw[b];exact o d (by lia)
structure Zj (mask:Nat)(hs:List Int)(owner:Array (Option Nat)):Prop where
 size:owner.size=mask+1
 perm:((QK (mask+1)).filterMap λj=>owner.getD j none).Perm (QK hs.length)
 reach:∀j q h,owner[j]?=some (some q)->hs[q]?=some h->∃n,(PV (tm mask) h n).j=j/\∀m,m<n->cG owner (PV (tm mask) h m).j
theorem xV {α β:Type}{f g:α->Option β}:∀{l:List α},(∀a∈l,f a=g a)->l.filterMap f=l.filterMap g
 | [],_=>rfl
 | a::l,h=>by rw[T7,T7,h a Px,xV λb c=>h b (PU _ c)]
theorem j8 {owner:Array (Option Nat)}(hj:owner.getD j (some 0)=none):∀(l:List Nat),l.Nodup->j∈l->(∀x∈l,x<owner.size)->
  (l.filterMap λi=>(owner.setIfInBounds j (some k)).getD i none).Perm ((l.filterMap λi=>owner.getD i none)++[k])
 | [],_,h,_=>by cases h
 | x::l,g,h,d=>by
  rw[Td] at g;have f:=d x Px
  by_cases z:x=j
  .subst z;have c:(owner.setIfInBounds x (some k)).getD x none=some k:=by simp[TF,f]
   have p:owner.getD x none=none:=by
    simp only[TF,f,dite_true] at hj ⊢;exact hj
   have s:(l.filterMap λi=>(owner.setIfInBounds x (some k)).getD i none)=l.filterMap λi=>owner.getD i none:=by
    refine xV λi n=>?_;have ne:x≠i:=λq=>g.1 (q▸n);have t:=d i (PU _ n);simp[TF,t,aeQ,ne]
   rw[Yz (b:=k) (by rw[c]),abd (by rw[p]),s];exact(List.perm_append_singleton k _).symm
  .have m:j∈l:=by
    rcases PN.mp h with q|q
    .exact Pp q.symm z
    .exact q
   have o:=j8 (k:=k) hj l g.2 m λy u=>d y (PU _ u);have c:(owner.setIfInBounds j (some k)).getD x none=owner.getD x none:=by
    have ne:j≠x:=λq=>z q.symm;simp[TF,f,aeQ,ne]
   cases e:owner.getD x none with
   | none=>rw[abd (by rw[c,e]),abd (by rw[e])];exact o
   | some v=>rw[Yz (b:=v) (by rw[c,e]),Yz (b:=v) (by rw[e])];exact o.cons v
theorem qQ (h:cG owner x):cG (owner.setIfInBounds j (some k)) x:=by
 unfold cG at h ⊢;rw[Array.getD_eq_getD_getElem?] at h ⊢
 by_cases e:j=x
 .subst e
  by_cases b:j<owner.size
  .rw[aeI b];rfl
  .rw[aag (by simpa using b)];rfl
 .rw[aeK e];exact h
theorem zY:∀(l:List Nat),(∀x∈l,cG owner x/\x<owner.size)->(l.filterMap λj=>owner.getD j none).length=l.length
 | [],_=>rfl
 | x::l,h=>by
  obtain⟨c,d⟩:=h x Px;unfold cG at c;simp only[TF,d,dite_true] at c;obtain⟨v,e⟩:=Xy.mp c;rw[Yz (b:=v) (by simp[TF,d];exact e),Q0,Q0,zY l λy f=>h y (PU _ f)]
theorem Ce {mask:Nat}(M:Mk mask)(O:Zj mask hs owner)(h:Int)(hl:hs.length<=mask):
  ∃j,layClean.free mask owner (turns mask) (bits h % (mask+1)) (bits h)=some j/\Zj mask (hs++[h]) (owner.setIfInBounds j (some hs.length)):=by
 have sz:=O.size;obtain⟨e,C,J⟩:∃e,e<mask+1/\¬cG owner e:=by
  refine Wm λz=>?_;have all:∀x∈QK (mask+1),cG owner x/\x<owner.size:=λx d=>by
   have d:=Sq.mp d;exact⟨Wm λy=>z ⟨x,d,y⟩,by lia⟩
  have I:=zY _ all;have A:=O.perm.length_eq;rw[I,aaq,aaq] at A;lia
 obtain⟨r,D,f⟩:=Ds (tm mask) h M C;obtain⟨j,n,F,o,E,N⟩:=qP (mask:=mask) (owner:=owner) h (turns mask) 0 (λm l=>Pp l (aav _)) ⟨r,QN _,by
  have:r<mask+14:=D;unfold turns;lia,by
  have f:(aS mask h r).1=e:=f;rw[f];exact J⟩
 have s:owner.getD j (some 0)=none:=by
  unfold cG at o;cases z:owner.getD j (some 0) with
  | none=>rfl
  | some v=>rw[z] at o;exact Pp rfl o
 have u:j<owner.size:=by
  refine Wm λz=>?_;simp[TF,z] at s
 refine⟨j,F,by rw[Array.size_setIfInBounds];exact sz,?_,λg q h' b c=>?_⟩
 .have p:=j8 (k:=hs.length) s (QK (mask+1)) abw (Sq.mpr (by lia)) λx d=>by have:=Sq.mp d;lia
  refine p.trans ?_;rw[QI,ac0];have f:QK (hs.length+1)=QK hs.length++[hs.length]:=YM;rw[f];exact O.perm.append_right _
 .by_cases z:j=g
  .subst z;rw[aeI u] at b;have:hs.length=q:=by
    injection b with b
    injection b
   subst this;rw[Xx (Po _)] at c;simp at c;subst c;exact⟨n,E,λm l=>qQ (N m l)⟩
  .rw[aeK z] at b;have t:q<hs.length:=by
    have Q:g < owner.size:=by
     obtain⟨w,_⟩:=Wl.mp b;exact w
    have:q∈(QK (mask+1)).filterMap λj=>owner.getD j none:=by
     rw[Us];refine⟨g,Sq.mpr (by lia),?_⟩;have:=(Wl.mp b).2;simp[TF,Q,this]
    exact Sq.mp (O.perm.mem_iff.mp this)
   rw[VB t] at c;obtain⟨m,G,L⟩:=O.reach g q h' b c;exact⟨m,G,λk P=>qQ (L k P)⟩
theorem Cf (mask:Nat):Zj mask [] (adz (mask+1) none):=by
 refine⟨by simp,?_,λj q h e=>?_⟩
 .have:((QK (mask+1)).filterMap λj=>(adz (mask+1) (none:Option Nat)).getD j none)=[]:=by
   rw[List.filterMap_eq_nil_iff];intro a _;simp only[TF]
   split <;> simp
  rw[this];exact aaA _
 .rw[Wl] at e;obtain⟨_,e⟩:=e;simp at e
theorem uj {mask:Nat}(M:Mk mask):∀(rest done:List Int) (owner:Array (Option Nat)),Zj mask done owner->(done++rest).length<=mask->
  ∃aaP,(rest.foldl (λ(acc:Option (Array (Option Nat)×Nat)) h=>do
   let (owner,k) <-acc;let j <-layClean.free mask owner (turns mask) (bits h % (mask+1)) (bits h)
   pure (owner.setIfInBounds j (some k),k+1)) (some (owner,done.length)))=some (aaP,(done++rest).length)/\Zj mask (done++rest) aaP
 | [],done,owner,O,_=>⟨owner,by simp,by rw[SV];exact O⟩
 | h::rest,done,owner,O,d=>by
  simp only[QI,Q0] at d;obtain⟨j,e,f⟩:=Ce M O h (by lia);obtain⟨aaP,c,b⟩:=uj M rest (done++[h]) _ f (by simp;lia);refine⟨aaP,?_,by rw[XE] at b;exact b⟩;rw[Va];have:(do
   let (owner,k) <-some (owner,done.length);let j <-layClean.free mask owner (turns mask) (bits h % (mask+1)) (bits h)
   pure (owner.setIfInBounds j (some k),k+1))=some (owner.setIfInBounds j (some done.length),done.length+1):=by
   simp[e]
  rw[this];rw[QI,ac0] at c;rw[c];simp
theorem Cg {mask:Nat}(M:Mk mask)(hs:List Int)(hl:hs.length<=mask):∃owner,layClean mask hs.toArray=some owner/\Zj mask hs owner:=by
 obtain⟨owner,e,O⟩:=uj M hs [] _ (Cf mask) (by simpa using hl);refine⟨owner,?_,by simpa using O⟩;unfold layClean;rw[<-Array.foldl_toList];have e:ab5 _ (some (adz (mask+1) none,0)) hs=_:=e;rw[e];rfl
noncomputable def cS (mask:Nat)(owner:Array (Option Nat)):List (Nat×Nat):=(QK (mask+1)).filterMap λj=>(owner.getD j none).map (j,·)
theorem kI {mask:Nat}(sz:owner.size=mask+1):x∈cS mask owner↔owner[x.1]?=some (some x.2):=by
 unfold cS;rw[Us];constructor
 .rintro⟨j,h,e⟩;have b:j<owner.size:=by have:=Sq.mp h;lia
  obtain⟨v,c,f⟩:=ZF.mp e;subst f;rw[U7 b];simp only[TF,b,dite_true] at c;rw[<-c];rfl
 .intro e;obtain⟨g,d⟩:=Wl.mp e;refine⟨x.1,Sq.mpr (by lia),?_⟩;have:owner.getD x.1 none=some x.2:=by simp[TF,g,d]
  rw[this];rfl
theorem zZ (mask:Nat)(owner):(cS mask owner).map (·.2)=(QK (mask+1)).filterMap λj=>owner.getD j none:=by
 unfold cS;rw[List.map_filterMap];refine xV λj _=>?_;cases owner.getD j none <;> rfl
theorem wj {f:Nat->Option (Nat×Nat)}(hf:∀j x,f j=some x->x.1=j):∀(l:List Nat),l.Pairwise (· < ·)->((l.filterMap f).map (·.1)).Pairwise (· < ·)
 | [],_=>ZQ
 | a::l,h=>by
  rw[Ww] at h;have d:=wj hf l h.2;cases e:f a with
  | none=>rw[abd e];exact d
  | some x=>
   rw[Yz e,Qr,Ww];refine⟨λb m=>?_,d⟩;obtain⟨y,g,rfl⟩:=P6.mp m;obtain⟨c,o,n⟩:=Us.mp g;rw[hf a x e,hf c y n];exact h.1 c o
theorem xW (mask:Nat)(owner):((cS mask owner).map (·.1)).Pairwise (· < ·):=by
 unfold cS;refine wj (λj x e=>?_) _ abh;obtain⟨v,_,b⟩:=ZF.mp e;rw[<-b]
theorem Aa {α:Type}{g:Nat->Option α}:∀(l:List (Nat×Nat)),(∀x∈l,∃a,g x.2=some a)->(l.map (·.1)).zip ((l.map (·.2)).filterMap g)=l.filterMap (λx=>(g x.2).map (x.1,·))/\((l.map (·.2)).filterMap g).length=l.length
 | [],_=>⟨rfl,rfl⟩
 | x::l,h=>by
  obtain⟨a,c⟩:=h x Px;obtain⟨f,e⟩:=Aa l λy d=>h y (PU _ d);rw[Qr,Qr,Yz c,Yz (b:=(x.1,a)) (by rw[c];rfl),ZL,f];exact⟨rfl,by rw[Q0,Q0,e]⟩
theorem afN {mask finger moves:Nat}{led plain:Bool}(M:Mk mask)(es:Array RJ)(hl:es.size<=mask):
  ∃t order,laid mask finger moves led plain (es.map (·.1))=some (t,order)/\t.mask=mask/\t.plain=plain/\t.led=led/\(order.filterMap (es[·]?)).size=es.size/\(order.filterMap (es[·]?)).toList.Perm es.toList/\Full t (order.filterMap (es[·]?)):=by
 obtain⟨owner,e,O⟩:=Cg M (es.toList.map (·.1)) (by rw[PP,Ri];exact hl);have C:(es.toList.map (·.1)).toArray=es.map (·.1):=by
  apply Array.toList_inj.mp;rw[Array.toList_map]
 rw[C] at e;have h:((cS mask owner).map (·.2)).Perm (QK es.size):=by
  rw[zZ];have:=O.perm;simpa using this
 refine⟨{ mask,place:=((cS mask owner).map (·.1)).toArray,dummies:=#[],finger,led,moves,plain },((cS mask owner).map (·.2)).toArray,?_,rfl,rfl,rfl,?_⟩
 .unfold laid;rw[e];rfl
 have perm:(((cS mask owner).map (·.2)).toArray.filterMap (es[·]?)).toList.Perm es.toList:=by
  rw[acZ];exact(h.filterMap _).trans (by rw[filterMap_getElem?_range])
 have d:∀x∈cS mask owner,∃a,es[x.2]?=some a:=λx b=>by
  have:x.2∈(cS mask owner).map (·.2):=P6.mpr ⟨x,b,rfl⟩;have:=Sq.mp (h.mem_iff.mp this);exact⟨es[x.2],U7 this⟩
 obtain⟨D,u⟩:=Aa (g:=λi=>es[i]?) (cS mask owner) d;refine⟨?_,perm,⟨M,xW mask owner,λj f=>?_,rfl⟩,?_,λx b=>?_⟩
 .rw[<-Ri,perm.length_eq,Ri]
 .have f:j∈(cS mask owner).map (·.1):=f;obtain⟨x,b,rfl⟩:=P6.mp f;rw[kI O.size] at b;obtain⟨w,_⟩:=Wl.mp b;have:=O.size;show x.1<=mask;lia
 .show((cS mask owner).map (·.1)).toArray.size=_;rw[Qv,PP,<-Ri,acZ];exact u.symm
 .rw[acZ] at b;have b:x∈((cS mask owner).map (·.1)).zip (((cS mask owner).map (·.2)).filterMap λi=>es[i]?):=b;rw[D,Us] at b;obtain⟨y,E,G⟩:=b;obtain⟨a,l,s⟩:=ZF.mp G;subst s;have o:(es.toList.map (·.1))[y.2]?=some a.1:=by
   rw[Q6,Wq,l];rfl
  obtain⟨n,A,F⟩:=O.reach y.1 y.2 a.1 ((kI O.size).mp E) o;refine⟨tm mask,n,rfl,A,λm p=>?_⟩;show(PV (tm mask) a.1 m).j∈(cS mask owner).map (·.1);have c:=F m p;have lt:(PV (tm mask) a.1 m).j<mask+1:=ui (tm mask) a.1 m;have lt':(PV (tm mask) a.1 m).j<owner.size:=by rw[O.size];exact lt
  unfold cG at c;simp only[TF,lt',dite_true] at c;obtain⟨v,ev⟩:=Xy.mp c;refine P6.mpr ⟨((PV (tm mask) a.1 m).j,v),(kI O.size).mpr ?_,rfl⟩;rw[U7 lt'];exact congrArg some ev
end Sa
namespace L2
open PySem PySem.Spec PyProof.Rows PySem.SetTable
theorem Ab (a:f')(x:D')(h:Int)(adding:Bool)(fuel:Nat)(st:Option Probe):setSearchFrom a x h adding (fuel+1) st=(do
  let (es,_,t) <-setState a
  if t.gaveWay then unsupported "set:on-a-table-that-gave-way"
  let some met:=t.probe (λi=>(es[i]?.map (·.1)).getD 0) h (st.getD (t.probeStart h))|unsupported "internal:set-table-without-an-empty-slot"
  match met with
  | .empty j dummy=>
   match dummy with
   | none=>return .free j false
   | some d=>
    if adding&&t.slot d != .dummy then rule "set.search.the-dummy-was-taken";return <-setSearchFrom a x h adding fuel none
    return .free d true
  | .candidate j i next=>
   if !t.led then
    if <-searchCouldBeSeen x ((es.filter (·.1==h)).toList.map (·.2)) then unsupported "set:the-search-would-show-the-table"
   let some (_,y):=es[i]? | unsupported "internal:set-entry"
   let equal <-holding [y] (eqBool y x)
   let (R3,_,t') <-setState a
   if adding&&equal then return .there none
   let some same:=t'.sameMemory t.moves t.mask|unsupported "set.changed-during-lookup:is-the-new-block-at-the-old-address"
   let acl <-match (if same then t'.slot j else .empty) with
    | .live i'=>match R3[i']? with
     | some (_,y')=>do pure (if <-isSame y' y then some i' else none)
     | none=>pure none
    | _=>pure none
   match acl with
   | none=>rule "set.search.anew";setSearchFrom a x h adding fuel none
   | some i'=>if equal then return .there (some i') else setSearchFrom a x h adding fuel (some next)):=rfl
theorem wm (T:Sa.Tab t)(hN:(Sa.PV t h N).j∉t.place.toList)(hb:∀m,m<N->(Sa.PV t h m).j∈t.place.toList):∀fuel m,m<=N->N-m<fuel->
  ∃m',m<=m'/\m'<=N/\((m'=N/\probe.go t H h fuel (Sa.PV t h m)=some (.empty (Sa.PV t h N).j none))\/
   (m' < N/\∃i,t.place[i]?=some (Sa.PV t h m').j/\H i=h/\probe.go t H h fuel (Sa.PV t h m)=some (.candidate (Sa.PV t h m').j i (Sa.PV t h (m'+1)))))/\
   ∀q,m<=q->q<m'->∀i,t.place[i]?=some (Sa.PV t h q).j->H i≠h
 | 0,m,_,p=>by lia
 | fuel+1,m,u,p=>by
  rcases RZ m N with z|z
  .obtain⟨i,g⟩:=Sa.afQ (hb m z);have f:=Sa.Z8 T g;have uniq:∀c,t.place[c]?=some (Sa.PV t h m).j->c=i:=λc d=>by
    have:=Sa.Z8 T d;rw[f] at this;cases this;rfl
   by_cases e:H i=h
   .refine⟨m,Po _,u,.inr ⟨z,i,g,e,?_⟩,λq a b=>by lia⟩;unfold probe.go;rw[f];simp only[e,beq_self_eq_true,if_true];rfl
   .obtain⟨m',w,n,o,v⟩:=wm T hN hb fuel (m+1) z (by lia);have s:probe.go t H h (fuel+1) (Sa.PV t h m)=probe.go t H h fuel (Sa.PV t h (m+1)):=by
     rw[probe.go,f];have:(H i==h)=false:=by simpa using e
     simp only[this,QY,if_false];rfl
    refine⟨m',by lia,n,?_,λq x l c d=>?_⟩
    .rw[s];exact o
    .rcases RZ m q with y|y
     .exact v q (by lia) l c d
     .obtain rfl:q=m:=by lia
      rw[uniq c d];exact e
  .obtain rfl:m=N:=by lia
   refine⟨m,Po _,Po _,.inl ⟨rfl,?_⟩,λq a b=>by lia⟩;unfold probe.go;rw[Sa.afK T hN,Sa.ad3]
structure SJ (prog)(w)(K:Type)[DecidableEq K]where
 knd:HeapKind prog w K
 ν:∀{A:Pz}{E:D'->J'->Prop}{s:J'}{k:K}{a:f'}{Q:Bool->J'->Prop},knd.is s.heap k a->Q true s->O7 (Pb prog w) A (hashByValue 8 (.ref a)) Q E s
 Y0:∀{A:Pz}{E:D'->J'->Prop}{s:J'}{k:K}{a:f'}{Q:Bool->J'->Prop},knd.is s.heap k a->Q false s->O7 (Pb prog w) A (ofAClassStatement 8 (.ref a)) Q E s
 keep:∀{h h':O8}{k:K}{a:f'},knd.is h k a->(∀b o,o.cls=.type "tuple"->h.get? b=some o->h'.get? b=some o)->knd.is h' k a
section
variable {prog:Pk}{w:Pd}{K:Type} [DecidableEq K] {A:Pz}{E:D'->J'->Prop}{s:J'}{X:SJ prog w K}
def El (X:SJ prog w K)(h:O8)(e:Sa.RJ)(k:K):Prop:=∃b,e.2=.ref b/\X.knd.is h k b/\e.1=X.knd.hash k
structure UC (X:SJ prog w K)(h:O8)(a:f')(o:G')(es:Array Sa.RJ)(ep:Nat)(t:QS)(ks:List K):Prop where
 ob:h.get? a=some o
 ex:o.ExactSet
 dt:o.data=.set es ep t
 full:Sa.Full t es
 Qk:t.place.size*5<t.mask*3
 pl:t.plain=true
 el:Pl (El X h) es.toList ks
 nd:ks.Nodup
theorem UC.fits (S:UC X s.heap a o es ep t ks):t.fits es.size=true:=by
 unfold QS.fits abL;rw[S.full.tab.nod,S.full.size];have:=S.Qk;rw[S.full.size] at this;simp;lia
theorem odd (h:Sa.Mk m):(m % 2==0)=false:=by rcases h with rfl|rfl|rfl|rfl|rfl|rfl <;> rfl
theorem xX (hx:X.knd.is s.heap k x):∀(l:List D') {Q:Bool->J'->Prop},(∀v∈l,∃b k',v=.ref b/\X.knd.is s.heap k' b)->Q false s->O7 (Pb prog w) A (searchCouldBeSeen (.ref x) l) Q E s:=by
 intro l Q m h;unfold searchCouldBeSeen;refine O4 (Uv _ (λrest r f=>r.1=none/\f=s/\∀v∈rest,∃b k',v=.ref b/\X.knd.is s.heap k' b) _ ?turn ?fin _ _ ⟨rfl,rfl,m⟩)
 case turn=>
  rintro v rest ⟨p,o⟩ f ⟨d,e,g⟩;simp only at d;subst e d;obtain⟨b,k',rfl,j⟩:=g v Px;have c:∀u∈rest,∃b k',u=.ref b/\X.knd.is f.heap k' b:=λu n=>g u (PU _ n);dsimp only
  by_cases z:((x==b)||(carriedByValue (.ref x)&&carriedByValue (.ref b)))=true
  .rw[Pf z];exact Pa ⟨rfl,rfl,c⟩
  .rw[O9 z];refine O4 (X.knd.quiet hx ?_);simp only[T',QY,if_false];refine O4 (X.knd.quiet j ?_);simp only[T',QY,if_false];refine O4 (X.Y0 hx ?_);simp only[QY,if_false];refine O4 (X.Y0 j ?_);simp only[QY,if_false];exact Pa ⟨rfl,rfl,c⟩
 case fin=>
  rintro⟨p,o⟩ f ⟨d,e,_⟩;simp only at d;subst e d;exact Pa h
end
section
variable {prog:Pk}{w:Pd}{K:Type} [DecidableEq K] {A:Pz}{E:D'->J'->Prop}{s:J'}{X:SJ prog w K}{a:f'}{o:G'}{es:Array Sa.RJ}{ep:Nat}{t:QS}{ks:List K}
theorem Dt (S:UC X s.heap a o es ep t ks){i j:Nat}(h:t.place[i]?=some j):∃e k,es[i]?=some e/\ks[i]?=some k/\El X s.heap e k:=by
 have b:i<es.size:=by
  have:=(Wl.mp h).1;rw[S.full.size] at this;exact this
 obtain⟨k,c,el⟩:=bS (i:=i) (a:=es[i]) S.el (by simp[b]);exact⟨es[i],k,U7 b,c,el⟩
theorem Gp (S:UC X s.heap a o es ep t ks)(hk:k∈ks)(hN:(Sa.PV t (X.knd.hash k) N).j∉t.place.toList):∃(n i:Nat),n<N/\t.place[i]?=some (Sa.PV t (X.knd.hash k) n).j/\ks[i]?=some k:=by
 obtain⟨i,u,e⟩:=abl.mp hk;have d:ks[i]?=some k:=by rw[Qu u,e]
 obtain⟨el,c,b,x,w,v⟩:=fc S.el d;have g:es[i]?=some el:=by rw[<-Wq];exact c
 have l:i<t.place.size:=by
  rw[S.full.size];exact(Wl.mp g).1
 have p:t.place[i]?=some t.place[i]:=U7 l;have hz:(t.place[i],el)∈t.place.toList.zip es.toList:=by
  rw[aah];refine⟨i,?_⟩;rw[List.getElem?_zip_eq_some];exact⟨by simpa using p,c⟩
 obtain⟨n,f,m⟩:=(S.full.reach _ hz).at;have h:el.1=X.knd.hash k:=v;dsimp only at f m;rw[h] at f m;refine⟨n,i,?_,by rw[f];exact p,d⟩;rcases ZR n N with z|z|z
 .exact z
 .subst z;rw[f] at hN;exact Pp (by simp) hN
 .exact Pp (m N z) hN
theorem vE (S:UC X s.heap a o es ep t ks)(hr:X.knd.room A)(hb:X.knd.is s.heap k b)(hN:(Sa.PV t (X.knd.hash k) N).j∉t.place.toList)(Qf:∀m,m<N->(Sa.PV t (X.knd.hash k) m).j∈t.place.toList)(agV:N<10*(t.mask+14))(h1:k∈ks->Q (.there none) s)(h2:k∉ks->Q (.free (Sa.PV t (X.knd.hash k) N).j false) s):
  ∀d m fuel (st:Option Probe),N-m=d->m<=N->d<fuel->st.getD (t.probeStart (X.knd.hash k))=Sa.PV t (X.knd.hash k) m->(∀q,q<m->∀i:Nat,t.place[i]?=some (Sa.PV t (X.knd.hash k) q).j->ks[i]?≠some k)->
   O7 (Pb prog w) A (setSearchFrom a (.ref b) (X.knd.hash k) true fuel st) Q E s:=by
 intro d
 induction d using Nat.strongRecOn with
 | ind d ih=>
  intro m fuel st hd T hf X' pre
  obtain⟨fuel,rfl⟩:∃f,fuel=f+1:=⟨fuel-1,by lia⟩
  rw[Ab]
  refine O4 (VF S.ob S.dt S.fits ?_)
  dsimp only
  rw[O9 (by unfold QS.gaveWay;rw[odd S.full.tab.QG];exact Rt)]
  obtain⟨g,a1,a2,Y,a4⟩:=wm (H:=λi=>(es[i]?.map (·.1)).getD 0) S.full.tab hN Qf (10*turns t.mask) m T (by unfold turns;lia)
  have M:∀q,m<=q->q<g->∀i:Nat,t.place[i]?=some (Sa.PV t (X.knd.hash k) q).j->ks[i]?≠some k:=λq Z F i l z=>by
   obtain⟨e,O,D,C,_,_,_,u⟩:=Dt S l
   have:=a4 q Z F i l
   rw[C] at z
   cases z
   simp[D] at this
   exact this u
  rw[X']
  unfold probe
  rcases Y with⟨U,J⟩|⟨lt,i,l,hh,J⟩
  .rw[J]
   subst U
   refine Pa (h2 λhk=>?_)
   obtain⟨n,i,n1,L,P⟩:=Gp S hk hN
   rcases RZ n m with z|z
   .exact pre n z i L P
   .exact M n z n1 i L P
  .rw[J]
   obtain⟨e,O,D,C,c,u,c4,c5⟩:=Dt S l
   obtain⟨eh,ev⟩:=e
   dsimp only at u c5
   subst u
   dsimp only
   have body:O7 (Pb prog w) A (do
     let some (_,y):=es[i]? | unsupported "internal:set-entry"
     let equal <-holding [y] (eqBool y (.ref b))
     let (R3,_,t') <-setState a
     if true&&equal then return .there none
     let some same:=t'.sameMemory t.moves t.mask|unsupported "set.changed-during-lookup:is-the-new-block-at-the-old-address"
     let acl <-match (if same then t'.slot (Sa.PV t (X.knd.hash k) g).j else .empty) with
      | .live h=>match R3[h]? with
       | some (_,y')=>do pure (if <-isSame y' y then some h else none)
       | none=>pure none
      | _=>pure none
     match acl with
     | none=>rule "set.search.anew";setSearchFrom a (.ref b) (X.knd.hash k) true fuel none
     | some h=>if equal then return .there (some h) else setSearchFrom a (.ref b) (X.knd.hash k) true fuel (some (Sa.PV t (X.knd.hash k) (g+1)))) Q E s:=by
    rw[D]
    dsimp only
    refine O4 (RY (X.knd.eqBool hr c4 hb (O4 (VF S.ob S.dt S.fits ?_))))
    dsimp only
    by_cases z:O=k
    .subst z
     rw[P7 rfl]
     exact Pa (h1 (QF C))
    .rw[P8 z]
     simp only[adG,QY,if_false]
     have sm:t.sameMemory t.moves t.mask=some true:=by unfold sameMemory;simp
     rw[sm]
     dsimp only
     rw[Pf rfl,Sa.Z8 S.full.tab l]
     dsimp only
     rw[D]
     dsimp only
     refine O4 (wpAny_isSame_ref_self (O4 (Pa ?_)))
     rw[Pf rfl]
     dsimp only
     refine ih (N-(g+1)) (by lia) (g+1) fuel _ rfl (by lia) (by lia) rfl λq hq h G=>?_
     rcases RZ q m with y|y
     .exact pre q y h G
     .rcases RZ q g with x|x
      .exact M q y x h G
      .obtain rfl:q=g:=by lia
       have e1:=Sa.Z8 S.full.tab l
       have p:=Sa.Z8 S.full.tab G
       rw[e1] at p
       cases p
       rw[C]
       intro w'
       cases w'
       exact z rfl
   cases acz:t.led with
   | true=>
    simp only[acz,T',QY,if_false]
    exact body
   | false=>
    simp only[acz,Bool.not_false,if_true]
    refine O4 (xX hb _ (λv W=>?_) ?_)
    .obtain⟨x,R,rfl⟩:=P6.mp W
     have I:x∈es.toList:=by
      rw[Array.toList_filter] at R
      exact(So.mp R).1
     obtain⟨k2,_,F,p,g2,_⟩:=fg S.el x I
     exact⟨F,k2,p,g2⟩
    .simp only[QY,if_false]
     exact body
theorem Ac (S:UC X s.heap a o es ep t ks)(hr:X.knd.room A)(hb:X.knd.is s.heap k b)(h1:k∈ks->Q (.there none) s)(h2:k∉ks->∀N,(Sa.PV t (X.knd.hash k) N).j∉t.place.toList->(∀m,m<N->(Sa.PV t (X.knd.hash k) m).j∈t.place.toList)->Q (.free (Sa.PV t (X.knd.hash k) N).j false) s):O7 (Pb prog w) A (setSearch a (.ref b) (X.knd.hash k) true) Q E s:=by
 obtain⟨N,g,d,c⟩:=Sa.meets S.full.tab (X.knd.hash k) (by have:=S.Qk;lia);have h:t.mask<=255:=by rcases S.full.tab.QG with e|e|e|e|e|e <;> lia
 exact vE S hr hb d c g h1 (λz=>h2 z N d c) N 0 100000 none rfl (QN _) (by lia) rfl λq f=>Pp f (aav _)
end
theorem Ch (a:f')(x:D')(h:Int)(fuel:Nat):setAddHashedIn a x h (fuel+1)=(do
  let (aeh,_,t₀) <-setState a
  if byScan x aeh then
   match <-setAddByScan a x h aeh t₀ with
   | some added=>return added
   | none=>return <-setAddHashedIn a x h fuel
  let .free slot afM <-setSearch a x h (adding:=true)|return false
  let (es,_,t) <-setState a
  let (t,p):=t.put slot
  let byValue <-if t.plain then hashByValue 8 x else pure true
  let t:=if byValue then t else { t with plain:=false }
  storeSet a (QS.insertAt es p (h,x)) t
  if !afM&&t.tooFull then setRelay a (QS.grown (es.size+1))
  return true):=rfl
theorem Ci (a:f')(wanted:Nat):setRelay a wanted=(do
  let (es,_,t) <-setState a
  if QS.sizeAbove wanted > Pj then unsupported "set:memory"
  let (es,t) <-(do
   let some (t,order):=t.relaid (es.map (·.1)) wanted|unsupported "internal:set-table-without-room"
   let R3:=order.filterMap (es[·]?)
   if R3.size != es.size then unsupported "internal:set-table-lost-an-element"
   pure (R3,t):Sem (Array (Int×D')×QS))
  storeSet a es t):=rfl
theorem mH {α β:Type}{R:α->β->Prop}{l l':List α}(p:l'.Perm l):∀{m:List β},Pl R l m->∃m',Pl R l' m'/\m'.Perm m:=by
 induction p with
 | nil=>intro m r;exact⟨m,r,aaA _⟩
 | cons x _ o=>
  intro m r;cases r with
  | cons h t=>
   obtain⟨m',d,e⟩:=o t;exact⟨_,.cons h d,e.cons _⟩
 | swap x y l=>
  intro m r;cases r with
  | cons h1 t=>
   cases t with
   | cons h2 t=>exact⟨_,.cons h2 (.cons h1 t),afJ _ _ _⟩
 | trans _ _ b c=>
  intro m r;obtain⟨u,g,n⟩:=c r;obtain⟨j,f,s⟩:=b g;exact⟨j,f,s.trans n⟩
section
variable {prog:Pk}{w:Pd}{K:Type} [DecidableEq K] {A:Pz}{E:D'->J'->Prop}{s:J'}{X:SJ prog w K}{a:f'}{o:G'}{es:Array Sa.RJ}{ep:Nat}{t:QS}{ks:List K}
theorem lV (x:El X h e k)(kp:∀b o,o.cls=.type "tuple"->h.get? b=some o->h'.get? b=some o):El X h' e k:=
 let ⟨b,e1,e2,e3⟩:=x;⟨b,e1,X.keep e2 kp,e3⟩
theorem qR {h:O8}(ho:h.get? a=some o)(hx:o.ExactSet)(hd:o.data=.set es ep t)(R3:Array Sa.RJ)(t':QS):
  (h.update a (YV R3 t')).get? a=some { o with data:=.set R3 (ep+1) t' }/\(∀b u,b≠a->h.get? b=some u->(h.update a (YV R3 t')).get? b=some u)/\∀b u,u.cls=.type "tuple"->h.get? b=some u->(h.update a (YV R3 t')).get? b=some u:=by
 have d:∀b u,b≠a->h.get? b=some u->(h.update a (YV R3 t')).get? b=some u:=λb u e q=>(YA _ _ (Qi e)).trans q;refine⟨?_,d,λb u c q=>d b u ?_ q⟩
 .have z:=ZG (YV R3 t') ho (by rw[putSet_of R3 t' hd];rfl);rw[putSet_of R3 t' hd] at z;exact z
 .rintro rfl;rw[ho] at q;cases q;rw[hx.1] at c;injection c with c
  exact Pp c (by decide)
def Kt (X:SJ prog w K)(a:f')(k:K)(ks:List K)(led:Bool)(h h':O8):Prop:=
 (∀b u,b≠a->h.get? b=some u->h'.get? b=some u)/\∃o es ep t TR,UC X h' a o es ep t TR/\t.led=led/\(k∈ks->TR=ks)/\(k∉ks->TR.Perm (k::ks))
theorem Cj (ho:s.heap.get? a=some o)(hx:o.ExactSet)(hd:o.data=.set es ep t)(F:Sa.Full t es)(hle:t.place.size<=t.mask)(pl:t.plain=true)(el:Pl (El X s.heap) es.toList ks)(nd:ks.Nodup)(hM:Sa.Mk M)(hz:sizeAbove n=M+1)(hs:es.size*5<M*3)(h:∀h',(∀b u,b≠a->s.heap.get? b=some u->h'.get? b=some u)->(∃o es ep t' TR,UC X h' a o es ep t' TR/\t'.led=t.led/\TR.Perm ks)->Q () { s with heap:=h' }):O7 (Pb prog w) A (setRelay a n) Q E s:=by
 have p:t.fits es.size=true:=by
  unfold QS.fits abL;rw[F.tab.nod,F.size];rw[F.size] at hle;simp;exact hle
 rw[Ci];refine O4 (VF ho hd p ?_);dsimp only;have j:M<=255:=by rcases hM with e|e|e|e|e|e <;> lia
 rw[O9 (by rw[hz,PY];lia)];obtain⟨t',order,I,g,m,C,c,l,d⟩:=Sa.afN (mask:=M) (finger:=t.finger) (moves:=t.movedTo M) (led:=t.led) (plain:=t.plain) hM es (by lia);have G:t.relaid (es.map (·.1)) n=some (t',order):=by
  unfold relaid;rw[hz];exact I
 rw[G];dsimp only;have ne:((order.filterMap (es[·]?)).size != es.size)=false:=by rw[c];simp
 rw[ne];simp only[QY,if_false];refine O4 (Pa (wpAny_storeSet_of ho hd ?_ (by rw[c,PY];lia)));obtain⟨v,D,y⟩:=qR ho hx hd (order.filterMap (es[·]?)) t';obtain⟨TR,x,f⟩:=mH l el;refine h _ D ⟨_,_,_,t',TR,⟨v,hx,rfl,d,?_,by rw[m];exact pl,aJ (λ_ _ z=>lV z y) x,f.nodup_iff.mpr nd⟩,C,f⟩;rw[d.size,g,c];exact hs
theorem Gq (S:UC X s.heap a o es ep t ks)(hr:X.knd.room A)(hb:X.knd.is s.heap k b)(hl:ks.length<70)(h:∀h' f,Kt X a k ks t.led s.heap h'->Q f { s with heap:=h' }):O7 (Pb prog w) A (setAddHashed a (.ref b) (X.knd.hash k)) Q E s:=by
 unfold setAddHashed;refine RY ?_;show O7 _ _ (setAddHashedIn a (.ref b) (X.knd.hash k) (99999+1)) _ _ _;rw[Ch];refine O4 (VF S.ob S.dt S.fits ?_);dsimp only;have bs:byScan (.ref b) es=false:=by unfold byScan D'.scannable;rfl
 rw[bs];simp only[QY,if_false];have len:es.size=ks.length:=by rw[<-Ri];exact S.el.length
 refine O4 (Ac S hr hb (λm=>?_) λm N n1 Z=>?_)
 .exact Pa (h s.heap false ⟨λ_ _ _ q=>q,o,es,ep,t,ks,S,rfl,λ_=>rfl,λz=>Pp m z⟩)
 .dsimp only;refine O4 (VF S.ob S.dt S.fits ?_);dsimp only;obtain⟨p1,U,p3,L,C,J,p7⟩:=Sa.ad7 S.full.tab (Sa.PV t (X.knd.hash k) N).j;have v:=Sa.afL S.full (e:=(X.knd.hash k,.ref b)) n1 Z;dsimp only at v;obtain⟨bl,_,_⟩:=Sa.WV S.full.tab.rise (Sa.PV t (X.knd.hash k) N).j;have sz:=v.size;have fs:=S.full.size;have n:(insertAt es (t.put (Sa.PV t (X.knd.hash k) N).j).2 (X.knd.hash k,Qg b)).size=es.size+1:=Sa.ab9 _ _ (by rw[p1];lia);rw[C,S.pl];simp only[if_true];refine O4 (X.ν hb ?_);simp only[if_true];generalize (t.put (Sa.PV t (X.knd.hash k) N).j).1=t' at *;generalize (t.put (Sa.PV t (X.knd.hash k) N).j).2=p at *;refine O4 (wpAny_storeSet_of S.ob S.dt ?_ (by rw[n,PY];lia));obtain⟨P,T,R⟩:=qR S.ob S.ex S.dt (insertAt es p (X.knd.hash k,Qg b)) t';have d:Pl (El X (s.heap.update a (YV (insertAt es p (X.knd.hash k,Qg b)) t'))) (insertAt es p (X.knd.hash k,Qg b)).toList (ks.take p++k::ks.drop p):=by
   rw[Sa.XR];have l:=aJ (λ_ _ z=>lV z R) S.el;exact ck (sv p l) (.cons ⟨b,rfl,X.keep hb R,rfl⟩ (sx p l))
  have D:(ks.take p++k::ks.drop p).Perm (k::ks):=by
   refine List.perm_middle.trans ?_;rw[Wr]
  have g:(ks.take p++k::ks.drop p).Nodup:=D.nodup_iff.mpr (Td.mpr ⟨m,S.nd⟩);have Qk:=S.Qk;have y:t'.place.size<=t'.mask:=by rw[sz,n,U];lia
  have ps:t'.place.size=es.size+1:=by rw[sz,n]
  by_cases full:t'.tooFull=true
  .rw[Pf (by rw[full];rfl)];have full:t'.fill*5 >= t'.mask*3:=by simpa [afG] using full
   unfold abL at full;rw[L,ps,U] at full;simp only[Qv,WE,abR,Array.size_empty] at full;rw[fs] at Qk;have key:∃M,Sa.Mk M/\sizeAbove (grown (es.size+1))=M+1/\(es.size+1)*5<M*3:=by
    rcases S.full.tab.QG with e|e|e|e|e|e
    .rw[e] at Qk full;have:es.size=4:=by lia
     rw[this];exact⟨31,.inr (.inl rfl),by decide,by decide⟩
    .rw[e] at Qk full;have:es.size=18:=by lia
     rw[this];exact⟨127,.inr (.inr (.inl rfl)),by decide,by decide⟩
    .rw[e] at Qk full;lia
    .rw[e] at Qk full;have:es.size=8:=by lia
     rw[this];exact⟨63,.inr (.inr (.inr (.inr (.inl rfl)))),by decide,by decide⟩
    .rw[e] at Qk full;have:es.size=37:=by lia
     rw[this];exact⟨255,.inr (.inr (.inr (.inr (.inr rfl)))),by decide,by decide⟩
    .rw[e] at Qk full;lia
   obtain⟨M,m1,m2,m3⟩:=key;refine O4 (Cj (s:={ s with heap:=s.heap.update a (YV (insertAt es p (X.knd.hash k,Qg b)) t') }) P S.ex rfl v y (by rw[C,S.pl]) d g m1 m2 (by rw[n];exact m3) λh' k1 ⟨o2,I,F,Y,G,S2,l2,x⟩=>?_);exact Pa (h h' true ⟨λO u W q=>k1 O u W (T O u W q),o2,I,F,Y,G,S2,l2.trans J,λz=>Pp z m,λ_=>x.trans D⟩)
  .have c:t'.tooFull=false:=by simpa using full
   rw[O9 (by rw[c];simp)];refine Pa (h _ true ⟨T,_,_,_,t',_,⟨P,S.ex,rfl,v,?_,by rw[C,S.pl],d,g⟩,J,λz=>Pp z m,λ_=>D⟩);have c:¬t'.fill*5 >= t'.mask*3:=by simpa [afG] using c
   unfold abL at c;rw[L] at c;simp only[Qv,WE,abR,Array.size_empty] at c;lia
end
section
variable {prog:Pk}{w:Pd}{K:Type} [DecidableEq K] {A:Pz}{E:D'->J'->Prop}{X:SJ prog w K}
abbrev Ck (X:SJ prog w K)(h:O8)(v:D')(k:K):Prop:=∃b,v=Qg b/\X.knd.is h k b
structure aa1 (X:SJ prog w K)(h:O8)(S:f')(keys:List K)(led:Bool):Prop where
 ex:∃o es ep t ks,UC X h S o es ep t ks/\(∀k,k∈ks↔k∈keys)/\t.led=led
theorem Cm {led:Bool}(hh:A.in1.handled=none)(hr:X.knd.room A.in1)(hI:I≠l)(hSI:S≠I)(hSl:S≠l)(p:Pl (Ck X h0) items.toList keys)(hl:∀js:List K,js.Nodup->(∀x∈js,x∈keys)->js.length<70):
  ∀(d i:Nat) (s:J'),items.size-i=d->i<=items.size->(s.heap.IsListIter I l i/\s.heap.IsList l items)->(∀b o,b≠S->b≠I->h0.get? b=some o->s.heap.get? b=some o)->(∀b o,h0.get? b=some o->b≠S/\b≠I)->
   aa1 X s.heap S (keys.take i) led->
   (∀h' tk,(∀b o,b≠S->b≠I->s.heap.get? b=some o->h'.get? b=some o)->aa1 X h' S keys led->R (.ok (.ret .none)) { s with heap:=h',toks:=tk })->
   codeAny (Pb prog w) A (.builtin "set.update.loop" ⟨[.ref S,.ref I],[]⟩) R s:=by
 have W:=Walks.list (prog:=prog) (w:=w) hh I l (Qi hI) items;have kl:items.size=keys.length:=by rw[<-Ri];exact p.length
 intro d
 induction d with
 | zero=>
  intro i s hd hi st kp M F h;obtain rfl:i=items.size:=by lia
  refine UN aeJ ?_;rw[XA acG _];show O7 _ A.in1 (pyNext (.ref I) >>= _) _ _ s;refine O4 (W.done s _ _ st λh' tk k1=>?_);show O7 _ A.in1 (ret Ua) _ _ _;have up:∀b o,b≠I->s.heap.get? b=some o->h'.get? b=some o:=λb o C e=>k1 b o (by simpa using C) e;refine Pa (h h' tk (λb o _ C e=>up b o C e) ?_);obtain⟨o,es,ep,t,D,c,m,Q⟩:=F;rw[kl,SD] at m;refine⟨o,es,ep,t,D,⟨up S o hSI c.ob,c.ex,c.dt,c.full,c.Qk,c.pl,aJ (λ_ _ z=>lV z λb u n q=>?_) c.el,c.nd⟩,m,Q⟩;refine up b u ?_ q;rintro rfl;obtain⟨⟨O,E,L,_⟩,_⟩:=st;rw[E] at q;cases q;rw[L] at n;injection n with n
  exact Pp n (by decide)
 | succ d ih=>
  intro i s hd hi st kp M F h;have Qf:i<items.size:=by lia
  refine UN aeJ ?_;rw[XA acG _];show O7 _ A.in1 (pyNext (.ref I) >>= _) _ _ s;refine O4 (W.item i s _ _ Qf st λv P tk hv U k1=>?_);have up:∀b o,b≠I->s.heap.get? b=some o->P.get? b=some o:=λb o C e=>k1 b o (by simpa using C) e;obtain⟨k,hk,b,rfl,C⟩:=bS (i:=i) (a:=v) p (by rw[Wq];exact hv);have J:X.knd.is P k b:=X.keep C λg j _ q=>up g j (M g j q).2 (kp g j (M g j q).1 (M g j q).2 q);obtain⟨o,es,ep,t,D,c,m,Q⟩:=F;have S2:UC X P S o es ep t D:=⟨up S o hSI c.ob,c.ex,c.dt,c.full,c.Qk,c.pl,aJ (λ_ _ z=>lV z λg u n q=>up g u (by
   rintro rfl;obtain⟨⟨O,E,L,_⟩,_⟩:=st;rw[E] at q;cases q;rw[L] at n;injection n with n
   exact Pp n (by decide)) q) c.el,c.nd⟩
  show O7 _ A.in1 (holding [Qg b] (setAdd S (.ref b)) >>= _) _ _ _;refine O4 (RY ?_);unfold setAdd;refine RY (O4 (X.knd.pyHash hr J ?_));have Qk:D.length<70:=hl D c.nd λx hx=>ac5 ((m x).mp hx);refine Gq (s:={ s with heap:=P,toks:=tk+X.knd.draws k }) S2 hr J Qk λh2 f PX=>?_;obtain⟨k2,o2,es2,Y,t2,Z,S3,ld2,q1,q2⟩:=PX;refine Pa ⟨aaC acG _,ih (i+1) _ (by lia) (by lia) ?_ (λg j N G q=>k2 g j N (up g j G (kp g j N G q))) M ⟨o2,es2,Y,t2,Z,S3,λx=>?_,ld2.trans Q⟩ λh3 T k3 F3=>?_⟩
  .obtain⟨⟨O,E,L⟩,ol,el,cl⟩:=U;exact⟨⟨O,k2 I O (Qi hSI) E,L⟩,ol,k2 l ol (Qi hSl) el,cl⟩
  .rw[YG,hk,QJ];simp only[abo,Qw]
   by_cases z:k∈D
   .rw[q1 z,m x];constructor
    .exact .inl
    .rintro(y|rfl)
     .exact y
     .exact(m _).mp z
   .rw[(q2 z).mem_iff,PN,m x];exact or_comm
  .exact h h3 T (λg j N G q=>k3 g j N G (k2 g j N (up g j G q))) F3
theorem Ad {led:Bool}(e:h.get? S=some { cls:=.type "set",dict:=none,data:=.set #[] 0 (.fresh 0 0 led) }):aa1 X h S [] led:=
 ⟨_,#[],0,.fresh 0 0 led,[],⟨e,⟨rfl,rfl,rfl⟩,rfl,⟨⟨.inl rfl,ZQ,λj c=>(UM c).elim,rfl⟩,rfl,λx b=>(UM b).elim⟩,(by show 0*5<7*3;decide),rfl,.nil,YO⟩,λ_=>Iff.rfl,rfl⟩
noncomputable abbrev dZ (led:Bool):G':={ cls:=.type "set",dict:=none,data:=.set #[] 0 (.fresh 0 0 led) }
noncomputable abbrev jL (w:Pd):Bool:=!(w.params.followText "set-order")
theorem EI (h:Q₁ (.ref s.heap.objs.size) { s with heap:=s.heap.push (dZ (jL w)) }):
  codeAny (Pb prog w) A (.call (.builtin "set.__new__") ⟨[.type "set",x],[]⟩) (wants Q₁ E) s:=by
 refine adA (O4 (abX (PySem.F.newCall_set_1 x) (Pa ⟨aaC afe _,UN PySem.F.entry_set_new ?_⟩)));rw[XA afe _];have b:=sub_set_self;unfold Tf.«set.__new__» Tf.Frozenset.newClass;obtain⟨c,g,d,e,os⟩:=s;dsimp only at h ⊢;wp_walk;refine aby (Pa ?_)
 dsimp only;simp only[newObj];exact O4 (wpAny_alloc (Pa (Pa h)))
theorem Gr (h:O7 (Pb prog w) A.in1.in1 (Tf.«set.__init__» ⟨[.ref s.heap.objs.size,x],[]⟩) (λfin s'=>∃r,fin=.done (.ret r)/\r=.none/\Q (.ref s.heap.objs.size) s') E { s with heap:=s.heap.push (dZ (jL w)) }):
  O7 (Pb prog w) A (call (.type "set") [x]) Q E s:=by
 have T:=PySem.F.called_set;obtain⟨c,n,l⟩:=T.mro;have C:=T.made;have t:=T.sub;have o:=T.notType;have v:=T.canCreate;have u:=PySem.F.typeCall_set_1 x;refine ab3 (adA (Pa ⟨ada _ (by decide +kernel),UN PySem.F.entry_type_call ?_⟩));rw[Pz.under_plain (weight_type_call_type "set" [x] []) rfl]
 repeat (any_goals (first|assumption|wp_step))
 refine XJ (EI (x:=x) (E:=E) (Q₁:=λobj f=>obj=.ref s.heap.objs.size/\f={ s with heap:=s.heap.push (dZ (jL w)) }) ⟨rfl,rfl⟩) λr f q=>?_
 match r,q with
 | .error e,q=>exact q
 | .ok (.ret obj),⟨m,j⟩=>
  subst m j;have ty:J'.TypeIs { s with heap:=s.heap.push (dZ (jL w)) } (.ref s.heap.objs.size) "set":=⟨_,QX _ rfl,rfl⟩
  have p:=T.init.lookup;have y:=T.init.bind (.ref s.heap.objs.size)
  repeat (any_goals (first|assumption|wp_step))
  refine XJ (ac4 (R:=wants (λr g=>r=.none/\Q (.ref s.heap.objs.size) g) E) T.init.plain PySem.F.entry_set_init (check_set_init_1 ty (UQ h (λfin s' ⟨r,e,z⟩=>?_) λ_ _ z=>z))) λd g b=>?_
  .subst e;exact z
  .match d,b with
   | .error e,b=>exact b
   | .ok (.ret r),⟨e3,b⟩=>
    subst e3
    repeat (any_goals (first|assumption|wp_step))
end
section
variable {prog:Pk}{w:Pd}{K:Type} [DecidableEq K] {A:Pz}{E:D'->J'->Prop}{X:SJ prog w K}{s:J'}
theorem vF (hh:A.handled=none)(hr:X.knd.room A.in1.in1.in1)(hl:s.heap.IsList l items)(p:Pl (Ck X s.heap) items.toList keys)(hn:∀js:List K,js.Nodup->(∀x∈js,x∈keys)->js.length<70)(h:∀h' tk,(∀b o,s.heap.get? b=some o->h'.get? b=some o)->aa1 X h' s.heap.objs.size keys (jL w)->Q (.ref s.heap.objs.size) { s with heap:=h',toks:=tk }):O7 (Pb prog w) A (call (.type "set") [.ref l]) Q E s:=by
 refine Gr ?_;generalize D:jL w=led at h ⊢;obtain⟨⟨C,f,G,g⟩,n,u,v,c⟩:=hl;simp only at u c;subst u c;have lt:l<s.heap.objs.size:=P5 n;have y:(s.heap.push (dZ led)).get? s.heap.objs.size=some (dZ led):=QX _ rfl;have N:J'.TypeIs { s with heap:=s.heap.push (dZ led) } (.ref s.heap.objs.size) "set":=⟨_,y,rfl⟩
 have j:(s.heap.push (dZ led)).get? l=some { cls:=.type "list",dict:=f,data:=.seq items v,slots:=g }:=Qe _ n;have M:=PySem.F.sub_list_set;have J:=PySem.F.sub_list_frozenset;have L:(TD "list"==TD "dict")=false:=by decide
 have t:(s.heap.push (dZ led)).IsList l items:=⟨_,j,rfl,v,rfl⟩
 unfold Tf.«set.__init__» noKeywords Tf.Frozenset.updateFrom;generalize m:pyIter=PI;wp_walk;subst m;refine adg t (O4 (abH ?_));have d:(s.heap.push (dZ led)).objs.size=s.heap.objs.size+1:=YN ..;refine Cm (X:=X) (h0:=s.heap) (S:=s.heap.objs.size) (I:=(s.heap.push (dZ led)).objs.size) (l:=l) (items:=items) (keys:=keys) ?_ ?_ (by rw[d];exact XI (aao lt)) (by rw[d];exact Qs (ZS _)) (XI lt) p hn (items.size-0) 0 _ rfl (QN _)
  ⟨⟨_,QX _ rfl,rfl,rfl⟩,t.push _⟩ (λb o _ _ e=>Qe _ (Qe _ e)) (λb o e=>⟨Qs (P5 e),by rw[d];exact Qs (aao (P5 e))⟩)
  (Ad (led:=led) (Qe _ y)) λh' tk k1 F=>?_
 .simp[hh]
 .exact hr
 .refine Pa ?_;refine Pa ⟨_,rfl,rfl,h h' tk (λb o e=>?_) F⟩;exact k1 b o (Qs (P5 e)) (by rw[d];exact Qs (aao (P5 e))) (Qe _ (Qe _ e))
end
theorem uk (n:Nat)(tp:s.heap.IsTuple a items)(hv:∀v∈items.toList,∀(Q:Bool->J'->Prop),Q true s->O7 (Pb prog w) A (hashByValue n v) Q E s)(h:Q true s):
  O7 (Pb prog w) A (hashByValue (n+1) (.ref a)) Q E s:=by
 have l:=eK tp;obtain⟨o,f,m,p,hd⟩:=tp;unfold hashByValue;refine O4 (WJ l Wx.lookup ?_);refine O4 (aay f hd ?_);refine O4 ?_;show O7 _ _ (forIn items _ _) _ _ s;rw[<-aal];refine Uv _ (λrest r c=>r.1=none/\c=s/\∀v∈rest,v∈items.toList) _ ?turn ?fin _ _ ⟨rfl,rfl,λv hv=>hv⟩
 case turn=>
  rintro v rest ⟨j,g⟩ c ⟨b,e,all⟩;simp only at b;subst e b;refine O4 (hv v (all v Px) _ ?_);simp only[T',QY,if_false];exact Pa ⟨rfl,rfl,λu d=>all u (PU _ d)⟩
 case fin=>
  rintro⟨j,g⟩ c ⟨b,e,_⟩;simp only at b;subst e b;exact Pa h
theorem um (n:Nat)(tp:s.heap.IsTuple a items)(hv:∀v∈items.toList,∀(Q:Bool->J'->Prop),Q false s->O7 (Pb prog w) A (ofAClassStatement n v) Q E s)(h:Q false s):
  O7 (Pb prog w) A (ofAClassStatement (n+1) (.ref a)) Q E s:=by
 have l:=eK tp;obtain⟨o,f,m,p,hd⟩:=tp;unfold ofAClassStatement;refine O4 (XM l ?_);dsimp only;rw[Pf (by decide)];refine O4 (Pa ?_);simp only[T',QY,if_false];refine O4 (aay f hd ?_);dsimp only;refine O4 ?_;rw[<-aal];refine Uv _ (λrest r c=>r.1=none/\c=s/\∀v∈rest,v∈items.toList) _ ?turn ?fin _ _ ⟨rfl,rfl,λv hv=>hv⟩
 case turn=>
  rintro v rest ⟨j,g⟩ c ⟨b,e,all⟩;simp only at b;subst e b;refine O4 (hv v (all v Px) _ ?_);simp only[QY,if_false];exact Pa ⟨rfl,rfl,λu d=>all u (PU _ d)⟩
 case fin=>
  rintro⟨j,g⟩ c ⟨b,e,_⟩;simp only at b;subst e b;exact Pa h
theorem uo (n:Nat)(x:bJ s.heap ks a)(h:Q true s):O7 (Pb prog w) A (hashByValue (n+1) (.ref a)) Q E s:=by
 obtain⟨i,t,r⟩:=x;refine uk n t (λv b c q=>?_) h;obtain⟨k,_,t',e⟩:=fg r v b;subst e;cases n <;> exact Pa q
theorem uq (n:Nat)(x:bJ s.heap ks a)(h:Q false s):O7 (Pb prog w) A (ofAClassStatement (n+1) (.ref a)) Q E s:=by
 obtain⟨i,t,r⟩:=x;refine um n t (λv b c q=>?_) h;obtain⟨k,_,t',e⟩:=fg r v b;subst e;cases n <;> exact Pa q
theorem Ae (n:Nat)(x:dc s.heap PM a)(h:Q true s):O7 (Pb prog w) A (hashByValue (n+2) (.ref a)) Q E s:=by
 obtain⟨i,t,r⟩:=x;refine uk (n+1) t (λv c f q=>?_) h;obtain⟨d,_,b,e,g⟩:=fg r v c;subst e;exact uo n g q
theorem Af (n:Nat)(x:dc s.heap PM a)(h:Q false s):O7 (Pb prog w) A (ofAClassStatement (n+2) (.ref a)) Q E s:=by
 obtain⟨i,t,r⟩:=x;refine um (n+1) t (λv c f q=>?_) h;obtain⟨d,_,b,e,g⟩:=fg r v c;subst e;exact uq n g q
theorem mY (x:bJ h ks a)(k:∀b o,o.cls=.type "tuple"->h.get? b=some o->h'.get? b=some o):bJ h' ks a:=by
 obtain⟨i,⟨o,e,c,n,d⟩,r⟩:=x;exact⟨i,⟨o,k _ _ c e,c,n,d⟩,r⟩
theorem Ag (x:dc h PM a)(k:∀b o,o.cls=.type "tuple"->h.get? b=some o->h'.get? b=some o):dc h' PM a:=by
 obtain⟨i,⟨o,e,c,n,d⟩,r⟩:=x;exact⟨i,⟨o,k _ _ c e,c,n,d⟩,aJ (λ_ _ ⟨b,e,q⟩=>⟨b,e,mY q k⟩) r⟩
noncomputable def Gs (prog)(w):HeapKind prog w (List Int) where
 is:=bJ
 hash:=cM
 draws:=λks=>ks.length+1
 room:=λA=>A.units<PK
 inj:=λp q=>p.inj q
 keeps:=λp ho hd hs=>p.keeps ho hd hs
 pyHash:=λhu hk h=>kB hu hk h
 eqBool:=λhu hx hy h=>xS hu hx hy _ _ _ _ h
 quiet:=λhk h=>mV 7 hk h
noncomputable def itE (prog)(w):SJ prog w (List Int) where
 knd:=Gs prog w
 ν:=λhk h=>uo 7 hk h
 Y0:=λhk h=>uq 7 hk h
 keep:=λhk k=>mY hk k
noncomputable def Ku (prog)(w):SJ prog w (List (List Int)) where
 knd:=im prog w
 ν:=λhk h=>Ae 6 hk h
 Y0:=λhk h=>Af 6 hk h
 keep:=λhk k=>Ag hk k
theorem eO:Slot "set_iterator" "__next__" "set_iterator.__next__":=
 .of (owner:="set_iterator") (n:="__next__") (by rw[typeLookup_type,builtinLookup_eq_fast];kernel_rfl) (by decide +kernel) (by decide +kernel) (by decide +kernel)
  (by first|exact .inl (by decide +kernel)|exact .inr (by decide +kernel)) (by rw[adI];kernel_rfl)
theorem mI:entryFor table "set_iterator.__next__"=some Tf.«set_iterator.__next__»:=entryFor_of_tree (by kernel_rfl)
theorem oA (a):argsOk "set_iterator.__next__" ⟨[a],[]⟩:=by unfold argsOk;kernel_rfl
theorem iJ:Slot "set_iterator" "__iter__" "set_iterator.__iter__":=
 .of (owner:="set_iterator") (n:="__iter__") (by rw[typeLookup_type,builtinLookup_eq_fast];kernel_rfl) (by decide +kernel) (by decide +kernel) (by decide +kernel)
  (by first|exact .inl (by decide +kernel)|exact .inr (by decide +kernel)) (by rw[adI];kernel_rfl)
theorem pU:entryFor table "set.__iter__"=some Tf.«frozenset.__iter__»:=
 entryFor_alias (id':="frozenset.__iter__") (by kernel_rfl) rfl (by decide +kernel) (by kernel_rfl)
theorem oB {α:Type}:∀{l:List α}{i:Nat}(h:i<l.length),(l[i]::l.eraseIdx i).Perm l
 | [],_,h=>by simp at h
 | a::l,0,_=>aaA _
 | a::l,i+1,h=>by
  have h':i<l.length:=by simpa using h
  have b:=oB h';show(l[i]::a::l.eraseIdx i).Perm (a::l);exact(afJ a l[i] _).trans (b.cons a)
theorem wn {α:Type}(next:Nat->Nat):∀(fuel k:Nat) (left:List α) (out:Array α),fuel=left.length->(adW next fuel k left out).toList.Perm (out.toList++left)
 | 0,k,left,out,h=>by
  have:left=[]:=U9.mp h.symm;subst this;unfold adW;simp
 | fuel+1,k,left,out,h=>by
  have c:0<left.length:=by lia
  have b:next k % left.length<left.length:=Nat.mod_lt _ c;unfold adW;rw[Qu b];dsimp only;refine(wn next fuel (k+1) (left.eraseIdx (next k % left.length)) _ (by rw[List.length_eraseIdx_of_lt b];lia)).trans ?_;rw[Array.toList_push,XE];refine List.Perm.append_left _ ?_;exact oB b
theorem qT {α:Type}(next:Nat->Nat)(xs:Array α):(pickOrder next xs).toList.Perm xs.toList:=by
 have:=wn next xs.size 0 xs.toList #[] (by simp);simpa [pickOrder] using this
noncomputable abbrev e9 (w:Pd):Bool:=w.params.followText "set-order"
noncomputable def wo (w:Pd)(a:f')(ep:Nat)(es:Array Sa.RJ):Array Sa.RJ:=if e9 w=true then pickOrder (w.params.setOrder a ep) es else es
theorem wq (w)(a:f')(ep:Nat)(es):(wo w a ep es).toList.Perm es.toList:=by
 unfold wo
 split
 .exact qT _ _
 .exact aaA _
noncomputable def at_ (w:Pd)(t:QS)(i:Nat):Nat:=if e9 w=true then 0 else match i with
 | 0=>0
 | i+1=>t.place.getD i 0+1
structure χ (h:O8)(it a:f')(slot i n ep:Nat):Prop where
 ex:∃o,h.get? it=some o/\o.cls=.type "set_iterator"/\o.data=.fields #[.int slot 0,.int i 0,.ref a,.int n 0,.int ep 0]
structure Wk (w:Pd)(h:O8)(a:f')(es:Array Sa.RJ)(ep:Nat)(t:QS):Prop where
 ob:∃o,h.get? a=some o/\o.ExactSet/\o.data=.set es ep t
 rise:Sa.Vj t.place
 size:t.place.size=es.size
 fits:t.fits es.size=true
 pl:t.plain=true
 led:t.led=jL w
theorem ur (r:Sa.Vj t.place)(b:e9 w=false):∀i,i<=t.place.size->below t.place (at_ w t i)=i
 | 0,_=>by
  obtain⟨g,c,f⟩:=Sa.WV r (at_ w t 0);have e:at_ w t 0=0:=by unfold at_;rw[b];rfl
  rw[e] at c ⊢;rcases adc (below t.place 0) with z|z
  .exact z
  .have:=(Sa.WV r 0).2.1 0 z (by have:=(Sa.WV r 0).1;lia);lia
 | i+1,h=>by
  have d:i<t.place.size:=by lia
  have e:at_ w t (i+1)=t.place[i]+1:=by
   unfold at_;rw[b];simp[TF,d]
  rw[e];obtain⟨g,c,f⟩:=Sa.WV r (t.place[i]+1);rcases ZR (below t.place (t.place[i]+1)) (i+1) with z|z|z
  .have:=f i (by lia) d;lia
  .exact z
  .have hz:i+1<t.place.size:=by lia
   have j:=c (i+1) z hz;have l:=Sa.aaN r (show i<i+1 by lia) hz;lia
theorem oC (a:f')(slot given ep:Nat):setNext a slot given ep=(do
  let (es,acm,t) <-setState a
  if <-setsByText then
   if acm != ep then unsupported "set_iterator.__next__:elements-changed"
   return ((<-setWalk a)[given]?).map λe=>(e.2,slot)
  if (!t.plain&&es.size > 1:Bool) then unsupported "set_iterator.__next__:the-table-is-plain-no-more"
  (do if !t.led&&!es.isEmpty then unsupported "set:maker-not-led":Sem Unit)
  let i:=QS.below t.place slot
  return match es[i]?,t.place[i]? with
   | some (_,x),some j=>some (x,j+1)
   | _,_=>none):=rfl
theorem oE (a:f'):setWalk a=(do
  let (es,acm,t) <-setState a
  if <-setsByText then return pickOrder ((<-ask).params.setOrder a acm) es
  if (!t.plain&&es.size > 1:Bool) then return (<-drawOrder es.size es.toList).toArray
  (do if !t.led&&es.size > 1 then unsupported "set:maker-not-led":Sem Unit)
  return es):=rfl
theorem gy (h:Q (e9 w) s):O7 (Pb prog w) A setsByText Q E s:=by
 unfold setsByText;exact O4 (aby (Pa h))
theorem Ah (W:Wk w s.heap a es ep t)(he:(wo w a ep es)[i]?=some e)(h:Q (some (e.2,at_ w t (i+1))) s):O7 (Pb prog w) A (setNext a (at_ w t i) i ep) Q E s:=by
 obtain⟨o,g,m,hd⟩:=W.ob;rw[oC];refine O4 (VF g hd W.fits (O4 (gy ?_)));dsimp only;cases b:e9 w with
 | true=>
  simp only[if_true,bne_self_eq_false,QY,if_false];rw[oE];refine O4 (O4 (VF g hd W.fits (O4 (gy ?_))));simp only[b,if_true];refine O4 (aby (Pa ?_));refine Pa ?_;have d:(pickOrder (w.params.setOrder a ep) es)[i]?=some e:=by unfold wo at he;rw[b] at he;exact he
  show Q (Option.map _ (pickOrder (w.params.setOrder a ep) es)[i]?) s;rw[d];have f:at_ w t i=at_ w t (i+1):=by unfold at_;rw[b];rfl
  show Q (some (e.2,at_ w t i)) s;rw[f];exact h
 | false=>
  have d:es[i]?=some e:=by unfold wo at he;rw[b] at he;exact he
  have l:i<es.size:=(Wl.mp d).1;have c:i<t.place.size:=by rw[W.size];exact l
  have j:t.led=true:=by rw[W.led];show(!e9 w)=true;rw[b];rfl
  simp only[QY,if_false,W.pl,T',abF,j];rw[ur W.rise b i (by lia)];refine Pa ?_;rw[d,U7 c];have f:at_ w t (i+1)=t.place[i]+1:=by unfold at_;rw[b];simp[TF,c]
  rw[f] at h;exact h
theorem Ai (W:Wk w s.heap a es ep t)(h:Q none s):O7 (Pb prog w) A (setNext a (at_ w t es.size) es.size ep) Q E s:=by
 obtain⟨o,c,f,hd⟩:=W.ob;rw[oC];refine O4 (VF c hd W.fits (O4 (gy ?_)));dsimp only;cases b:e9 w with
 | true=>
  simp only[if_true,bne_self_eq_false,QY,if_false];rw[oE];refine O4 (O4 (VF c hd W.fits (O4 (gy ?_))));simp only[b,if_true];refine O4 (aby (Pa ?_));refine Pa ?_;have e:(pickOrder (w.params.setOrder a ep) es)[es.size]?=none:=by
   refine aag ?_;rw[<-Ri,(qT _ _).length_eq,Ri];exact Po _
  show Q (Option.map _ (pickOrder (w.params.setOrder a ep) es)[es.size]?) s;rw[e];exact h
 | false=>
  have d:t.led=true:=by rw[W.led];show(!e9 w)=true;rw[b];rfl
  simp only[QY,if_false,W.pl,T',abF,d];rw[ur W.rise b es.size (by rw[W.size];exact Po _)];refine Pa ?_;rw[aag (Po _)];exact h
theorem fj {s:J'}{it:f'}{a:f'}{ep:Nat}{i:Nat}{slot n:Nat}(I:χ s.heap it a slot i n ep):s.TypeIs (.ref it) "set_iterator":=let ⟨o,e,c,_⟩:=I.ex;⟨o,e,c⟩
theorem xY (W:Wk w s.heap a es ep t)(I:χ s.heap it a (at_ w t i) i es.size ep)(he:(wo w a ep es)[i]?=some e)(h:∀h',χ h' it a (at_ w t (i+1)) (i+1) es.size ep->Tz it s.heap h'->Q (some e.2) { s with heap:=h' }):O7 (Pb prog w) A (pyNext (.ref it)) Q E s:=by
 obtain⟨o,n,u,hd⟩:=W.ob;obtain⟨l,g,m,d⟩:=I.ex;unfold pyNext;refine O4 (adP (Xz (name:=TB "__next__") (fj I) eO (Tc eO (fj I) mI ?_ (oA _))));unfold Tf.«set_iterator.__next__»;refine O4 (Pa ?_);refine O4 (wpAny_fieldsOf g d ?_);dsimp only;refine O4 (ac8 n hd W.fits ?_);rw[O9 (by simp)];refine O4 ?_;show O7 _ _ (setNext a (at_ w t i) i ep) _ _ _;refine Ah W he ?_;dsimp only;have p:G'.isFreed l=G'.isFreed l:=rfl;refine O4 (aaz g d (by simp) ?_);have c:=ZG (abK (·.setIfInBounds 0 (rawInt ((at_ w t (i+1):Nat):Int)))) g (ac2 (ZM d _));have b:=ZM d (·.setIfInBounds 0 (rawInt ((at_ w t (i+1):Nat):Int)));refine O4 (aaz (s:={ s with heap:=s.heap.update it (abK (·.setIfInBounds 0 (rawInt ((at_ w t (i+1):Nat):Int)))) }) c b (by simp) ?_);have j:=ZG (abK (·.setIfInBounds 1 (rawInt ((i:Int)+1)))) c (ac2 (ZM b _));have f:=ZM b (·.setIfInBounds 1 (rawInt ((i:Int)+1)));refine Pa ⟨_,rfl,Pa (h _ ⟨_,j,?_,?_⟩ ((XB ..).trans (XB ..)))⟩
 .rw[adi,adi];exact m
 .rw[f];simp[rawInt]
theorem Aj (hh:A.handled=none)(W:Wk w s.heap a es ep t)(I:χ s.heap it a (at_ w t es.size) es.size es.size ep)(h:∀h',O8.ExtBut it s.heap h'->Q none { s with heap:=h' }):O7 (Pb prog w) A (pyNext (.ref it)) Q E s:=by
 obtain⟨o,e,g,hd⟩:=W.ob;obtain⟨j,d,f,c⟩:=I.ex;unfold pyNext;refine O4 (adP (Xz (name:=TB "__next__") (fj I) eO (Tc eO (fj I) mI ?_ (oA _))));unfold Tf.«set_iterator.__next__»;refine O4 (Pa ?_);refine O4 (wpAny_fieldsOf d c ?_);dsimp only;refine O4 (ac8 e hd W.fits ?_);rw[O9 (by simp)];refine O4 ?_;show O7 _ _ (setNext a (at_ w t es.size) es.size ep) _ _ _;refine Ai W ?_;dsimp only;refine O4 (aaz d c (by simp) (O4 ?_));simp only[newExc,newTuple];refine O4 (Uu (O4 (m:=firstArgMember _ _) (abX (a:=Ua) (by first|rfl|(simp only[firstArgMember];rfl)) (Uu ?_ (by size_fits)))) (by size_fits));simp only[raiseNew];refine O4 (wpAny_handled ?_);rw[show A.in1.handled=none from hh];refine O4 (Pa (wpAny_throw ?_));refine O4 (adp (T:="StopIteration") (b:=true) ⟨_,QX _ rfl,rfl⟩ isSubtype_stop ?_);rw[Pf rfl];exact Pa (h _ (((XB ..).extBut.push _).push _))
theorem Ak (W:Wk w s.heap a es ep t)(h:Q (.ref s.heap.objs.size) { s with heap:=s.heap.push { cls:=.type "set_iterator",data:=.fields #[.int 0 0,.int 0 0,.ref a,.int es.size 0,.int ep 0] } }):O7 (Pb prog w) A (pyIter (.ref a)) Q E s:=by
 obtain⟨o,b,e,hd⟩:=W.ob;have c:s.TypeIs (.ref a) "set":=⟨o,b,e.1⟩
 refine wpAny_pyIter_slot c aff (Tc aff c pU ?_ (PySem.F.args_set_iter_1 _));unfold Tf.«frozenset.__iter__» Tf.Frozenset.slot0 slotArgs;simp only[List.isEmpty_nil,T',QY,↓reduceIte,bind_assoc,WE,bne_self_eq_false];unfold Tf.Frozenset.addrOf Tf.Frozenset.sizeOf;refine O4 (Pa ?_)
 try dsimp only
 refine O4 (Pa ?_);refine O4 (O4 (ac8 b hd W.fits (Pa ?_)));unfold setDrawn;refine O4 (O4 (VF b hd W.fits (O4 (gy (Pa ?_)))));have d:(!e9 w&&(!t.plain&&decide (es.size > 1)))=false:=by rw[W.pl];simp
 show O7 _ _ (if (!e9 w&&(!t.plain&&decide (es.size > 1)))=true then _ else _) _ _ _;rw[d,O9 Rt];refine O4 (Pa ?_);refine O4 (wpAny_setEpoch_of b hd W.fits ?_);simp only[newFields];refine O4 (Uu ?_ (by size_fits));exact Pa ⟨_,rfl,"set_iterator",_,⟨_,QX _ rfl,rfl⟩,eO.lookup,h⟩
theorem mZ:entryFor table "set_iterator.__iter__"=some Tf.«dict_keyiterator.__iter__»:=
 entryFor_alias (id':="dict_keyiterator.__iter__") (by kernel_rfl) rfl (by decide +kernel) (by kernel_rfl)
theorem oG (a):argsOk "set_iterator.__iter__" ⟨[a],[]⟩:=by unfold argsOk;kernel_rfl
theorem Cn (hT:s.TypeIs (.ref a) "set")(h:Q false s):O7 (Pb prog w) A (aeR (.ref a)) Q E s:=by
 unfold aeR;refine O4 (WJ hT PySem.F.slot_set_len.lookup ?_);generalize e:("set.__len__":String)=id;wp_delta;rw[show splitId id=some ("set","__len__") from by subst e;decide +kernel];subst e;refine O4 (adp (T:="set") (b:=true) hT (by rw[adI];kernel_rfl) ?_);refine wpAny_ite_split (λz=>Pp z (by decide)) λ_=>wpAny_ite_split (λ_=>O4 (XM hT (Pa h))) λz=>Pp (by decide +kernel) z
theorem Wk.keep (W:Wk w h a es ep t)(k:∀o,h.get? a=some o->h'.get? a=some o):Wk w h' a es ep t:=
 let ⟨o,e,r⟩:=W.ob;⟨⟨o,k o e,r⟩,W.rise,W.size,W.fits,W.pl,W.led⟩
theorem wr:(wo w a ep es).size=es.size:=by rw[<-Ri,(wq w a ep es).length_eq,Ri]
theorem Al (hh:A.handled=none)(QB:a≠it):Walks prog w A it [it,a] [it] es.size (λi v=>∃e,(wo w a ep es)[i]?=some e/\v=e.2) (λi h=>χ h it a (at_ w t i) i es.size ep/\Wk w h a es ep t) where
 sub:=λb c=>by simp at c;simp[c]
 frame:=λ_ _ _ st g=>⟨⟨let ⟨o,e,r⟩:=st.1.ex;⟨o,g it (by simp) o e,r⟩⟩,st.2.keep λo e=>g a (by simp) o e⟩
 item:=λi s Q E j st d=>by
  have f:i<(wo w a ep es).size:=by rw[wr];exact j
  refine xY st.2 st.1 (U7 f) λh' m sb=>?_;exact d _ h' s.toks ⟨_,U7 f,rfl⟩ ⟨m,st.2.keep λo e=>(sb.2 a QB).trans e⟩ λb o c e=>(sb.2 b (by simpa using c)).trans e
 done:=λs Q E st d=>Aj hh st.2 st.1 λh' l=>d h' s.toks λb o c e=>l b o (by simpa using c) e
 self:=λi s Q E st d=>by
  refine wpAny_pyIter_slot (fj st.1) iJ (Tc iJ (fj st.1) mZ ?_ (oG _));exact Pa ⟨_,rfl,"set_iterator",_,fj st.1,eO.lookup,d⟩
theorem EJ:at_ w t 0=0:=by unfold at_;split <;> rfl
theorem EK:W.KdlSrc prog w "set" a a es.size (λi v=>∃e,(wo w a ep es)[i]?=some e/\v=e.2) (λh=>Wk w h a es ep t) where
 type:=λ_ W=>let ⟨o,e,x,_⟩:=W.ob;⟨o,e,x.1⟩
 there:=λ_ W=>let ⟨o,e,_⟩:=W.ob;⟨P5 e,P5 e⟩
 keep:=λ_ _ W k=>W.keep λo e=>k a (.inl rfl) o e
 notList:=by decide
 notTuple:=by decide
 hint:=λ_ _ _ _ W b=>let ⟨o,e,x,_⟩:=W.ob;Cn ⟨o,e,x.1⟩ b
 iter:=λA s c W=>by
  obtain⟨o,e,_⟩:=W.ob;refine⟨_,_,λE Q b=>Ak W b,Al c (Qs (P5 e)),⟨⟨_,QX _ rfl,rfl,by rw[EJ];rfl⟩⟩,W.keep λo e=>Qe _ e⟩
theorem Co (h:YY (λi v=>∃e,(wo w a ep es)[i]?=some e/\v=e.2) acc es.size):acc.toList.Perm (es.toList.map (·.2)):=by
 have e:acc.toList=(wo w a ep es).toList.map (·.2):=by
  refine List.ext_getElem? λi=>?_;rw[Q6,Wq,Wq]
  by_cases d:i<es.size
  .have b:i<acc.size:=by rw[h.1];exact d
   obtain⟨x,f,c⟩:=h.2 i acc[i] (U7 b);rw[U7 b,f,c];rfl
  .rw[aag (by rw[h.1];lia),aag (by rw[wr];lia)];rfl
 rw[e];exact(wq w a ep es).map _
theorem vG (hh:A.handled=none)(W:Wk w s.heap a es ep t)(hn:es.size<64)(h:∀h' tk vs,(∀b o,s.heap.get? b=some o->h'.get? b=some o)->s.heap.objs.size<=h'.objs.size->vs.Perm (es.toList.map (·.2))->Q vs { s with heap:=h',toks:=tk }):O7 (Pb prog w) A (collect (.ref a)) Q E s:=by
 obtain⟨o,n,u,hd⟩:=id W.ob;have ne:s.heap.objs.size≠a:=XI (P5 n);have fin:∀h' tk d g,(∀b o,b≠s.heap.objs.size->(s.heap.push (Qa "list" #[] 0)).get? b=some o->h'.get? b=some o)->h'.get? s.heap.objs.size=some { cls:=.type "list",dict:=none,data:=.seq d g,slots:=#[] }->
   YY (λi v=>∃e,(wo w a ep es)[i]?=some e/\v=e.2) d es.size->Q d.toList { s with heap:=h',toks:=tk }:=λh' tk d g k1 l it=>
  h h' tk d.toList (λb o e=>k1 b o (Qs (P5 e)) (Qe _ e)) (XH (P5 l)) (Co it)
 unfold collect;refine O4 (abH (UN entry_proto_collect' ?_));rw[XA PySem.F.plain_proto_collect _];refine O4 (Z1 ?_ (QN _));refine Pa ⟨aaC ae7 _,UN entry_list_iadd' ?_⟩;rw[XA ae7 _];refine UQ (PySem.W.kdl_extend (A:=A) (s:={ s with heap:=s.heap.push (Qa "list" #[] 0) }) (R:=λq j=>∃d g,q=.ok (.ret (.ref s.heap.objs.size))/\j.heap.get? s.heap.objs.size=some { cls:=.type "list",dict:=none,data:=.seq d g,slots:=#[] }/\Q d.toList j) (EK (a:=a) (es:=es) (ep:=ep) (t:=t)) hh (W.keep λo e=>Qe _ e) s.heap.objs.size ne ne (.ref s.heap.objs.size) 0 (QX _ rfl)
  (λh' tk d g k1 l it=>⟨d,g,rfl,l,fin h' tk d g k1 l it⟩) (by rw[PY];lia)) (λf j x=>?_) λe j ⟨_,_,z,_⟩=>by cases z
 have done:∀j,(∃d g,j.heap.get? s.heap.objs.size=some { cls:=.type "list",dict:=none,data:=.seq d g,slots:=#[] }/\Q d.toList j)->O7 (Pb prog w) A (load s.heap.objs.size >>= λo=>match o.data with | .seq xs _=>pure xs.toList|_=>unsupported "internal:collect") Q E j:=λj ⟨_,_,e,q⟩=>O4 (ab2 e (Pa q));cases f with
 | done f=>
  obtain⟨d,g,e,l,q⟩:=x;cases e;exact done j ⟨d,g,l,q⟩
 | again c=>
  refine⟨x.1,XJ x.2 λq p m=>?_⟩;obtain⟨d,g,e,l,q⟩:=m;subst e;exact done p ⟨d,g,l,q⟩
theorem xZ (hh:A.handled=none)(W:Wk w s.heap a es ep t)(p:Pl (jK s.heap) (es.toList.map (·.2)) PM)(QB:∀ks∈PM,ks≠[])(hn:es.size<64)(h:∀h' tk l (out:Array D') c,(∀b o,s.heap.get? b=some o->h'.get? b=some o)->s.heap.objs.size<=l->h'.get? l=some (Qa "list" out c)->out.toList.Perm (es.toList.map (·.2))->kF (out.toList.map (bW s.heap))->Q (.ref l) { s with heap:=h',toks:=tk }):
  O7 (Pb prog w) A (call (.builtin "sorted") [.ref a]) Q E s:=by
 refine acO kind_sorted plain_sorted entry_sorted (args_sorted1 _) ?_;unfold Tf.«sorted»;refine O4 (m:=checkCount "sorted" 1 1 _) (Pa (O4 (vG (by simp[hh]) W hn λd tk vs k1 lt f=>O4 (Z1 ?_ (by rw[PY,f.length_eq,PP,Ri];lia)))));obtain⟨I,pv,C⟩:=mH f p;have len:vs.length=es.size:=by rw[f.length_eq,PP,Ri]
 have g:(d.push (Qa "list" vs.toArray 0)).get? d.objs.size=some (Qa "list" vs.toArray 0):=QX _ rfl;have up:∀{ks:List Int}{b:f'},bJ s.heap ks b->bJ (d.push (Qa "list" vs.toArray 0)) ks b:=λx=>mY x λb o _ e=>Qe _ (k1 b o e);refine O4 (RY (Tc acK ⟨_,g,rfl⟩ acI (ug (s:={ s with heap:=d.push (Qa "list" vs.toArray 0),toks:=tk }) g (aJ (λ_ _ ⟨b,e,x⟩=>⟨b,e,up x⟩) pv) (λks G=>QB ks (C.mem_iff.mp G)) (by lia) λout n D=>⟨_,rfl,Pa ⟨_,rfl,?_⟩⟩) (adF _)));obtain⟨j,o1⟩:∃j,((d.push (Qa "list" vs.toArray 0)).update d.objs.size (Ro λ_=>#[])).get? d.objs.size=some (Qa "list" #[] j):=⟨_,abA g _⟩
 have y:((((d.push (Qa "list" vs.toArray 0)).update d.objs.size (Ro λ_=>#[])).push (Qa "tuple" vs.toArray 0)).push (Qa "list" #[] 0)).get? d.objs.size=some (Qa "list" #[] j):=Qe _ (Qe _ o1);refine h _ _ d.objs.size out _ (λb o e=>?_) lt (abA y _) (n.trans f) ?_
 .have ne:b≠d.objs.size:=Qs (P5 (k1 b o e));refine(YA _ _ (Qi ne)).trans (Qe _ (Qe _ ((YA _ _ (Qi ne)).trans (Qe _ (k1 b o e)))))
 .have F:out.toList.map (bW s.heap)=out.toList.map (bW (d.push (Qa "list" vs.toArray 0))):=Tb λv u=>by
   obtain⟨ks,_,b,e,x⟩:=fg pv v (n.mem_iff.mp u);rw[e,eN x,eN (up x)]
  rw[F];exact D
noncomputable def fX (w:Pd)(a:f')(bs:List f'):HO:=.ext λh=>∃es ep t,Wk w h a es ep t/\es.size<70/\es.toList.map (·.2)=bs.map Qg
theorem EL (x:∃es ep t,Wk w h a es ep t/\es.size<70/\es.toList.map (·.2)=bs.map Qg):bq P w H h a (fX w a bs):=by
 refine⟨x,?_,λc b ⟨es,ep,t,W,r⟩ k=>⟨es,ep,t,W.keep λo e=>k o e,r⟩⟩;obtain⟨_,_,_,W,_⟩:=x;obtain⟨o,e,_⟩:=W.ob;exact⟨o,e⟩
noncomputable def SJ.only {w:Pd}{K:Type}[DecidableEq K](Y:SJ prog w K)(G:K->f'->Prop):SJ prog w K where
 knd:={
  is:=λh x b=>Y.knd.is h x b/\G x b
  hash:=Y.knd.hash
  draws:=Y.knd.draws
  room:=Y.knd.room
  inj:=λp q=>Y.knd.inj p.1 q.1
  keeps:=λp ho hd hs=>⟨Y.knd.keeps p.1 ho hd hs,p.2⟩
  pyHash:=λhu hk h=>Y.knd.pyHash hu hk.1 h
  eqBool:=λhu hx hy h=>Y.knd.eqBool hu hx.1 hy.1 h
  quiet:=λhk h=>Y.knd.quiet hk.1 h }
 ν:=λhk h=>Y.ν hk.1 h
 Y0:=λhk h=>Y.Y0 hk.1 h
 keep:=λhk k=>⟨Y.keep hk.1 k,hk.2⟩
theorem Du {α β γ:Type}{F:α->β->Prop}{G:γ->β->Prop}{f:α->γ}(h:∀a b,F a b->G (f a) b):∀{l:List α}{m:List β},Pl F l m->Pl G (l.map f) m
 | _,_,.nil=>.nil
 | _,_,.cons r t=>.cons (h _ _ r) (Du h t)
theorem bZ {K:Type}[DecidableEq K]:∀(a c:List K),a.Nodup->(∀x∈a,x∈c)->a.length<=c.length:=by
 intro a
 induction a with
 | nil=>intro c _ _;exact QN _
 | cons x a b=>
  intro c d f;rw[Td] at d;have g:=f x Px;have:=b (c.erase x) d.2 λy e=>(afl (by rintro rfl;exact d.1 e)).mpr (f y (PU _ e));rw[U8 g] at this;have h:0<c.length:=YB g;simp only[Q0];lia
theorem kJ {K:Type}[DecidableEq K](k:Dk K)(Y:SJ X.prog X.w K)(hr:Y.knd.room X.A.in1.in1.in1)(hc:X.calm=true)(hk:∀{aa:List (f'×G')}{σ:St}{H:Hp}{s:J'}{b:f'}{x:K},Inv X aa σ H s->k.rep X.K H (.ref b) x->Y.knd.is s.heap x b)(acA:∀{K':O6}{H:Hp}{v:V}{x:K},k.rep K' H v x->∃b,v=.ref b):
  cR X (.type "set") (λxs H Q=>∃(y:V) (keys:List K),xs=[y]/\(i9 k).rep X.K H y keys/\(∀js:List K,js.Nodup->(∀x∈js,x∈keys)->js.length<70)/\∀(p:f') (bs:List f') (ks:List K),H p=none->Pl (λb x=>k.rep X.K H (.ref b) x) bs ks->ks.Nodup->(∀x,x∈ks↔x∈keys)->Q (.ref p) (upd H p (fX X.w p bs))):=by
 intro aa s σ H xs us Q I r h;obtain⟨y,keys,rfl,⟨p,as,e,M,hd⟩,f,q⟩:=h;subst e;obtain⟨u,rfl,O⟩:=dH r;cases O;obtain⟨its,E,pl,hz⟩:=I.list M;have kd:Pl (λv x=>∃b,v=Qg b/\k.rep X.K H (.ref b) x) its keys:=oy (F:=aG) (G:=k.rep X.K H) (λx u U d g=>by
  obtain⟨b,rfl⟩:=acA g;cases d;exact⟨b,rfl,g⟩) E hd
 have c:Pl (Ck (Y.only λx b=>k.rep X.K H (.ref b) x) s.heap) its.toArray.toList keys:=aJ (λ_ _ ⟨b,e,z⟩=>⟨b,e,hk I z,z⟩) kd;refine vF (X:=Y.only λx b=>k.rep X.K H (.ref b) x) (I.ok.hd hc) hr pl.isList c f λh' W k1 F=>?_;obtain⟨o,es,ep,t,ks,S,m,C⟩:=F;have len:es.size=ks.length:=by rw[<-Ri];exact S.el.length
 have D:ks.length<70:=f ks S.nd λx N=>(m x).mp N;have each:∀{l:List Sa.RJ}{js:List K},Pl (El (Y.only λx b=>k.rep X.K H (.ref b) x) h') l js->∃bs:List f',l.map (·.2)=bs.map Qg/\Pl (λb x=>k.rep X.K H (.ref b) x) bs js:=by
  intro l js P
  induction P with
  | nil=>exact⟨[],rfl,.nil⟩
  | @cons e x l js d _ ih=>
   obtain⟨b,T,j,_⟩:=d;obtain⟨bs,R,J⟩:=ih;exact⟨b::bs,by rw[Qr,Qr,R,T],.cons j.2 J⟩
 obtain⟨bs,L,n⟩:=each S.el;refine⟨.ref s.heap.objs.size,_,I.laid (o:=fX X.w s.heap.objs.size bs) k1 (Po _) ?_,rfl,q _ bs ks (I.Pn.fresh (Po _)) n S.nd m⟩;exact EL ⟨es,ep,t,⟨⟨o,S.ob,S.ex,S.dt⟩,S.full.tab.rise,S.full.size,UC.fits (s:={ s with heap:=h' }) S,S.pl,C⟩,by lia,L⟩
theorem Am {K:Type}[DecidableEq K](k:Dk K)(Y:SJ X.prog X.w K)(hr:Y.knd.room X.A.in1.in1.in1)(hc:X.calm=true)(hk:∀{aa:List (f'×G')}{σ:St}{H:Hp}{s:J'}{b:f'}{x:K},Inv X aa σ H s->k.rep X.K H (.ref b) x->Y.knd.is s.heap x b)(acA:∀{K':O6}{H:Hp}{v:V}{x:K},k.rep K' H v x->∃b,v=.ref b):
  cR X (.type "set") (λxs H Q=>∃(y:V) (keys:List K),xs=[y]/\(i9 k).rep X.K H y keys/\keys.length<70/\∀(p:f') (bs:List f') (ks:List K),H p=none->Pl (λb x=>k.rep X.K H (.ref b) x) bs ks->ks.Nodup->(∀x,x∈ks↔x∈keys)->Q (.ref p) (upd H p (fX X.w p bs))):=by
 intro aa s σ H xs us Q I r h;obtain⟨y,keys,e,d,c,q⟩:=h;exact kJ k Y hr hc hk acA aa s σ H xs us Q I r ⟨y,keys,e,d,λg j f=>XD (bZ g keys j f) c,q⟩
theorem An {σ:St}(I:Inv X aa σ H s)(ha:H a=some (fX X.w a bs)):∃es ep t,Wk X.w s.heap a es ep t/\es.size<70/\es.toList.map (·.2)=bs.map Qg:=(show bq X.prog X.w H s.heap a (fX X.w a bs) from I.Pn a _ ha).1
theorem Ao:cR X (.builtin "len") (λxs H Q=>∃p bs,xs=[V.ref p]/\H p=some (fX X.w p bs)/\Q (.int bs.length) H):=by
 intro aa s g H xs us Q I r h;obtain⟨p,bs,rfl,d,q⟩:=h;obtain⟨u,rfl,e⟩:=dH r;cases e;obtain⟨es,ep,t,W,lt,eq⟩:=An I d;obtain⟨o,f,b,c⟩:=id W.ob;have len:es.size=bs.length:=by have:=congrArg Ux eq;simpa using this
 exact call_len_set f b c W.fits (by lia) ⟨.int bs.length,H,I.tok _,⟨_,by rw[len]⟩,q⟩
theorem kK (hc:X.calm=true):cR X (.builtin "sorted") (λxs H Q=>∃(p:f') (bs:List f') (PM:List (List Int)),xs=[.ref p]/\H p=some (fX X.w p bs)/\Pl (λb x=>aA.rep X.K H (.ref b) x) bs PM/\(∀ks∈PM,ks≠[])/\PM.length<64/\
  ∀(l:f') (S7:List V) (Rv:List (List Int)),H l=none->Pl (aA.rep X.K H) S7 Rv->Rv.Perm PM->kF Rv->Q (.ref l) (upd H l (.lst S7))):=by
 intro aa s P H xs us Q I r h;obtain⟨p,bs,PM,rfl,L,hd,D,S,q⟩:=h;obtain⟨u,rfl,M⟩:=dH r;cases M;obtain⟨es,ep,t,W,lt,eq⟩:=An I L;have len:es.size=bs.length:=by have:=congrArg Ux eq;simpa using this
 have N:=hd.length;have y:∀l:List f',aE (l.map V.ref) (l.map Qg):=λl=>by
  induction l with
  | nil=>exact .nil
  | cons b l ih=>exact .cons rfl ih
 obtain⟨pt,back⟩:=mF (h:=s.heap) (λa ks z=>lS I z) (y bs) (Du (G:=aA.rep X.K H) (λb x z=>z) hd);rw[<-eq] at pt back;refine xZ (I.ok.hd hc) W pt D (by lia) λh' R l out c k1 le f d E=>?_;have each:∀v∈out.toList,∃a ks,v=.ref a/\aA.rep X.K H (.ref a) ks/\bW s.heap v=ks:=λv n=>back v (d.mem_iff.mp n);have mk:∀l:List D',(∀v∈l,∃a ks,v=.ref a/\aA.rep X.K H (.ref a) ks/\bW s.heap v=ks)->aE (l.map toV) l/\Pl (aA.rep X.K H) (l.map toV) (l.map (bW s.heap)):=by
  intro l
  induction l with
  | nil=>intro _;exact⟨.nil,.nil⟩
  | cons v l ih=>
   intro g;obtain⟨O,J⟩:=ih λu A=>g u (PU _ A);obtain⟨a,ks,f,j,m⟩:=g v Px;subst f;exact⟨.cons rfl O,.cons (by rw[m];exact j) J⟩
 obtain⟨C,F⟩:=mk out.toList each;have e:=uf pt;have hlen:=d.length_eq;rw[PP,Ri,Ri] at hlen;refine⟨.ref l,_,I.laid (o:=.lst (out.toList.map toV)) k1 le ⟨by rw[PP,PY,Ri];lia,out.toList,c,C,by simpa [Qa] using f⟩,rfl,q _ _ _ (I.Pn.fresh le) F (by rw[<-e];exact d.map _) E⟩
end L2
namespace Bk
open Mx
abbrev O5:=List (Int×Int)
abbrev ak:=List (List Int)
def lt:List Int->List Int->Prop
 | [],[]=>False
 | [],_::_=>True
 | _::_,[]=>False
 | a::as,b::bs=>a<b\/(a=b/\lt as bs)
theorem lt_irrefl:∀a:List Int,¬lt a a
 | [],h=>h
 | a::as,h=>by
  rcases h with h|⟨_,h⟩
  .omega
  .exact lt_irrefl as h
theorem lt_trans:∀{a b c:List Int},lt a b->lt b c->lt a c
 | [],[],_,h,_=>h.elim
 | [],_::_,[],_,h=>h.elim
 | [],_::_,_::_,_,_=>trivial
 | _::_,[],_,h,_=>h.elim
 | _::_,_::_,[],_,h=>h.elim
 | a::as,b::bs,c::f,e,d=>by
  rcases e with e|⟨rfl,e⟩
  .rcases d with d|⟨rfl,d⟩
   .exact .inl (by lia)
   .exact .inl e
  .rcases d with d|⟨rfl,d⟩
   .exact .inl d
   .exact .inr ⟨rfl,lt_trans e d⟩
theorem Cp (h:lt a b)(h':lt b a):False:=lt_irrefl a (lt_trans h h')
theorem ut:∀(a b:List Int),lt a b\/a=b\/lt b a
 | [],[]=>.inr (.inl rfl)
 | [],_::_=>.inl trivial
 | _::_,[]=>.inr (.inr trivial)
 | a::as,b::bs=>by
  rcases Int.lt_trichotomy a b with h|rfl|h
  .exact .inl (.inl h)
  .rcases ut as bs with h|rfl|h
   .exact .inl (.inr ⟨rfl,h⟩)
   .exact .inr (.inl rfl)
   .exact .inr (.inr (.inr ⟨rfl,h⟩))
  .exact .inr (.inr (.inl h))
def cB (os:ak):Prop:=os.Pairwise lt
theorem cB.nodup (h:cB os):os.Nodup:=by
 unfold aaJ;refine List.Pairwise.imp (R:=lt) ?_ h;intro a b h e;subst e;exact lt_irrefl _ h
theorem oH {α β:Type}{f g:α->List β}:∀{l:List α},(∀a∈l,f a=g a)->l.flatMap f=l.flatMap g
 | [],_=>rfl
 | a::l,h=>by rw[aar,aar,h a Px,oH λb c=>h b (PU _ c)]
theorem cB.eq (hx:cB xs)(hy:cB ys)(h:∀o,o∈xs↔o∈ys):xs=ys:=by
 have p:xs.Perm ys:=(aad hx.nodup hy.nodup).mpr h;exact ae3 (λa b _ _ d c=>(Cp d c).elim) hx hy p
noncomputable def eP (t:Int):List Int->Option (List Int)
 | x::r=>if x=t then some r else none
 | []=>none
noncomputable def rests (t:Int)(os:ak):ak:=os.filterMap (eP t)
theorem bb:r∈rests t os↔t::r∈os:=by
 simp only[rests,Us];constructor
 .rintro⟨o,b,h⟩;cases o with
  | nil=>cases h
  | cons x r'=>
   simp only[eP] at h
   split at h
   .rename_i e;cases h;subst e;exact b
   .cases h
 .intro h;exact⟨_,h,by simp[eP]⟩
noncomputable def heads (os:ak):List Int:=(aw 8).filter λt=>!(rests t os).isEmpty
theorem bE:t∈heads os↔(0<=t/\t<8)/\∃r,t::r∈os:=by
 rw[heads,So,br];constructor
 .rintro⟨c,b⟩;refine⟨by simpa using c,?_⟩;cases e:rests t os with
  | nil=>rw[e] at b;cases b
  | cons r rs=>exact⟨r,bb.mp (by rw[e];exact Px)⟩
 .rintro⟨c,r,b⟩;refine⟨by simpa using c,?_⟩;have:=bb.mpr b;cases e:rests t os with
  | nil=>rw[e] at this;cases this
  | cons r rs=>rfl
theorem cC (os:ak):(heads os).Pairwise (· < ·):=by
 unfold heads;refine List.Pairwise.filter _ ?_;unfold aw;rw[VE];exact(abh (n:=8)).imp (λh=>by lia)
def et (os os':ak):Prop:=∀o,o∈os↔o∈os'
theorem et.rests (h:et os os')(t:Int):et (rests t os) (rests t os'):=λo=>by rw[bb,bb];exact h _
theorem qU {α:Type}{p q:α->Bool}:∀{l:List α},(∀a∈l,p a=q a)->l.filter p=l.filter q
 | [],_=>rfl
 | a::l,h=>by
  have c:=qU (l:=l) λb d=>h b (PU _ d);rw[abz,abz,h a Px,c]
theorem et.heads (h:et os os'):heads os=heads os':=by
 unfold Bk.heads;refine qU λt _=>?_;have b:=h.rests t;cases e:Bk.rests t os with
 | nil=>
  cases e':Bk.rests t os' with
  | nil=>rfl
  | cons r rs=>
   have:=(b r).mpr (by rw[e'];exact Px);rw[e] at this;cases this
 | cons r rs=>
  cases e':Bk.rests t os' with
  | nil=>
   have:=(b r).mp (by rw[e];exact Px);rw[e'] at this;cases this
  | cons r rs=>rfl
noncomputable def keep (rs:List O5)(r:O5):Nat×List O5:=if r∈rs then (rs.idxOf r+2,rs) else (rs.length+2,rs++[r])
noncomputable def aO (f:ak->List O5->Nat×List O5)(os:ak):List Int->List O5->O5×List O5
 | [],rs=>([],rs)
 | t::ts,rs=>((t,((f (rests t os) rs).1:Int))::(aO f os ts (f (rests t os) rs).2).1,(aO f os ts (f (rests t os) rs).2).2)
noncomputable def lay:Nat->ak->List O5->Nat×List O5
 | 0,_,rs=>(1,rs)
 | n+1,os,rs=>keep (aO (lay n) os (heads os) rs).2 (aO (lay n) os (heads os) rs).1
theorem qV (hf:∀o o' rs,et o o'->f o rs=f o' rs)(h:et os os'):∀ts rs,aO f os ts rs=aO f os' ts rs
 | [],_=>rfl
 | t::ts,rs=>by
  have e:=hf _ _ rs (h.rests t);unfold aO;rw[e,qV hf h ts]
theorem fY:∀(n:Nat) {os os':ak}(rs:List O5),et os os'->lay n os rs=lay n os' rs
 | 0,_,_,_,_=>rfl
 | n+1,os,os',rs,h=>by
  unfold lay;rw[h.heads,qV (λo b rs h=>fY n rs h) h]
theorem fD (rs)(r):∃i,(keep rs r).1=i+2/\(keep rs r).2[i]?=some r/\i<(keep rs r).2.length/\rs <+: (keep rs r).2:=by
 unfold keep
 split
 .rename_i h;refine⟨rs.idxOf r,rfl,?_,Yy h,SE⟩;rw[Qu (Yy h),aan]
 .exact⟨rs.length,rfl,by simp,by simp,ZO _ _⟩
theorem dh (rs)(r):(keep rs r).2=rs\/(r∉rs/\(keep rs r).2=rs++[r]/\(keep rs r).1=rs.length+2):=by
 unfold keep
 split
 .exact .inl rfl
 .rename_i h;exact .inr ⟨h,rfl,rfl⟩
noncomputable def fZ (rows:List ak)(r:O5):List ak:=rows++[r.flatMap λd=>(rows.getD d.2.toNat []).map (d.1::·)]
noncomputable def fE (rs:List O5):List ak:=rs.foldl fZ [[],[[]]]
noncomputable def P9 (rs:List O5)(k:Nat):ak:=(fE rs).getD k []
theorem qW:∀(rs:List O5) (a:List ak),(rs.foldl fZ a).length=a.length+rs.length
 | [],_=>rfl
 | r::rs,a=>by
  rw[Va,qW rs];simp[fZ];lia
theorem ja (rs):(fE rs).length=rs.length+2:=by
 rw[fE,qW];simp;lia
theorem qX:∀(rs:List O5) (a:List ak),a <+: rs.foldl fZ a
 | [],_=>SE
 | r::rs,a=>by
  rw[Va];exact(ZO _ _).trans (qX rs _)
theorem uu {α:Type}{a b:List α}{k:Nat}{d:α}(h:a <+: b)(hk:k<a.length):b.getD k d=a.getD k d:=by
 obtain⟨c,rfl⟩:=h;rw[SC,SC,VB hk]
theorem jv (h:rs <+: U2)(hk:k<rs.length+2):P9 U2 k=P9 rs k:=by
 obtain⟨m,rfl⟩:=h;unfold P9 fE;rw[VG];exact uu (qX m _) (by have:=ja rs;unfold fE at this;lia)
theorem io (h:rs[i]?=some r)(hd:∀d∈r,d.2.toNat<i+2):P9 rs (i+2)=r.flatMap λd=>(P9 rs d.2.toNat).map (d.1::·):=by
 obtain⟨m,e⟩:=QE.mp h;have l:rs=rs.take i++(r::rs.drop (i+1)):=by
  rw[<-e,ae9,Wr]
 have g:rs.take i <+: rs:=adq _ _;have j:rs.take i++[r] <+: rs:=⟨rs.drop (i+1),by rw[XE];exact l.symm⟩
 have b:(rs.take i).length=i:=by rw[RW];lia
 rw[jv j (by rw[QI,b];simp)];have c:fE (rs.take i++[r])=fZ (fE (rs.take i)) r:=by
  unfold fE;rw[VG];rfl
 unfold P9;rw[c];unfold fZ;rw[SC,Xx (by rw[ja,b];exact Po _),ja,b];simp only[Z4,ae8,afH];refine oH λd f=>?_;have:=jv g (k:=d.2.toNat) (by rw[b];exact hd d f);unfold P9 at this;rw[<-this]
theorem dC (rs):P9 rs 1=[[]]:=by rw[jv (rs:=[]) (abB) (by simp)];rfl
theorem ip (rs):P9 rs 0=[]:=by rw[jv (rs:=[]) (abB) (by simp)];rfl
structure O5.Ok (i:Nat)(r:O5):Prop where
 ne:r≠[]
 ahead:∀d∈r,1<=d.2/\d.2<(i:Int)+2
 rise:(r.map (·.1)).Pairwise (· < ·)
def WF (rs:List O5):Prop:=∀i r,rs[i]?=some r->O5.Ok i r
theorem WF.snoc (h:WF rs)(hr:O5.Ok rs.length r):WF (rs++[r]):=λi d e=>by
 by_cases c:i<rs.length
 .rw[VB c] at e;exact h i d e
 .have b:i<(rs++[r]).length:=(QE.mp e).1;rw[QI] at b;have:i=rs.length:=by simp at b;lia
  subst this;rw[Xx (Po _)] at e;simp at e;subst e;exact hr
structure Tells (rs:List O5)(k:Nat)(os:ak):Prop where
 lo:1<=k
 hi:k<rs.length+2
 rise:cB (P9 rs k)
 mem:et (P9 rs k) os
theorem Tells.pre (t:Tells rs k os)(h:rs <+: U2):Tells U2 k os:=by
 have e:=jv h t.hi;have b:=h.length_le;exact⟨t.lo,by have:=t.hi;lia,by rw[e];exact t.rise,by rw[e];exact t.mem⟩
structure af0 (rs:List O5)(os:ak)(ts:List Int)(ds:O5):Prop where
 things:ds.map (·.1)=ts
 tells:∀d∈ds,1<=d.2/\Tells rs d.2.toNat (rests d.1 os)
def uv (f:ak->List O5->Nat×List O5)(n:Nat):Prop:=∀(os:ak) (rs:List O5),(∀o∈os,o.length=n/\∀x∈o,0<=x/\x<8)->os≠[]->WF rs->WF (f os rs).2/\rs <+: (f os rs).2/\Tells (f os rs).2 (f os rs).1 os
theorem eu (hf:uv f n)(QA:∀o∈os,o.length=n+1/\∀x∈o,0<=x/\x<8):
  ∀(ts:List Int) (rs:List O5),(∀t∈ts,t∈heads os)->WF rs->WF (aO f os ts rs).2/\rs <+: (aO f os ts rs).2/\af0 (aO f os ts rs).2 os ts (aO f os ts rs).1
 | [],rs,_,h=>⟨h,SE,rfl,λd hd=>by cases hd⟩
 | t::ts,rs,b,h=>by
  obtain⟨_,r,m⟩:=bE.mp (b t Px);obtain⟨p,v,g⟩:=hf (rests t os) rs (λo l=>by
   have:=QA _ (bb.mp l);exact⟨by simpa using this.1,λx s=>this.2 x (PU _ s)⟩) (λe=>by
   have:=bb.mpr m;rw[e] at this;cases this) h
  obtain⟨u,j,c⟩:=eu hf QA ts (f (rests t os) rs).2 (λt' h'=>b t' (PU _ h')) p;unfold aO;refine⟨u,v.trans j,by simp[c.things],λd hd=>?_⟩;rcases PN.mp hd with rfl|hd
  .refine⟨by have:=g.lo;simp;lia,?_⟩;simp only[Rb];exact g.pre j
  .exact c.tells d hd
theorem Ap (h:cB os):cB (os.map (t::·)):=by
 unfold cB at h ⊢;rw[VE];exact h.imp λh=>.inr ⟨rfl,h⟩
theorem qY {g:Int×Int->ak}:∀{r:O5},(r.map (·.1)).Pairwise (· < ·)->(∀d∈r,cB (g d))->cB (r.flatMap λd=>(g d).map (d.1::·))
 | [],_,_=>ZQ
 | d::r,h,f=>by
  rw[Qr,Ww] at h;rw[aar];unfold cB;rw[abm];refine⟨Ap (f d Px),qY h.2 λd' c=>f d' (PU _ c),?_⟩;intro a j b e;obtain⟨l,_,rfl⟩:=P6.mp j;obtain⟨d',c,e⟩:=RP.mp e;obtain⟨m,_,rfl⟩:=P6.mp e;exact .inl (h.1 d'.1 (P6.mpr ⟨d',c,rfl⟩))
theorem cI:∀n,uv (lay n) n
 | 0=>λos rs f p h=>by
  refine⟨h,SE,Po _,by show 1<rs.length+2;lia,?_,?_⟩
  .show cB (P9 rs 1);rw[dC];exact List.pairwise_singleton _ _
  .show et (P9 rs 1) os;rw[dC];intro o;constructor
   .intro b;rw[Qw.mp b];cases os with
    | nil=>exact Pp rfl p
    | cons a os=>
     have:=(f a Px).1;rw[U9.mp this];exact Px
   .intro b;rw[U9.mp (f o b).1];exact abg _
 | n+1=>λos rs f p h=>by
  obtain⟨v,D,c⟩:=eu (cI n) f (heads os) rs (λt C=>C) h;unfold lay;generalize (aO (lay n) os (heads os) rs).2=Ps at *;generalize (aO (lay n) os (heads os) rs).1=ds at *;have rise:(ds.map (·.1)).Pairwise (· < ·):=by rw[c.things];exact cC os
  have m:ds≠[]:=by
   intro e;cases os with
   | nil=>exact Pp rfl p
   | cons a os=>
    have s:=f a Px;cases a with
    | nil=>cases s.1
    | cons x r=>
     have g:x∈heads ((x::r)::os):=bE.mpr ⟨s.2 x Px,r,Px⟩;rw[<-c.things,e] at g;cases g
  obtain⟨i,k1,k2,k3,l⟩:=fD Ps ds;have w:WF (keep Ps ds).2:=by
   rcases dh Ps ds with e|⟨_,e,_⟩
   .rw[e];exact v
   .rw[e];refine v.snoc ⟨m,λd hd=>?_,rise⟩;have:=c.tells d hd;have E:=this.2.hi;exact⟨this.1,by lia⟩
  refine⟨w,D.trans l,?_⟩;have j:P9 (keep Ps ds).2 (i+2)=ds.flatMap λd=>(P9 (keep Ps ds).2 d.2.toNat).map (d.1::·):=
   io k2 λd hd=>by
    have:=(w i ds k2).ahead d hd;lia
  rw[k1];refine⟨by lia,by lia,?_,?_⟩
  .rw[j];exact qY rise λd hd=>((c.tells d hd).2.pre l).rise
  .rw[j];intro o;rw[RP];constructor
   .rintro⟨d,hd,b⟩;obtain⟨y,A,rfl⟩:=P6.mp b;exact bb.mp ((((c.tells d hd).2.pre l).mem y).mp A)
   .intro b;have u:=f o b;cases o with
    | nil=>cases u.1
    | cons x r=>
     have g:x∈heads os:=bE.mpr ⟨u.2 x Px,r,b⟩;rw[<-c.things] at g;obtain⟨d,hd,rfl⟩:=P6.mp g;exact⟨d,hd,P6.mpr ⟨r,(((c.tells d hd).2.pre l).mem r).mpr (bb.mpr b),rfl⟩⟩
def Ends (rs:List O5)(p:Nat×List O5):Prop:=(p.2=rs/\p.1<rs.length+2)\/(p.1=p.2.length+1/\rs.length<p.2.length)
def Kv (rs:List O5)(p:O5×List O5):Prop:=p.2=rs\/(rs.length<p.2.length/\∃d∈p.1,d.2=((p.2.length+1:Nat):Int))
theorem kL (hf:uv f n)(he:∀(os:ak) (rs:List O5),(∀o∈os,o.length=n/\∀x∈o,0<=x/\x<8)->os≠[]->WF rs->Ends rs (f os rs))(QA:∀o∈os,o.length=n+1/\∀x∈o,0<=x/\x<8):
  ∀(ts:List Int) (rs:List O5),(∀t∈ts,t∈heads os)->WF rs->Kv rs (aO f os ts rs)
 | [],rs,_,_=>.inl rfl
 | t::ts,rs,j,h=>by
  obtain⟨_,r,s⟩:=bE.mp (j t Px);have g:∀o∈rests t os,o.length=n/\∀x∈o,0<=x/\x<8:=λo g=>by
   have:=QA _ (bb.mp g);exact⟨by simpa using this.1,λx v=>this.2 x (PU _ v)⟩
  have l:rests t os≠[]:=λe=>by
   have:=bb.mpr s;rw[e] at this;cases this
  obtain⟨u,w,y⟩:=hf (rests t os) rs g l h;have c:=he (rests t os) rs g l h;have b:=kL hf he QA ts (f (rests t os) rs).2 (λt' h'=>j t' (PU _ h')) u;unfold aO;rcases b with b|⟨p,d,hd,b⟩
  .rcases c with⟨c,_⟩|⟨c,m⟩
   .exact .inl (b.trans c)
   .refine .inr ⟨by rw[b];exact m,_,Px,?_⟩;show((f (rests t os) rs).1:Int)=_;rw[b,c]
  .exact .inr ⟨XD w.length_le p,d,PU _ hd,b⟩
theorem m7:∀(n:Nat) (os:ak) (rs:List O5),(∀o∈os,o.length=n/\∀x∈o,0<=x/\x<8)->os≠[]->WF rs->Ends rs (lay n os rs)
 | 0,os,rs,_,_,_=>.inl ⟨rfl,by show 1<rs.length+2;lia⟩
 | n+1,os,rs,f,u,h=>by
  have e:=kL (cI n) (m7 n) f (heads os) rs (λt c=>c) h;obtain⟨j,m,v⟩:=eu (cI n) f (heads os) rs (λt c=>c) h;have s:=m.length_le;unfold lay;generalize (aO (lay n) os (heads os) rs)=p at *;obtain⟨ds,b⟩:=p;dsimp only at *;rcases dh b ds with k|⟨_,k,g⟩
  .obtain⟨i,k1,k2,k3,_⟩:=fD b ds;rw[k] at k2 k3;rcases e with e|⟨l,d,hd,e⟩
   .have e:b=rs:=e;exact .inl ⟨by rw[k];exact e,by rw[k1,<-e];lia⟩
   .have:=(j i ds k2).ahead d hd;have e:d.2=((b.length+1:Nat):Int):=e;lia
  .refine .inr ⟨by rw[k,g];simp,by rw[k];simp;lia⟩
theorem x8 (h:rs.Nodup):(keep rs r).2.Nodup:=by
 rcases dh rs r with e|⟨f,e,_⟩
 .rw[e];exact h
 .rw[e,VH];refine⟨h,by simp,?_⟩;intro a c b d;rw[Qw.mp d];rintro rfl;exact f c
theorem oI (hf:∀os rs,rs.Nodup->(f os rs).2.Nodup):∀ts rs,rs.Nodup->(aO f os ts rs).2.Nodup
 | [],_,h=>h
 | t::ts,rs,h=>by
  unfold aO;exact oI hf ts _ (hf _ _ h)
theorem qZ:∀(n:Nat) (os:ak) (rs:List O5),rs.Nodup->(lay n os rs).2.Nodup
 | 0,_,_,h=>h
 | n+1,os,rs,h=>by
  unfold lay;exact x8 (oI (qZ n) _ _ h)
noncomputable def aU (rs:List O5)(k:Int):O5:=(rs[(k-2).toNat]?).getD []
noncomputable def walk:Nat->List O5->Int->List Int->List Int
 | 0,_,_,w=>w
 | n+1,rs,k,w=>if k∈w then w else (aU rs k).foldl (λw d=>walk n rs d.2 w) w++[k]
theorem lW (h:k∈w):walk n rs k w=w:=by
 cases n with
 | zero=>rfl
 | succ n=>unfold walk;rw[Pf h]
theorem rd (n:Nat):aw (n+1)=aw n++[(n:Int)]:=by unfold aw;rw[YM];simp
def wt (f:ak->List O5->Nat×List O5)(n:Nat):Prop:=∀(os:ak) (rs all:List O5),(∀o∈os,o.length=n/\∀x∈o,0<=x/\x<8)->os≠[]->WF rs->(f os rs).2 <+: all->∀m,n<=m->
 walk m all ((f os rs).1:Int) (aw (rs.length+2))=aw ((f os rs).2.length+2)
theorem Dv (hf:uv f n)(hw:wt f n)(hm:n<=m)(QA:∀o∈os,o.length=n+1/\∀x∈o,0<=x/\x<8):
  ∀(ts:List Int) (rs:List O5),(∀t∈ts,t∈heads os)->WF rs->(aO f os ts rs).2 <+: all->
   (aO f os ts rs).1.foldl (λw d=>walk m all d.2 w) (aw (rs.length+2))=aw ((aO f os ts rs).2.length+2)
 | [],rs,_,_,_=>rfl
 | t::ts,rs,c,h,g=>by
  obtain⟨_,r,p⟩:=bE.mp (c t Px);have b:∀o∈rests t os,o.length=n/\∀x∈o,0<=x/\x<8:=λo b=>by
   have:=QA _ (bb.mp b);exact⟨by simpa using this.1,λx s=>this.2 x (PU _ s)⟩
  have j:rests t os≠[]:=λe=>by
   have:=bb.mpr p;rw[e] at this;cases this
  obtain⟨l,y,v⟩:=hf (rests t os) rs b j h;obtain⟨_,u,_⟩:=eu hf QA ts (f (rests t os) rs).2 (λt' h'=>c t' (PU _ h')) l;unfold aO at g ⊢;rw[Va];have e:=hw (rests t os) rs all b j h (u.trans g) m hm;dsimp only at e ⊢;rw[e];exact Dv hf hw hm QA ts _ (λt' h'=>c t' (PU _ h')) l g
theorem uw:∀n,wt (lay n) n
 | 0=>λos rs all _ _ _ _ m _=>by
  show walk m all 1 (aw (rs.length+2))=aw (rs.length+2);exact lW (br.mpr ⟨by lia,by lia⟩)
 | n+1=>λos rs all l u h o m I=>by
  have w:=m7 (n+1) os rs l u h;rcases w with⟨g,j⟩|⟨g,j⟩
  .rw[g];exact lW (br.mpr ⟨by lia,by lia⟩)
  .obtain⟨m,rfl⟩:∃A,m=A+1:=⟨m-1,by lia⟩
   obtain⟨C,D,J⟩:=eu (cI n) l (heads os) rs (λt f=>f) h;have s:¬((lay (n+1) os rs).1:Int)∈aw (rs.length+2):=by
    rw[br];lia
   unfold walk;rw[O9 s];have y:=Dv (m:=m) (all:=all) (cI n) (uw n) (by lia) l (heads os) rs (λt f=>f) h;have G:=D.length_le;have e:=kL (cI n) (m7 n) l (heads os) rs (λt f=>f) h;have E:lay (n+1) os rs=keep (aO (lay n) os (heads os) rs).2 (aO (lay n) os (heads os) rs).1:=rfl;rw[E] at g j o ⊢;generalize (aO (lay n) os (heads os) rs)=p at *;obtain⟨ds,b⟩:=p;dsimp only at *;obtain⟨i,k1,k2,k3,F⟩:=fD b ds;have x:aU all ((keep b ds).1:Int)=ds:=by
    unfold aU;rw[k1,show(((i+2:Nat):Int)-2).toNat=i by lia];obtain⟨c,rfl⟩:=o;rw[VB k3,k2];rfl
   rw[x,y (F.trans o)];rcases dh b ds with k|⟨_,k,v⟩
   .rw[k] at g j k2 k3;rw[k1] at g;rcases e with e|⟨_,d,hd,e⟩
    .have e:b=rs:=e;rw[e] at j;lia
    .have:=(C i ds k2).ahead d hd;have e:d.2=((b.length+1:Nat):Int):=e;lia
   .rw[k,v,QI];show aw (b.length+2)++[((b.length+2:Nat):Int)]=aw (b.length+1+2);rw[show b.length+1+2=(b.length+2)+1 by lia,rd (b.length+2)]
noncomputable def dL (r:O5)(t:Int):Int:=match r.find? (λd=>decide (d.1=t)) with
 | some d=>d.2
 | none=>0
noncomputable def Tk (rs:List O5):Int->List Int->Int
 | k,[]=>k
 | k,t::o=>if k=0 then 0 else Tk rs (dL (aU rs k) t) o
theorem kM (rs):∀o:List Int,Tk rs 0 o=0
 | []=>rfl
 | t::o=>by unfold Tk;rw[Pf rfl]
theorem kN:∀{r:O5}{d:Int×Int},(r.map (·.1)).Pairwise (· < ·)->d∈r->r.find? (λe=>decide (e.1=d.1))=some d
 | e::r,d,h,hd=>by
  rw[Qr,Ww] at h;rcases PN.mp hd with rfl|hd
  .simp
  .have b:=h.1 d.1 (P6.mpr ⟨d,hd,rfl⟩);rw[YC (by simp;lia)];exact kN h.2 hd
theorem ux (w:WF rs):∀(o:List Int) (k:Nat),1<=k->k<rs.length+2->(∀o'∈P9 rs k,o'.length=o.length)->(Tk rs (k:Int) o=1↔o∈P9 rs k)
 | [],k,p,y,f=>by
  unfold Tk;constructor
  .intro e;have:k=1:=by lia
   subst this;rw[dC];exact abg _
  .intro b
   by_cases l:k=1
   .subst l;rfl
   .obtain⟨i,rfl⟩:∃i,k=i+2:=⟨k-2,by lia⟩
    have h:i<rs.length:=by lia
    have c:rs[i]?=some rs[i]:=Qu h;rw[io c (λd hd=>by have:=(w i _ c).ahead d hd;lia)] at b;obtain⟨d,_,hd⟩:=RP.mp b;obtain⟨o',_,e⟩:=P6.mp hd;cases e
 | t::o,k,p,y,f=>by
  by_cases l:k=1
  .subst l;have:=f [] (by rw[dC];exact abg _);cases this
  obtain⟨i,rfl⟩:∃i,k=i+2:=⟨k-2,by lia⟩
  have h:i<rs.length:=by lia
  have c:rs[i]?=some rs[i]:=Qu h;have ok:=w i _ c;have m:P9 rs (i+2)=_:=io c (λd hd=>by have:=ok.ahead d hd;lia);have x:aU rs ((i+2:Nat):Int)=rs[i]:=by
   unfold aU;rw[show(((i+2:Nat):Int)-2).toNat=i by lia,c];rfl
  unfold Tk;rw[O9 (by lia),x];unfold dL;cases e:rs[i].find? (λd=>decide (d.1=t)) with
  | none=>
   dsimp only;rw[kM];constructor
   .intro z;cases z
   .intro b;rw[m] at b;obtain⟨d,hd,b⟩:=RP.mp b;obtain⟨o',_,g⟩:=P6.mp b;cases g;have:=aam.mp e d hd;simp at this
  | some d=>
   dsimp only;have hd:=abb e;have u:d.1=t:=by simpa using ady e
   subst u;have A:=ok.ahead d hd;have s:d.2=((d.2.toNat:Nat):Int):=by lia
   rw[s,ux w o d.2.toNat (by lia) (by lia) (λo' j=>by
    have:=f (d.1::o') (by rw[m];exact RP.mpr ⟨d,hd,P6.mpr ⟨o',j,rfl⟩⟩);simpa using this)]
   rw[m];constructor
   .intro b;exact RP.mpr ⟨d,hd,P6.mpr ⟨o,b,rfl⟩⟩
   .intro b;obtain⟨d',v,b⟩:=RP.mp b;obtain⟨o',j,g⟩:=P6.mp b;injection g with e1 e2
    subst e2;have:d'=d:=by
     have p:=kN ok.rise hd;have n:=kN ok.rise v;rw[e1] at n;rw[p] at n;exact(Sn n).symm
    rw[<-this];exact j
noncomputable def lX (ms:List Nat)(d:Int×Int):Nat:=2 ^ d.1.toNat ||| ms.getD d.2.toNat 0
noncomputable def iK (ms:List Nat)(r:O5):List Nat:=ms++[lX ms (r.headD (0,0))]
noncomputable def bz (rs:List O5):List Nat:=rs.foldl iK [0,0]
noncomputable def QG (rs:List O5)(k:Nat):Nat:=(bz rs).getD k 0
theorem re:∀(rs:List O5) (a:List Nat),(rs.foldl iK a).length=a.length+rs.length
 | [],_=>rfl
 | r::rs,a=>by
  rw[Va,re rs];simp[iK];lia
theorem dj (rs):(bz rs).length=rs.length+2:=by
 rw[bz,re];simp;lia
theorem rf:∀(rs:List O5) (a:List Nat),a <+: rs.foldl iK a
 | [],_=>SE
 | r::rs,a=>by
  rw[Va];exact(ZO _ _).trans (rf rs _)
theorem eQ (h:rs <+: U2)(hk:k<rs.length+2):QG U2 k=QG rs k:=by
 obtain⟨m,rfl⟩:=h;unfold QG bz;rw[VG];exact uu (rf m _) (by have:=dj rs;unfold bz at this;lia)
theorem Cq {r:O5}(h:rs[i]?=some (d::r))(hd:d.2.toNat<i+2):QG rs (i+2)=2 ^ d.1.toNat ||| QG rs d.2.toNat:=by
 obtain⟨l,e⟩:=QE.mp h;have j:rs=rs.take i++((d::r)::rs.drop (i+1)):=by
  rw[<-e,ae9,Wr]
 have f:rs.take i <+: rs:=adq _ _;have g:rs.take i++[d::r] <+: rs:=⟨rs.drop (i+1),by rw[XE];exact j.symm⟩
 have b:(rs.take i).length=i:=by rw[RW];lia
 rw[eQ g (by rw[QI,b];simp),eQ f (k:=d.2.toNat) (by rw[b];exact hd)];have c:bz (rs.take i++[d::r])=iK (bz (rs.take i)) (d::r):=by
  unfold bz;rw[VG];rfl
 unfold QG;rw[c];unfold iK;rw[SC,Xx (by rw[dj,b];exact Po _),dj,b];simp only[Z4,ae8,afH];rfl
theorem pV (rs):QG rs 1=0:=by rw[eQ (rs:=[]) (abB) (by simp)];rfl
theorem Cr (rs):QG rs 0=0:=by rw[eQ (rs:=[]) (abB) (by simp)];rfl
def SQ (rs:List O5):Prop:=∀i r,rs[i]?=some r->∀d∈r,0<=d.1/\d.1<8/\(QG rs d.2.toNat).testBit d.1.toNat=false/\2 ^ d.1.toNat ||| QG rs d.2.toNat=QG rs (i+2)
def Zk (rs:List O5)(k:Nat)(S:Int->Prop):Prop:=∀i:Nat,(QG rs k).testBit i=true↔S (i:Int)
theorem Zk.pre (h:Zk rs k S)(p:rs <+: U2)(hk:k<rs.length+2):Zk U2 k S:=λi=>by rw[eQ p hk];exact h i
def ez (n:Nat)(S:Int->Prop)(os:ak):Prop:=∀o∈os,o.length=n/\(∀x∈o,0<=x/\x<8)/\o.Nodup/\∀x,x∈o↔S x
theorem ez.plain (h:ez n S os):∀o∈os,o.length=n/\∀x∈o,0<=x/\x<8:=λo b=>⟨(h o b).1,(h o b).2.1⟩
theorem ez.rests (h:ez (n+1) S os)(t:Int):ez n (λx=>S x/\x≠t) (rests t os):=λr f=>by
 obtain⟨l,g,c,d⟩:=h _ (bb.mp f);rw[Td] at c;refine⟨by simpa using l,λx b=>g x (PU _ b),c.2,λx=>?_⟩;constructor
 .intro b;refine⟨(d x).mp (PU _ b),?_⟩;rintro rfl;exact c.1 b
 .rintro⟨b,j⟩;rcases PN.mp ((d x).mpr b) with e|e
  .exact Pp e j
  .exact e
def Dw (f:ak->List O5->Nat×List O5)(n:Nat):Prop:=∀(S:Int->Prop) (os:ak) (rs:List O5),ez n S os->os≠[]->WF rs->SQ rs->SQ (f os rs).2/\Zk (f os rs).2 (f os rs).1 S
theorem rg (hf:uv f n)(hm:Dw f n)(QA:ez (n+1) S os):
  ∀(ts:List Int) (rs:List O5),(∀t∈ts,t∈heads os)->WF rs->SQ rs->SQ (aO f os ts rs).2/\∀d∈(aO f os ts rs).1,(0<=d.1/\d.1<8)/\S d.1/\Zk (aO f os ts rs).2 d.2.toNat (λx=>S x/\x≠d.1)
 | [],rs,_,_,m=>⟨m,λd hd=>by cases hd⟩
 | t::ts,rs,c,h,m=>by
  obtain⟨o,r,j⟩:=bE.mp (c t Px);have g:rests t os≠[]:=λe=>by
   have:=bb.mpr j;rw[e] at this;cases this
  obtain⟨l,w,s⟩:=hf (rests t os) rs (QA.rests t).plain g h;obtain⟨v,s1⟩:=hm _ (rests t os) rs (QA.rests t) g h m;have b:∀t'∈ts,t'∈heads os:=λt' h'=>c t' (PU _ h');obtain⟨_,u,_⟩:=eu hf QA.plain ts (f (rests t os) rs).2 b l;obtain⟨p,s2⟩:=rg hf hm QA ts (f (rests t os) rs).2 b l v;unfold aO;refine⟨p,λd hd=>?_⟩;rcases PN.mp hd with rfl|hd
  .refine⟨o,((QA _ j).2.2.2 t).mp Px,?_⟩;simp only[Rb];exact s1.pre u s.hi
  .exact s2 d hd
theorem Gu {S:Int->Prop}(h0:0<=t)(hS:S t)(h:∀i:Nat,m.testBit i=true↔(S (i:Int)/\(i:Int)≠t)):∀i:Nat,(2 ^ t.toNat ||| m).testBit i=true↔S (i:Int):=λi=>by
 rw[YQ,Bool.or_eq_true,ZK,decide_eq_true_iff,h i];constructor
 .rintro(e|⟨e,_⟩)
  .have:(i:Int)=t:=by lia
   rw[this];exact hS
  .exact e
 .intro e
  by_cases z:(i:Int)=t
  .exact .inl (by lia)
  .exact .inr ⟨e,z⟩
theorem EM {a b:Nat}{S:Int->Prop}(ha:∀i:Nat,a.testBit i=true↔S (i:Int))(hb:∀i:Nat,b.testBit i=true↔S (i:Int)):a=b:=by
 refine ZJ λi=>?_;rw[Wz,ha,hb]
theorem uy:∀n,Dw (lay n) n
 | 0=>λS os rs c l _ m=>by
  refine⟨m,λi=>?_⟩;show(QG rs 1).testBit i=true↔_;rw[pV];simp only[ZT];constructor
  .intro z;cases z
  .intro z;cases os with
   | nil=>exact Pp rfl l
   | cons o os=>
    obtain⟨F,_,_,x⟩:=c o Px;have:=(x _).mpr z;rw[U9.mp F] at this;cases this
 | n+1=>λS os rs c l h m=>by
  obtain⟨G,P,M⟩:=eu (cI n) c.plain (heads os) rs (λt g=>g) h;obtain⟨w,s1⟩:=rg (cI n) (uy n) c (heads os) rs (λt g=>g) h m;obtain⟨v,_,A⟩:=cI (n+1) os rs c.plain l h;have L:lay (n+1) os rs=keep (aO (lay n) os (heads os) rs).2 (aO (lay n) os (heads os) rs).1:=rfl;rw[L] at v A ⊢;generalize (aO (lay n) os (heads os) rs)=p at *;obtain⟨ds,b⟩:=p;dsimp only at *;obtain⟨i,k1,k2,k3,s⟩:=fD b ds;have ok:=v i ds k2;have each:∀d∈ds,∀j:Nat,(2 ^ d.1.toNat ||| QG b d.2.toNat).testBit j=true↔S (j:Int):=λd hd=>Gu (s1 d hd).1.1 (s1 d hd).2.1 (s1 d hd).2.2;have pre:∀d∈ds,QG (keep b ds).2 d.2.toNat=QG b d.2.toNat:=λd hd=>eQ s (M.tells d hd).2.hi;have hi:Zk (keep b ds).2 (i+2) S:=by
   cases ds with
   | nil=>exact Pp rfl ok.ne
   | cons d r=>
    intro j;rw[Cq k2 (by have:=ok.ahead d Px;lia),pre d Px];exact each d Px j
  refine⟨?_,by rw[k1];exact hi⟩;rcases dh b ds with k|⟨_,k,N⟩
  .rw[k];exact w
  .intro j r e d hd;have Q:i=b.length:=by lia
   by_cases y:j<b.length
   .have f:=e;rw[k,VB y] at f;obtain⟨E,C,D,I⟩:=w j r f d hd;have O:=(G j r f).ahead d hd;rw[eQ s (by lia),eQ s (by lia)];exact⟨E,C,D,I⟩
   .have u:j<(keep b ds).2.length:=(QE.mp e).1;rw[k,QI] at u;have J:j=i:=by simp at u;lia
    subst J;rw[k2] at e;cases e;refine⟨(s1 d hd).1.1,(s1 d hd).1.2,?_,?_⟩
    .rw[pre d hd];cases z:(QG b d.2.toNat).testBit d.1.toNat with
     | false=>rfl
     | true=>
      have:=(((s1 d hd).2.2) d.1.toNat).mp z;exact Pp (by have:=(s1 d hd).1.1;lia) this.2
    .rw[pre d hd];exact EM (each d hd) hi
theorem Cs {many a:Nat}(h:∀i:Nat,a.testBit i=true↔((0:Int)<=(i:Int)/\(i:Int)<many)):a=2 ^ many-1:=by
 refine ZJ λi=>?_;rw[Wz,h,acL,decide_eq_true_iff];lia
theorem iq (wf:WF rs)(h2:2<=k)(hk:k<rs.length+2):∃r,rs[k-2]?=some r/\O5.Ok (k-2) r/\P9 rs k=r.flatMap λd=>(P9 rs d.2.toNat).map (d.1::·):=by
 have b:k-2<rs.length:=by lia
 have e:=Qu b;have ok:=wf _ _ e;have:=io e (λd hd=>by have:=ok.ahead d hd;lia);rw[show k-2+2=k by lia] at this;exact⟨_,e,ok,this⟩
theorem oJ (wf:WF rs):∀(n k:Nat),k<=n->1<=k->k<rs.length+2->P9 rs k≠[]
 | 0,k,h,g,_=>by lia
 | n+1,k,h,g,b=>by
  by_cases c:k=1
  .subst c;rw[dC];exact λh=>nomatch h
  obtain⟨r,e,ok,es⟩:=iq wf (by lia) b;obtain⟨d,hd⟩:=T3 r ok.ne;have l:=ok.ahead d hd;have:=oJ wf n d.2.toNat (by lia) (by lia) (by lia);obtain⟨o,f⟩:=T3 _ this;rw[es];intro j;have:d.1::o∈r.flatMap λd=>(P9 rs d.2.toNat).map (d.1::·):=RP.mpr ⟨d,hd,P6.mpr ⟨o,f,rfl⟩⟩;rw[j] at this;cases this
def eW:Nat->List O5->Int->Prop
 | 0,_,k=>k=0\/k=1
 | n+1,rs,k=>k=0\/k=1\/(2<=k/\(k-2).toNat<rs.length/\∀d∈aU rs k,eW n rs d.2)
theorem eW.up:∀{n:Nat}{k:Int},eW n rs k->eW (n+1) rs k
 | 0,k,h=>by
  rcases h with h|h
  .exact .inl h
  .exact .inr (.inl h)
 | n+1,k,h=>by
  rcases h with h|h|⟨c,b,e⟩
  .exact .inl h
  .exact .inr (.inl h)
  .exact .inr (.inr ⟨c,b,λd hd=>(e d hd).up⟩)
theorem eW.le (h:eW n rs k)(hm:n<=m):eW m rs k:=by
 induction hm with
 | refl=>exact h
 | step _ b=>exact b.up
theorem fF (h:(k-2).toNat<rs.length):rs[(k-2).toNat]?=some (aU rs k):=by
 unfold aU;rw[Qu h];rfl
theorem kO {k:Nat}(h:rs[k-2]?=some r)(h2:2<=k):aU rs (k:Int)=r:=by
 unfold aU;rw[show((k:Int)-2).toNat=k-2 by lia,h];rfl
theorem wu (wf:WF rs):∀(n k:Nat),1<=k->k<rs.length+2->(∀o∈P9 rs k,o.length=n)->eW n rs (k:Int)
 | 0,k,h,f,g=>by
  by_cases c:k=1
  .exact .inr (by rw[c];rfl)
  obtain⟨r,e,ok,es⟩:=iq wf (by lia) f;obtain⟨o,b⟩:=T3 _ (oJ wf k k (Po _) h f);have l:=g o b;rw[es] at b;obtain⟨d,hd,j⟩:=RP.mp b;obtain⟨m,_,rfl⟩:=P6.mp j;exact Pp l (by simp)
 | n+1,k,h,f,g=>by
  by_cases c:k=1
  .exact .inr (.inl (by rw[c];rfl))
  obtain⟨r,e,ok,es⟩:=iq wf (by lia) f;refine .inr (.inr ⟨by lia,by lia,λd hd=>?_⟩);rw[kO e (by lia)] at hd;have p:=ok.ahead d hd;have:=wu wf n d.2.toNat (by lia) (by lia) λo b=>by
   have:=g (d.1::o) (by rw[es];exact RP.mpr ⟨d,hd,P6.mpr ⟨o,b,rfl⟩⟩);simpa using this
  rw[show((d.2.toNat:Nat):Int)=d.2 by lia] at this;exact this
def kP (rs:List O5):Int->List Int->Prop
 | _,[]=>True
 | k,t::o=>k=0\/(2<=k/\(k-2).toNat<rs.length/\kP rs (dL (aU rs k) t) o)
theorem rh (rs):∀o,kP rs 0 o
 | []=>trivial
 | _::_=>.inl rfl
theorem wv (wf:WF rs):∀(o:List Int) (k:Nat),1<=k->k<rs.length+2->(∀o'∈P9 rs k,o'.length=o.length)->kP rs (k:Int) o
 | [],_,_,_,_=>trivial
 | t::o,k,h,f,b=>by
  have c:k≠1:=λc=>by
   subst c;have:=b [] (by rw[dC];exact Px);simp at this
  obtain⟨r,e,ok,es⟩:=iq wf (by lia) f;refine .inr ⟨by lia,by lia,?_⟩;rw[kO e (by lia)];unfold dL;cases hf:r.find? (λd=>decide (d.1=t)) with
  | none=>exact rh rs o
  | some d=>
   have hd:=abb hf;have j:=ok.ahead d hd;have:=wv wf o d.2.toNat (by lia) (by lia) λo' g=>by
    have:=b (d.1::o') (by rw[es];exact RP.mpr ⟨d,hd,P6.mpr ⟨o',g,rfl⟩⟩);simpa using this
   rw[show((d.2.toNat:Nat):Int)=d.2 by lia] at this;exact this
end Bk
namespace L2
open PySem PySem.Spec PyProof.Rows
theorem fN (a b:Nat):UO (a:Int) (b:Int)=((a &&& b:Nat):Int):=rfl
theorem gA (a b:Nat):XF (a:Int) (b:Int)=((a ||| b:Nat):Int):=by
 rw[<-PyProof.Rows.bitOr_eq];unfold Spec.bitOr Spec.bitAnd;have e:decide (0<=YU (a:Int))=false:=by unfold YU;exact P8 (by lia)
 have c:decide (0<=YU (b:Int))=false:=by unfold YU;exact P8 (by lia)
 rw[e,c];have d:∀x:Int,YU (YU x)=x:=λx=>by unfold YU;lia
 simp only[d,Rb]
theorem x9 (h:m.testBit t=false):2 ^ t &&& m=0:=by
 refine ZJ λi=>?_;rw[adB,ZK,ZT]
 by_cases e:t=i
 .subst e;rw[h];simp
 .simp[e]
theorem gJ {α:Type}{x:α}{xs:List α}:Si (x::xs) 0=some x:=bU (j:=0) rfl
theorem jb {α:Type}{x y:α}{xs:List α}:Si (x::y::xs) 1=some y:=bU (j:=1) rfl
theorem Ct {α:Type}{x y z:α}{xs:List α}:Si (x::y::z::xs) 2=some z:=bU (j:=2) rfl
end L2
namespace Ord
open PySem L2 Mx
noncomputable abbrev uz:Pc:=top 24
noncomputable abbrev nc:Pc:=top 26
noncomputable abbrev nh:Pc:=top 35
noncomputable abbrev uA:Pc:=top 23
noncomputable abbrev lY:Pc:=top 25
noncomputable abbrev ya:Pc:=top 22
noncomputable abbrev uB:Pc:=top 27
noncomputable abbrev uC:Pc:=top 21
noncomputable abbrev sC:Pc:=top 29
noncomputable abbrev uD:Pc:=top 28
noncomputable abbrev sD:Pc:=top 20
structure Qj (K)(mg:N'->Option D')(CO:f'):Prop where
 t:Txt K mg CO
 no:∃t,mg "NO_ROOM"=some (.int 0 t)
 en:∃t,mg "END"=some (.int 1 t)
 low:∃t,mg "LOWEST"=some (.int 2 t)
 set:mg "set"=none
def cy (K:O6)(H:Hp)(x:V)(d:Int×Int):Prop:=∃p,x=.ref p/\Pw K H p [.int d.1,.int d.2]
def bH (K:O6)(H:Hp)(x:V)(r:Bk.O5):Prop:=∃a xs,x=.ref a/\Pw K H a xs/\Pl (cy K H) xs r
theorem cy.same (s:ar H H')(h:cy K H x d):cy K H' x d:=by
 obtain⟨p,e,q⟩:=h;exact⟨p,e,s.Qh q⟩
theorem bH.same (s:ar H H')(h:bH K H x r):bH K H' x r:=by
 obtain⟨a,xs,e,q,z⟩:=h;exact⟨a,xs,e,s.Qh q,aJ (λ_ _ y=>y.same s) z⟩
def ww (K:O6):Sp:=λvs H Q _=>∃(x:V) (d:Int×Int),vs=[x]/\cy K H x d/\Q (.bl true) H
theorem EN:Qc ["door"] ["door"] (ap uz):={}
theorem Cu (F:PR K "is_door" "is_door" uz f fd)(T:Qj K mg CO)(W:Df P w K mg base Ph 1 "is_whole" ["value"] jp):Py P w K mg base Ph 2 f fd ["door"] (ww K):=by
 refine F.ok EN (λvs H Q E h=>?_) (λc A outer s H vs Q E b h=>?_)
 .obtain⟨x,d,rfl,_⟩:=h;rfl
 obtain⟨x,⟨t,k⟩,rfl,⟨p,rfl,q⟩,z⟩:=h;refine⟨_,ai (aH (ji (aB bO rfl T.t.SZ dz (ac (pv 0) (ac (eF (v:=.ty "tuple") rfl T.t.tuple cw rfl) ad)))
  (ji (gQ cY (aB aN rfl T.t.len bN (ac (pv 0) ad)) ao (aW _))
  (ji (az W b rfl pS (ac (Rq K (pv 0) ao) ad))
  (nP (az W b rfl pS (ac (Rq K (pv 0) ao) ad))))))),?_⟩
 refine⟨_,rfl,_,_,_,_,_,rfl,rfl,.tup q,oh,_,rfl,bn ?_⟩;refine⟨_,rfl,p,_,rfl,.inr q,rfl,_,rfl,bn ?_⟩;refine⟨_,rfl,p,_,0,.int t,rfl,rfl,q,gJ,t,rfl,_,rfl,bn ?_⟩;exact⟨_,rfl,p,_,1,.int k,rfl,rfl,q,jb,k,rfl,z⟩
def rj (K:O6):Sp:=λvs H Q _=>∃(x:V) (l:f') (ms:List Nat) (d:Int×Int),vs=[x,.ref l]/\cy K H x d/\Pg K H l (ms.map λm:Nat=>V.int m)/\0<=d.1/\d.1<8/\0<=d.2/\d.2<ms.length/\
 (ms.getD d.2.toNat 0).testBit d.1.toNat=false/\Q (.int ((Bk.lX ms d:Nat):Int)) H
theorem kQ:Qc ["door","things","thing","later"] ["door","things"] (ap nc):={}
theorem yb (F:PR K "things_through" "things_through" nc f fd):Py P w K mg base Ph 1 f fd ["door","things"] (rj K):=by
 refine F.ok kQ (λvs H Q E h=>?_) (λy A outer s H vs Q E C h=>?_)
 .obtain⟨x,l,b,d,rfl,_⟩:=h;rfl
 obtain⟨x,l,b,⟨t,k⟩,rfl,⟨p,rfl,q⟩,g,n,u,k0,kl,o,z⟩:=h;refine⟨_,ae (ay (i:=2) kQ.nd rfl (PB rfl) (av gY ao (Rq K (pv 0) ao)))
  (ae (ay (i:=3) kQ.nd rfl (PB rfl) (bj (show SY _ (fL K) from bB) (pv 1) (Rq K (pv 0) ao) (λ_ _=>rfl)))
  (ae (aY (tj (av kb (pv 2) (pv 3)) (λ_=>rfl)) (ai aM) aI)
  (ai (aH (av De (pv 2) (pv 3)))))),?_⟩
 refine⟨_,rfl,p,_,0,.int t,rfl,rfl,q,gJ,1,t,rfl,rfl,⟨n,by lia,by decide⟩,?_⟩;refine⟨_,rfl,_,rfl,p,_,1,.int k,rfl,rfl,q,jb,l,_,k,.int ((b.getD k.toNat 0:Nat):Int),rfl,rfl,g,?_,?_⟩
 .have c:k.toNat<b.length:=by show k.toNat<b.length;have:k<b.length:=kl;have:0<=k:=k0;lia
  have:=bU (xs:=b.map λm:Nat=>V.int m) (j:=k.toNat) (v:=.int ((b.getD k.toNat 0:Nat):Int)) (by
   rw[Q6,Qu c,SC,Qu c];rfl)
  rw[show((k.toNat:Nat):Int)=k from Int.toNat_of_nonneg k0] at this;exact this
 have e:(1:Int)*2 ^ t.toNat=((2 ^ t.toNat:Nat):Int):=by simp
 refine⟨_,rfl,_,rfl,_,_,rfl,rfl,_,rfl,?_⟩;rw[e,fN,x9 o];refine ba ?_;refine⟨_,rfl,_,rfl,_,_,rfl,rfl,?_⟩;show Q (V.int (XF (1*2 ^ t.toNat) ((b.getD k.toNat 0:Nat):Int))) H;rw[e,gA];exact z
def rn (K:O6):Sp:=λvs H Q _=>∃(x:V) (r:Bk.O5) (t:Int),vs=[x,.int t]/\bH K H x r/\Q (.int (Bk.dL r t)) H
theorem rp:Qc ["room","thing","door"] ["room","thing"] (ap nh):={}
theorem yc (F:PR K "behind_door" "behind_door" nh f fd)(T:Qj K mg CO):Py P w K mg base Ph 1 f fd ["room","thing"] (rn K):=by
 refine F.ok rp (λvs H Q E h=>?_) (λC A outer s H vs Q E D h=>?_)
 .obtain⟨x,r,t,rfl,_⟩:=h;rfl
 obtain⟨x,r,t,rfl,⟨a,xs,rfl,q,m⟩,z⟩:=h;obtain⟨y,o⟩:=T.no;refine⟨_,ae (PS.Sg (bL RB rfl (fK (pv 0)) (bw (i:=2) rp.nd rfl (PB rfl))
   (ai (aY (aP cY (Rq K (pv 2) ao) (pv 1) (aW _)) (ai (aH (Rq K (pv 2) ao))) aI))))
  (ai (aH (aR (v:=.int 0) rfl o ⟨y,rfl⟩))),?_⟩
 refine⟨_,rfl,a,rfl,⟨_,q⟩,jk (K:=K) (a:=a) (xs:=xs) (λi b d=>∃g,b=[some (.ref a),some (.int t),g]/\d=H/\Bk.dL r t=Bk.dL (r.drop i) t) ⟨none,rfl,rfl,rfl⟩ ?_ ?_ ?_⟩
 .rintro i b d _ ⟨g,rfl,rfl,_⟩;exact q
 .rintro i x b d u ⟨g,rfl,rfl,e⟩;obtain⟨⟨j,dk⟩,hd,p,rfl,l⟩:=bS m u;rw[aae (QE.mp hd).1,(QE.mp hd).2] at e;refine⟨_,rfl,p,_,0,.int j,rfl,rfl,l,gJ,_,rfl,rfl,_,rfl,?_⟩
  by_cases c:j=t
  .subst c;rw[P7 rfl];refine bn ⟨_,rfl,p,_,1,.int dk,rfl,rfl,l,jb,?_⟩;rw[e] at z;have n:Bk.dL ((j,dk)::r.drop (i+1)) j=dk:=by unfold Bk.dL;rw[afa (by simp)]
   rw[n] at z;exact z
  .rw[P8 (by intro h;exact c (V.int.inj h))];refine ba ⟨_,rfl,rfl,?_⟩;rw[e];unfold Bk.dL;rw[YC (by simpa using c)]
 .rintro b d ⟨g,rfl,rfl,e⟩;rw[m.length,adr] at e;rw[e] at z;exact z
structure Se (K:O6)(H:Hp)(x:V)(many:Int)(rs:List Bk.O5)(first:Int):Prop where
 ex:∃b l xs,x=.ref b/\Pw K H b [.int many,.ref l,.int first]/\Pg K H l xs/\Pl (bH K H) xs rs
def wx (K:O6):Sp:=λvs H Q _=>∃(x:V) (many:Int) (rs:List Bk.O5) (first:Int),vs=[x]/\Se K H x many rs first/\1<=many/\many<=8/\Q .Qt H
theorem EO:Qc ["book"] ["book"] (ap uC):={}
theorem Cv (F:PR K "look_parts" "look_parts" uC f fd)(T:Qj K mg CO)(W:Df P w K mg base Ph 1 "is_whole" ["value"] jp)(WC:Df P w K mg base Ph 2 "is_count" ["many"] pN):Py P w K mg base Ph 3 f fd ["book"] (wx K):=by
 refine F.ok EO (λvs H Q E h=>?_) (λj A outer s H vs Q E c h=>?_)
 .obtain⟨x,many,rs,first,rfl,_⟩:=h;rfl
 obtain⟨x,many,rs,first,rfl,⟨b,l,xs,rfl,q,d,m⟩,g,e,z⟩:=h;refine⟨_,ae (aY (PW.pt (lH (cK (cX (aB bO rfl T.t.SZ dz (ac (pv 0) (ac (eF (v:=.ty "tuple") rfl T.t.tuple cw rfl) ad)))))
    (jh (aP iI (aB aN rfl T.t.len bN (ac (pv 0) ad)) ao (aW _))))) (ai aM) aI)
  (ae (aY (cK (cX (az WC c rfl pS (ac (Rq K (pv 0) ao) ad)))) (ai aM) aI)
  (ae (aY (cK (cX (aB bO rfl T.t.SZ dz (ac (Rq K (pv 0) ao) (ac (eF (v:=.ty "list") rfl T.t.list ib rfl) ad))))) (ai aM) aI)
  (ai (aY (cK (cX (az W (c.mono (by decide)) rfl pS (ac (Rq K (pv 0) ao) ad)))) (ai aM) aI)))),?_⟩
 refine⟨_,rfl,_,_,_,_,_,rfl,rfl,.tup q,oh,_,rfl,ba ?_⟩;refine⟨_,rfl,b,_,rfl,.inr q,rfl,_,rfl,ba ?_⟩;refine⟨_,rfl,b,_,0,.int many,rfl,rfl,q,gJ,many,rfl,_,rfl,?_⟩;rw[P7 ⟨g,e⟩];refine ba ?_;refine⟨_,rfl,b,_,1,.ref l,rfl,rfl,q,jb,_,_,_,_,_,rfl,rfl,.lst d,Ga,_,rfl,ba ?_⟩;exact⟨_,rfl,b,_,2,.int first,rfl,rfl,q,Ct,first,rfl,_,rfl,ba z⟩
end Ord
namespace L2
open PySem PySem.Spec PyProof.Rows
theorem lZ (hN:X.N.Nodup)(hi0:X.N[i0]?=some y)(hx:Loc X.env.scope y)(hc:X.calm=true)(S:Sc own X.env.scope X.N scope x)(hi:PI X (.Name x px) iter wi)(ht:∀(cl:List (N'×f')) (C:f') (PZ:J') (QT:Hp) (fp:List f') (aa:List (f'×G')),PTs (Q5 X scope cl x C PZ QT fp aa) ifs tt)(he:∀(cl:List (N'×f')) (C:f') (PZ:J') (QT:Hp) (fp:List f') (aa:List (f'×G')),PE (Q5 X scope cl x C PZ QT fp aa) elt te)(hsw:swapsWith (.ListComp elt [⟨.Name x px,iter,ifs,0⟩] scope pos) (some (.Name y py)) aes.line X.env=pure true)(hs:∀v,foldedSetIterable iter X.env v=pure v:=by intro _;rfl)(hf:X.fn y=true\/X.env.scope.names.lookup y=some .local :=by first|exact .inl rfl|exact .inr rfl|assumption):
  PS X (.Assign [.Name y py] (.ListComp elt [⟨.Name x px,iter,ifs,0⟩] scope pos) aes) (Bv (Dj wi tt te) (xn i0)):=by
 intro aa s M H D0 I h;obtain⟨cl,acu,Y3,Y4,ο⟩:=mE (x:=x) S.aeb (scope:=scope) (env:=X.env) (λy hy hf=>I.ok.has y.1 (S.free y hy hf));rw[exec_Assign_Name_used _ _ _ _ hsw];refine O4 (ZZ (O4 ?_));show O7 _ X.A (do let _ <-comprehension (.ListComp elt [⟨.Name x px,iter,ifs,0⟩] scope pos) scope X.env _ (newList []) false (eval iter X.env) (some (assign (.Name y py) X.env))) _ _ s;refine O4 (UQ (ae1 (use:=some (assign (.Name y py) X.env)) (E:=X.xe) (Q:=λ_ D=>SP X aa D0 .next D) rfl hs acu S.kind S.names
  (Pm (hi aa s M H _ I h) λO s1 h1=>Pm h1 λitv s2 h2=>?_)) (λ_ D hq=>Pa (Pa hq)) λ_ _ e=>e)
 obtain⟨it,fp,tn,J,g,e,j,T,Rf,f2,W,⟨m0,w0⟩,turn⟩:=h2;subst e;refine Uu (zy S Y3 Y4 ο rfl λhC Vn t cl RI X1 old hd Uk hk2 hk3=>?_);generalize s2.heap.push { cls:=.type "list",dict:=none,data:=.seq ([]:List D').toArray }=P2 at hC Vn t X1 Uk ⊢;show codeAny _ _ (.compStart _ 0 (.ref it) (.ref s2.heap.objs.size) (compEnvC scope cl P2.objs.size X.env)) _ _;have fo:∀b∈fp,∃o,s2.heap.get? b=some o:=λb f=>by
  obtain⟨o,e,_⟩:=T.obj _ _ Rf b f;exact⟨o,e⟩
 have Yg:∀b∈fp,b≠s2.heap.objs.size:=λb f=>by
  obtain⟨o,e⟩:=fo b f;exact Qs (P5 e)
 have JY:Inv (Q5 X scope cl x P2.objs.size s2 g fp aa) [(s2.heap.objs.size,bV [] 0)] (none::M) g { s2 with heap:=RI,toks:=s2.toks }:=
  nY j S f2 fo Uk hk2 hk3 (Po _) t Vn ⟨_,X1⟩ hd old
 have UV:∀{L:Hp}{its:List D'}{n:Nat},(∀b∈fp,L b=none)->∀b∈fp,i6 (Q5 X scope cl x P2.objs.size s2 g fp aa) [(s2.heap.objs.size,bV its n)] L b:=λ{L its n} hn b f=>by
  obtain⟨_,g1,g2,g3,g4,g5⟩:=f2 b f;obtain⟨o,e⟩:=fo b f;refine⟨hn b f,?_,λz=>?_,.inl f,λy c q=>?_,λp l=>?_⟩
  .show b≠P2.objs.size;exact Qs (QP (P5 e) t)
  .rcases PN.mp (j.Vf b z) with r|r
   .exact g1 r
   .exact g2 r
  .rcases Uk y c q with⟨_,z⟩|⟨_,z,_⟩
   .exact g4 y c z
   .exact Qi (Qs (QP (P5 e) z))
  .rcases QJ.mp l with z|z
   .exact g5 p z
   .rw[Qw.mp z];exact λq=>Yg b f q.symm
 have nodup:(Q5 X scope cl x P2.objs.size s2 g fp aa).N.Nodup:=S.nd;have loc:Loc (Q5 X scope cl x P2.objs.size s2 g fp aa).env.scope x:=by
  have v:=S.var;cases own with
  | false=>exact .inl (dU rfl v)
  | true=>exact .inr (dU rfl v)
 have loop:∀s4:J',s4={ s2 with heap:=RI }->
   codeAny (Pb X.prog X.w) X.A (.compLoop (.ListComp elt [⟨.Name x px,iter,ifs,0⟩] scope pos) 0 (.ref it) (.ref s2.heap.objs.size) (compEnvC scope cl P2.objs.size X.env))
    (compPost (Pb X.prog X.w) X.A X.xe (some (assign (.Name y py) X.env)) (λ_ D=>SP X aa D0 .next D) (.ref s2.heap.objs.size) P2.objs.size) s4:=by
  rintro s4 rfl;refine codeAny_loop rfl (λn D=>∃i F its c L v0,Inv (Q5 X scope cl x P2.objs.size s2 g fp aa) [(s2.heap.objs.size,bV its c)] (v0::M) L D/\tn i D.heap/\(∀b∈fp,L b=none)/\aE F its/\W i n F L) ?_ m0
   ⟨0,[],[],0,g,none,JY,T.keep _ _ _ Rf (λb _ o e=>old b o e),λb f=>(f2 b f).1,.nil,w0⟩
  rintro n s3 ⟨i,F,its,c,H3,v0,I3,Sh,Xh,rv,w3⟩;show O7 _ _ ((compTurn (.ListComp elt [⟨.Name x px,iter,ifs,0⟩] scope pos) 0 (.ref it) (.ref s2.heap.objs.size) (compEnvC scope cl P2.objs.size X.env)).onRaise (λz=>do noteFrame z (compEnvC scope cl P2.objs.size X.env);theTreesLotGoes z)) _ _ s3;refine wpAny_noted ?_;rw[compTurn_list];rcases turn i n F H3 w3 with⟨stop,hz,qn⟩|⟨go,hz,NN,Y,step⟩
  .refine O4 (ZZ (O4 (Pm (T.done (Q5 X scope cl x P2.objs.size s2 g fp aa) rfl rfl rfl hc i _ s3 _ H3 _ I3 (UV Xh) Sh stop) λr s5 G=>?_)));obtain⟨hr,I5⟩:=G;subst hr;refine Pa ?_;obtain⟨mC,hmC,_⟩:=I5.loc;obtain⟨I6,nD⟩:=qH j f2 (Po _) t I5 (Tz.refl _ _) rv hz;have fC:H3 P2.objs.size=none:=I5.free;have q:=qn _ nD;have big:∀b o,s2.heap.get? b=some o->b≠P2.objs.size:=λb o e=>Qs (QP (P5 e) t);have U:∀z c,X.env.cells.lookup z=some c->c≠P2.objs.size:=λz c e=>by
    obtain⟨v,q⟩:=j.cell z c e;exact Qs (QP q.lt t)
   have R:X.env.locals≠P2.objs.size:=Qs (QP j.lt t);refine abp (qB (v:=.ref s2.heap.objs.size) I6 hN hi0 hx rfl (λs7 I7 ⟨a,sb,ha⟩=>?_) hf);have Uh:P2.objs.size≠a:=by
    rcases ha with ha|ha
    .rw[ha];exact Qi R
    .exact Qi (U _ _ ha)
   exact⟨mC,hmC.sameBut sb Uh,λh' Zh=>⟨_,_,I7.turned (t':=s7.toks) (it:=P2.objs.size) (λb o f e=>(Zh.2 b f).trans e) (by rw[aq (Qi Vn)];exact fC) (Qi R) (.inr (RC j.sz t)) U (λp l=>big _ _ (j.pin p l).1),q⟩⟩
  .refine O4 (ZZ (O4 (Pm (T.item (Q5 X scope cl x P2.objs.size s2 g fp aa) rfl rfl rfl hc i _ s3 _ H3 _ I3 (UV Xh) Sh go) λr s5 G=>?_)));obtain⟨u,hr,h5⟩:=G;subst hr;refine O4 (Pm h5 λ_ s6 G=>?_);obtain⟨O,H6,I6,r6,y6,Yh,fr6⟩:=G;have I6':=I6.pinned (UV fr6) (T.obj _ _ Yh);refine O4 (abp (fQ (i:=0) I6' nodup rfl loc r6 (λs7 I7=>?_) (.inl (by show(x==x)=true;simp))));have q7:=step O H6 y6;refine O4 (fM (Pm (ht cl P2.objs.size s2 g fp aa _ s7 _ H6 _ I7 q7) λok s8 G=>?_));obtain⟨H8,I8,q8⟩:=G;have back:∀{m:Hp}{s9:J'},Inv (Q5 X scope cl x P2.objs.size s2 g fp aa) ([(s2.heap.objs.size,bV its c)]++jj fp s6.heap) (some O::M) m s9->tn (i+1) s9.heap/\∀b∈fp,m b=none:=λ{m s9} Z=>by
    refine⟨T.keep _ _ _ Yh λb f o e=>(Z.pin (b,o) (RA _ (RA _ (eG f e)))).1,λb f=>?_⟩;obtain⟨o,e,d⟩:=T.obj _ _ Yh b f;exact(Z.pin (b,o) (RA _ (RA _ (eG f e)))).2.1
   cases ok with
   | false=>
    obtain⟨m',hm,w8⟩:=Y F H8 q8;obtain⟨t8,fr8⟩:=back I8;exact Pa ⟨rfl,m',hm,i+1,F,its,c,H8,_,I8.XQ,t8,fr8,rv,w8⟩
   | true=>
    refine O4 (O4 (fM (Pm (he cl P2.objs.size s2 g fp aa _ s8 _ H8 _ I8 q8) λyv s9 hh=>Qb hh λy m Z r9 q9=>?_)));obtain⟨m',hm,w9⟩:=Y _ _ q9;obtain⟨t9,fr9⟩:=back Z;have P:=Z.XQ;obtain⟨eD,nD,Xc,nf,_⟩:=P.pin (s2.heap.objs.size,bV its c) (RA _ Px);refine O4 (ae5 (items:=its.toArray) ⟨c,eD⟩ (λUl acv X2=>?_) (by rw[Qv,<-rv.length];exact XH hz));obtain⟨c',e10⟩:=acv;have acw:Ul.get? s2.heap.objs.size=some (bV (its++[yv]) c'):=by rw[e10];simp
    have I10:Inv (Q5 X scope cl x P2.objs.size s2 g fp aa) [] (some O::M) m { s9 with heap:=Ul }:=by
     have I9e:Inv (Q5 X scope cl x P2.objs.size s2 g fp aa) [] (some O::M) m s9:=P.YZ λp l=>Pp l (by simp);refine I9e.turned (t':=s9.toks) (it:=s2.heap.objs.size) (λb o f q=>(X2.2 b f).trans q) nD Xc (.inr (Po _)) (λy cc q=>?_) λp l=>?_
     .rcases Uk y cc q with⟨_,z⟩|⟨_,_,_,z,_⟩
      .obtain⟨v,z⟩:=j.cell y cc z;exact Qs z.lt
      .exact z
     .have hp':p∈X.pn++aa:=by
       have z:p∈(X.pn++aa)++[]:=l;simpa using z
      exact Qs (P5 (j.pin p hp').1)
    have I11:Inv (Q5 X scope cl x P2.objs.size s2 g fp aa) [(s2.heap.objs.size,bV (its++[yv]) c')] (some O::M) m { s9 with heap:=Ul }:=
     I10.YZ λp l=>by rw[Qw.mp l];exact⟨acw,nD,Xc,nf,λv q=>nomatch q⟩
    refine Pa (Pa ⟨rfl,m',hm,i+1,F++[y],its++[yv],c',m,_,I11,?_,fr9,rv.append (.cons r9 .nil),w9⟩);exact T.keep _ _ _ t9 λb f o q=>(X2.2 b (Yg b f)).trans q
 exact codeAny_compStart_list (loop _ rfl) (T.self X.A 0 _ _ _ (T.keep _ _ _ Rf (λb _ o e=>old b o e)) (loop _ rfl))
end L2
namespace Ord
open PySem L2 Mx
noncomputable def aZ (ms:List Nat):List V:=ms.map λm:Nat=>V.int m
theorem eA {ms:List Nat}(h:k<ms.length):Si (aZ ms) (k:Int)=some (.int ((ms.getD k 0:Nat):Int)):=bU (by
 unfold aZ;rw[Q6,Qu h,SC,Qu h];rfl)
def wy (K:O6):Sp:=λvs H Q _=>∃(many first:Nat) (l:f') (ms:List Nat),vs=[.int many,.ref l,.int first]/\Pg K H l (aZ ms)/\many<=8/\(first=0\/(1<first/\first<ms.length/\ms.getD first 0=2 ^ many-1))/\Q .Qt H
theorem EQ:Qc ["many","things","first"] ["many","things","first"] (ap uB):={}
theorem Cw (F:PR K "look_first" "look_first" uB f fd)(T:Qj K mg CO):Py P w K mg base Ph 1 f fd ["many","things","first"] (wy K):=by
 refine F.ok EQ (λvs H Q E h=>?_) (λy A outer s H vs Q E C h=>?_)
 .obtain⟨many,first,l,d,rfl,_⟩:=h;rfl
 obtain⟨many,first,l,d,rfl,g,G,e,z⟩:=h;obtain⟨p,n⟩:=T.no;obtain⟨o,u⟩:=T.en;refine⟨_,ae (aY (aP cY (pv 2) (aR (v:=.int 0) rfl n ⟨p,rfl⟩) (aW _)) (ai pD) aI)
  (ae (aY (cK (mQ lI lI (aR (v:=.int 1) rfl u ⟨o,rfl⟩) (pv 2) (aB aN rfl T.t.len bN (ac (pv 1) ad)))) (ai aM) aI)
  (ai (aY (aP iI (bj (show SY _ (fL K) from bB) (pv 1) (pv 2) (λ_ _=>rfl)) (av bM (av gY ao (pv 0)) ao) (aW _)) (ai aM) aI))),?_⟩
 refine⟨_,rfl,rfl,_,rfl,?_⟩
 by_cases c:first=0
 .subst c;exact bn z
 rw[P8 (λh=>c (by have:=V.int.inj h;lia))];refine ba ?_;obtain⟨f1,f2,f3⟩:1<first/\first<d.length/\d.getD first 0=2 ^ many-1:=by rcases e with h|h;exact Pp h c;exact h
 refine⟨_,rfl,1,(first:Int),rfl,rfl,_,rfl,?_⟩;rw[P7 (show(1:Int)<first by lia)];refine bn ⟨_,rfl,l,_,rfl,.inl g,(first:Int),_,rfl,rfl,_,rfl,?_⟩;have m:(aZ d).length=d.length:=PP _;rw[m,P7 (show(first:Int)<(d.length:Nat) by lia)];refine ba ?_;refine⟨_,rfl,_,rfl,l,_,(first:Int),_,rfl,rfl,g,eA f2,?_⟩;refine⟨_,rfl,1,(many:Int),rfl,rfl,⟨by lia,by lia,by decide⟩,_,1,rfl,rfl,rfl,_,rfl,?_⟩;have x:(1:Int)*2 ^ ((many:Int)).toNat-1=((2 ^ many-1:Nat):Int):=by
  rw[Rb,ad1,abC (ade)];simp
 have j:(!decide (V.int ((d.getD first 0:Nat):Int)=V.int (1*2 ^ ((many:Int)).toNat-1)))=false:=by
  rw[x,f3,P7 rfl];rfl
 show(λ(b:Bool) (D:Hp)=>if b=true then _ else _) (!decide (V.int ((d.getD first 0:Nat):Int)=V.int (1*2 ^ ((many:Int)).toNat-1))) H;rw[j];exact ba z
def wz (K:O6):Sp:=λvs H Q _=>∃(many number:Int) (x:V) (r:Bk.O5),vs=[.int many,x,.int number]/\bH K H x r/\r≠[]/\(r.map (·.1)).Pairwise (· < ·)/\(∀d∈r,0<=d.1/\d.1<many/\1<=d.2/\d.2<number)/\Q .Qt H
theorem md:Qc ["many","room","number","last","door"] ["many","room","number"] (ap uA):={}
theorem Cy (F:PR K "look_doors" "look_doors" uA f fd)(T:Qj K mg CO)(WD:Df P w K mg base Ph 2 "is_door" ["door"] (ww K)):Py P w K mg base Ph 3 f fd ["many","room","number"] (wz K):=by
 refine F.ok md (λvs H Q E h=>?_) (λR A outer s H vs Q E C h=>?_)
 .obtain⟨many,number,x,r,rfl,_⟩:=h;rfl
 obtain⟨many,number,x,r,rfl,⟨a,xs,rfl,q,l⟩,ne,rise,all,z⟩:=h;obtain⟨J,M⟩:=T.en;refine⟨_,ae (aY (PW.pt (lH (cK (cX (aB bO rfl T.t.SZ dz (ac (pv 1) (ac (eF (v:=.ty "tuple") rfl T.t.tuple cw rfl) ad)))))
    (jh (aP cY (aB aN rfl T.t.len bN (ac (pv 1) ad)) ao (aW _))))) (ai aM) aI)
  (ae (ay (i:=3) md.nd rfl (PB rfl) (sj nS ao))
  (ai (PS.Sg (bL RB rfl (fK (pv 1)) (bw (i:=4) md.nd rfl (PB rfl))
   (ae (aY (cK (cX (az WD C rfl pS (ac (pv 4) ad)))) (ai aM) aI)
   (ae (aY (cK (mQ lI lI (pv 3) (Rq K (pv 4) ao) (pv 0))) (ai aM) aI)
   (ae (aY (cK (mQ xx lI (aR (v:=.int 1) rfl M ⟨J,rfl⟩) (Rq K (pv 4) ao) (pv 2))) (ai aM) aI)
   (ai (ay (i:=3) md.nd rfl (PB rfl) (Rq K (pv 4) ao)))))))))),?_⟩
 refine⟨_,rfl,_,_,_,_,_,rfl,rfl,.tup q,oh,_,rfl,ba ?_⟩;have hlen:=l.length;have U:0<xs.length:=by rw[hlen];exact Wu.mpr ne
 refine⟨_,rfl,a,_,rfl,.inr q,rfl,_,rfl,?_⟩;rw[P8 (λh=>by have:=V.int.inj h;lia)];refine ba ?_;refine⟨1,rfl,?_⟩;refine⟨_,rfl,a,rfl,⟨_,q⟩,jk (K:=K) (a:=a) (xs:=xs) (λi c e=>∃(last:Int) (j:Option V),c=[some (.int many),some (.ref a),some (.int number),some (.int last),j]/\e=H/\∀d,r[i]?=some d->last<d.1) ⟨-1,none,rfl,rfl,λd hd=>?_⟩ ?_ ?_ ?_⟩
 .have:=(all d (QF hd)).1;lia
 .rintro i c e _ ⟨last,j,rfl,rfl,_⟩;exact q
 .rintro i y c e I ⟨last,j,rfl,rfl,lt⟩;obtain⟨⟨b,dk⟩,hd,p,rfl,g⟩:=bS l I;obtain⟨S,L,u,o⟩:=all _ (QF hd);have n:last<b:=lt _ hd;refine⟨_,rfl,.ref p,(b,dk),rfl,⟨p,rfl,g⟩,_,rfl,ba ?_⟩;refine⟨_,rfl,_,rfl,p,_,0,.int b,rfl,rfl,g,gJ,last,b,rfl,rfl,_,rfl,?_⟩;rw[P7 n];refine bn ⟨_,rfl,b,many,rfl,rfl,_,rfl,?_⟩;rw[P7 (show b<many from L)];refine ba ?_;refine⟨_,rfl,p,_,1,.int dk,rfl,rfl,g,jb,1,dk,rfl,rfl,_,rfl,?_⟩;rw[P7 (show 1<=dk from u)];refine bn ⟨_,rfl,dk,number,rfl,rfl,_,rfl,?_⟩;rw[P7 (show dk<number from o)];refine ba ?_;refine⟨_,rfl,p,_,0,.int b,rfl,rfl,g,gJ,b,some (.ref p),rfl,rfl,λd D=>?_⟩;obtain⟨N,O⟩:=QE.mp hd;obtain⟨G,m⟩:=QE.mp D;have:=acQ.mp rise i (i+1) (by simpa using N) (by simpa using G) (ZS _);rw[List.getElem_map,List.getElem_map,O,m] at this;exact this
 .rintro c e ⟨last,j,rfl,rfl,_⟩;exact z
theorem O3 {ns:List Int}:aZ (ns.map Int.toNat)=(ns.map Int.toNat).map λm:Nat=>V.int m:=rfl
def uE (K:O6):Sp:=λvs H Q _=>∃(x:V) (r:Bk.O5) (l:f') (ms:List Nat) (m:Nat),vs=[x,.ref l]/\bH K H x r/\r≠[]/\r.length<=8/\Pg K H l (aZ ms)/\
 (∀d∈r,0<=d.1/\d.1<8/\0<=d.2/\d.2<ms.length/\(ms.getD d.2.toNat 0).testBit d.1.toNat=false/\Bk.lX ms d=m)/\∀H',ar H H'->Q (.int (m:Int)) H'
theorem uF:Qc ["room","things","found"] ["room","things"] (ap lY):={}
theorem Aq (F:PR K "things_of_room" "things_of_room" lY f fd)(T:Qj K mg CO)(WT:Df P w K mg base Ph 1 "things_through" ["door","things"] (rj K)):Py P w K mg base Ph 2 f fd ["room","things"] (uE K):=by
 refine F.ok uF (λvs H Q E h=>?_) (λPi A outer s H vs Q E G h=>?_)
 .obtain⟨x,r,l,J,m,rfl,_⟩:=h;rfl
 obtain⟨x,r,l,J,m,rfl,⟨a,xs,rfl,q,u⟩,ne,r8,O,all,z⟩:=h;refine⟨_,ae (lZ (i0:=2) uF.nd rfl (PB rfl) rfl (show Sc false (ap lY) ["room","things","found"] _ _ from by constructor <;> decide +kernel) (fK (pv 0)) (λ_ _ _ _ _ _=>eJ)
    (λcl C PZ QT fp aa=>az WT G rfl pS (ac (pv 0) (ac (pv 2) ad))) rfl)
  (ae (aY (aP (tJ G.θ) (pv 2) (av zp (bf (ac (bj (show SY _ (fL K) from bB) (pv 2) ao (λ_ _=>rfl)) ad)) (aB aN rfl T.t.len bN (ac (pv 2) ad))) (aW _)) (ai aM) aI)
  (ai (aH (bj (show SY _ (fL K) from bB) (pv 2) ao (λ_ _=>rfl))))),?_⟩
 refine⟨_,rfl,a,rfl,⟨_,q⟩,jE (K:=K) (a:=a) (xs:=xs) (λi e b=>b=H/\e=Qq i (V.int (m:Int))) ⟨rfl,rfl⟩ ?_ (by have:=u.length;rw[PY];lia) ?_ ?_⟩
 .rintro i e b hi ⟨rfl,rfl⟩;exact⟨q,by simp⟩
 .rintro i x e b Z ⟨rfl,rfl⟩;obtain⟨⟨X,dk⟩,hd,p,rfl,S⟩:=bS u Z;obtain⟨U,M,R,a4,a5,W⟩:=all _ (QF hd);refine V4 (bn ?_);refine⟨_,rfl,_,rfl,.ref p,l,J,(X,dk),rfl,⟨p,rfl,S⟩,O,U,M,R,a4,a5,rfl,?_⟩;rw[W,afk]
 rintro e b p ⟨rfl,rfl⟩ n;have hlen:=u.length;have UW:0<xs.length:=by rw[hlen];exact Wu.mpr ne
 have s1:ar b (upd b p (.lst (Qq xs.length (V.int (m:Int))))):=af n _;have d:Si (Qq xs.length (V.int (m:Int))) 0=some (V.int (m:Int)):=bU (j:=0) (by rw[abe,Pf UW]);have g:(Qq xs.length (V.int (m:Int))).length=xs.length:=abi;refine⟨_,rfl,_,rfl,p,_,0,.int (m:Int),rfl,rfl,Pg.up,d,by show 1<=Pj;decide,λo Y=>?_⟩;have s2:ar (upd b p (.lst (Qq xs.length (V.int (m:Int))))) (upd (upd b p (.lst (Qq xs.length (V.int (m:Int))))) o (.lst [V.int (m:Int)])):=af Y _;have c:(upd (upd b p (.lst (Qq xs.length (V.int (m:Int))))) o (.lst [V.int (m:Int)])) p=some (.lst (Qq xs.length (V.int (m:Int)))):=s2 _ _ ag;refine⟨_,rfl,p,_,rfl,.inl (.inl (.inl c)),o,((Qq xs.length (V.int (m:Int))).length:Nat),[V.int (m:Int)],rfl,rfl,ag,by lia,by rw[g];lia,by rw[g,PY];simp;lia,λN D=>?_⟩;have L:∀k:Nat,(Qq k [V.int (m:Int)]).flatten=Qq k (V.int (m:Int)):=λk=>by
  induction k with
  | zero=>rfl
  | succ k ih=>rw[Wt,ZP,ih,Wt];rfl
 rw[g,Rb,L];have v:(Qq xs.length (V.int (m:Int))).all cp=true:=by
  rw[T9];intro y hy;rw[List.eq_of_mem_replicate hy];rfl
 have I:=(af D (.lst (Qq xs.length (V.int (m:Int))))) _ _ c;refine⟨p,N,_,_,rfl,rfl,.inl (.inl I),Pg.up,v,v,_,rfl,?_⟩;have ee:ff (Qq xs.length (V.int (m:Int))) (Qq xs.length (V.int (m:Int)))=true:=by
  have:=ku (Qq xs.length (m:Int)) (Qq xs.length (m:Int));rw[List.map_replicate,P7 rfl] at this;exact this
 rw[ee];refine ba ?_;exact⟨_,rfl,p,_,0,.int (m:Int),rfl,rfl,.inl (.inl I),d,z _ ((s1.trans s2).trans (af D _))⟩
end Ord
namespace Bk
open Mx
theorem Cz {r:O5}(rise:(r.map (·.1)).Pairwise (· < ·))(h:∀d∈r,0<=d.1/\d.1<8):r.length<=8:=by
 have b:(r.map (·.1)).Nodup:=rise.imp λh e=>Pp h (by rw[e];lia);have:=L2.bZ (r.map (·.1)) (aw 8) b λx c=>by
  obtain⟨d,hd,rfl⟩:=P6.mp c;exact br.mpr (h d hd)
 rw[PP,bc] at this;exact this
theorem yd (m:SQ rs)(w:WF rs){i:Nat}(h:rs[i]?=some r):
  (∀d∈r,0<=d.1/\d.1<8/\0<=d.2/\d.2<((bz (rs.take i)).length:Nat)/\((bz (rs.take i)).getD d.2.toNat 0).testBit d.1.toNat=false/\lX (bz (rs.take i)) d=QG rs (i+2))/\bz (rs.take (i+1))=bz (rs.take i)++[QG rs (i+2)]:=by
 have p:=(QE.mp h).1;have b:(rs.take i).length=i:=by rw[RW];lia
 have g:=dj (rs.take i);have ok:=w i r h;have each:∀d∈r,0<=d.1/\d.1<8/\0<=d.2/\d.2<((bz (rs.take i)).length:Nat)/\((bz (rs.take i)).getD d.2.toNat 0).testBit d.1.toNat=false/\lX (bz (rs.take i)) d=QG rs (i+2):=λd hd=>by
  obtain⟨f,j,c,l⟩:=m i r h d hd;obtain⟨o,n⟩:=ok.ahead d hd;have e:(bz (rs.take i)).getD d.2.toNat 0=QG rs d.2.toNat:=(eQ (adq i rs) (by rw[b];lia)).symm;refine⟨f,j,by lia,by rw[g,b];lia,by rw[e];exact c,?_⟩;unfold lX;rw[e];exact l
 refine⟨each,?_⟩;rw[YG,h];unfold bz;rw[abo,VG];show iK (bz (rs.take i)) r=_;unfold iK;cases r with
 | nil=>exact Pp rfl ok.ne
 | cons d r=>rw[List.headD_cons,(each d Px).2.2.2.2.2];rfl
end Bk
namespace L2
theorem ar.RS (e:ar H H')(h:Pg K H a xs):Pg K H' a xs:=by
 rcases h with(h|⟨o,h⟩)|h
 .exact .inl (.inl (e _ _ h))
 .exact .inl (.inr ⟨o,e _ _ h⟩)
 .exact .inr h
end L2
namespace Ord
open PySem L2 Mx
structure acn (many:Int)(rs):Prop where
 wf:Bk.WF rs
 mask:Bk.SQ rs
 less:∀r∈rs,∀d∈r,d.1<many
 Qk:rs.length<=1000
def oK (K:O6):Sp:=λvs H Q _=>∃(many:Int) (l:f') (xs:List V) (rs:List Bk.O5),vs=[.int many,.ref l]/\Pg K H l xs/\Pl (bH K H) xs rs/\acn many rs/\
 ∀(t:f') (H':Hp),ar H H'->H' t=some (.lst (aZ (Bk.bz rs)))->Q (.ref t) H'
theorem uG:Qc ["many","rooms","things","room"] ["many","rooms"] (ap ya):={}
theorem ER (F:PR K "things_from" "things_from" ya f fd)(T:Qj K mg CO)(WD:Df P w K mg base Ph 3 "look_doors" ["many","room","number"] (wz K))(WO:Df P w K mg base Ph 2 "things_of_room" ["room","things"] (uE K)):
  Py P w K mg base Ph 4 f fd ["many","rooms"] (oK K):=by
 refine F.ok uG (λvs H Q E h=>?_) (λM A outer s H vs Q E v h=>?_)
 .obtain⟨many,l,xs,rs,rfl,_⟩:=h;rfl
 obtain⟨many,l,xs,rs,rfl,p,C,W,z⟩:=h;refine⟨_,ae (ay (i:=2) uG.nd rfl (PB rfl) (bf (ac ao (ac ao ad))))
  (ae (PS.Sg (bL RB rfl (cf (pv 1)) (bw (i:=3) uG.nd rfl (PB rfl))
   (ae (bA (az WD v rfl pS (ac (pv 0) (ac (pv 3) (ac (aB aN rfl T.t.len bN (ac (pv 2) ad)) ad)))))
   (ai (bA (dJ T4 VC VD cN (pv 2) (ac (az WO (v.mono (by decide)) rfl pS (ac (pv 3) (ac (pv 2) ad))) ad)))))))
  (ai (aH (pv 2)))),?_⟩
 refine⟨by show 2<=Pj;decide,λt u=>?_⟩;have s1:ar H (upd H t (.lst [V.int 0,V.int 0])):=af u _;have hlen:=C.length;refine⟨_,rfl,l,rfl,⟨_,s1.RS p⟩,cP (K:=K) (a:=l) (xs:=xs) (λi j g=>∃n,j=[some (.int many),some (.ref l),some (.ref t),n]/\ar H g/\g t=some (.lst (aZ (Bk.bz (rs.take i))))) ⟨none,rfl,s1,ag⟩ ?_ ?_ ?_⟩
 .rintro i j g _ ⟨n,rfl,s2,_⟩;exact s2.RS p
 .rintro i x j g I ⟨n,rfl,s2,c⟩;obtain⟨r,m,y⟩:=bS C I;have O:=(QE.mp m).1;have Qk:=W.Qk;have G:(rs.take i).length=i:=by rw[RW];lia
  have ok:=W.wf i r m;obtain⟨mt,J⟩:=Bk.yd W.mask W.wf m;have mem:=QF m;have D:(aZ (Bk.bz (rs.take i))).length=i+2:=by unfold aZ;rw[PP,Bk.dj,G]
  refine⟨_,rfl,_,rfl,_,rfl,t,_,rfl,.inl (.inl (.inl c)),many,_,x,r,rfl,y.same s2,ok.ne,ok.rise,λd hd=>⟨(mt d hd).1,W.less r mem d hd,(ok.ahead d hd).1,?_⟩,?_⟩
  .rw[D];have:=(ok.ahead d hd).2;lia
  refine⟨_,rfl,.inl ⟨rfl,_,.inl (.inl c)⟩,_,rfl,_,rfl,x,r,t,Bk.bz (rs.take i),Bk.QG rs (i+2),rfl,y.same s2,ok.ne,Bk.Cz ok.rise (λd hd=>⟨(mt d hd).1,(mt d hd).2.1⟩),.inl (.inl c),mt,λN s3=>?_⟩;refine⟨t,_,_,rfl,rfl,s3 _ _ c,by rw[D,PY];lia,?_⟩;have L:H t=none:=u;refine⟨_,rfl,λb o e=>?_,?_⟩
  .rw[aq (au e L)];exact s3 b o (s2 b o e)
  .rw[ag,J];unfold aZ;rw[Rm];rfl
 .rintro j g ⟨n,rfl,s2,c⟩;rw[hlen,SD] at c;exact⟨_,rfl,z t g s2 c⟩
end Ord
namespace Bk
open Mx
structure Wd (rs:List O5)(ws:List Int):Prop where
 nd:ws.Nodup
 Sl:∀x∈ws,0<=x/\x<(rs.length:Int)+2
 z:(0:Int)∈ws
 o:(1:Int)∈ws
theorem Wd.len (w:Wd rs ws):ws.length<=rs.length+2:=by
 have:=L2.bZ ws (aw (rs.length+2)) w.nd λx b=>br.mpr (by have:=w.Sl x b;lia);rw[bc] at this;exact this
theorem wA (wf:WF rs):∀(n:Nat) (k:Int) (ws:List Int),eW n rs k->Wd rs ws->Wd rs (walk n rs k ws)/\(∀x∈ws,x∈walk n rs k ws)/\∀x∈walk n rs k ws,x∈ws\/x<=k
 | 0,k,ws,f,w=>⟨w,λ_ h=>h,λx h=>.inl h⟩
 | n+1,k,ws,f,w=>by
  unfold walk
  by_cases c:k∈ws
  .rw[Pf c];exact⟨w,λ_ h=>h,λx h=>.inl h⟩
  rw[O9 c];obtain⟨k2,kl,fd⟩:2<=k/\(k-2).toNat<rs.length/\∀d∈aU rs k,eW n rs d.2:=by
   rcases f with f|f|f
   .exact Pp (f▸w.z) c
   .exact Pp (f▸w.o) c
   .exact f
  have ok:=wf _ _ (fF kl);have fold:∀(ds:O5) (ws:List Int),(∀d∈ds,eW n rs d.2/\d.2<k)->Wd rs ws->Wd rs (ds.foldl (λw d=>walk n rs d.2 w) ws)/\(∀x∈ws,x∈ds.foldl (λw d=>walk n rs d.2 w) ws)/\∀x∈ds.foldl (λw d=>walk n rs d.2 w) ws,x∈ws\/x<k:=by
   intro ds
   induction ds with
   | nil=>intro ws _ w;exact⟨w,λ_ h=>h,λx h=>.inl h⟩
   | cons d ds ih=>
    intro ws hd w;obtain⟨e,j,g⟩:=wA wf n d.2 ws (hd d Px).1 w;obtain⟨m,l,p⟩:=ih (walk n rs d.2 ws) (λd' h'=>hd d' (PU _ h')) e;refine⟨m,λx b=>l x (j x b),λx b=>?_⟩;rcases p x b with h|h
    .rcases g x h with h|h
     .exact .inl h
     .exact .inr (Int.lt_of_le_of_lt h (hd d Px).2)
    .exact .inr h
  obtain⟨e,j,g⟩:=fold (aU rs k) ws (λd hd=>⟨fd d hd,by have:=(ok.ahead d hd).2;lia⟩) w;have s:k∉(aU rs k).foldl (λw d=>walk n rs d.2 w) ws:=λh=>by
   rcases g k h with h|h
   .exact c h
   .omega
  refine⟨⟨?_,λx b=>?_,R8 _ e.z,R8 _ e.o⟩,λx b=>R8 _ (j x b),λx b=>?_⟩
  .rw[VH];exact⟨e.nd,by simp,λx b y t=>by rw[Qw.mp t];rintro rfl;exact s b⟩
  .rcases QJ.mp b with h|h
   .exact e.Sl x h
   .rw[Qw.mp h];lia
  .rcases QJ.mp b with h|h
   .rcases g x h with h|h
    .exact .inl h
    .exact .inr (by lia)
   .rw[Qw.mp h];exact .inr (Int.le_refl _)
theorem kR (wf:WF rs)(w:Wd rs ws)(kl:(k-2).toNat<rs.length)(k2:2<=k)(c:k∉ws)(fd:∀d∈aU rs k,eW n rs d.2):
  ∀i,i<=(aU rs k).length->Wd rs (((aU rs k).take i).foldl (λw d=>walk n rs d.2 w) ws)/\k∉((aU rs k).take i).foldl (λw d=>walk n rs d.2 w) ws
 | 0,_=>⟨w,c⟩
 | i+1,h=>by
  obtain⟨j,m⟩:=kR wf w kl k2 c fd i (by lia);have b:i<(aU rs k).length:=by lia
  have e:(aU rs k).take (i+1)=(aU rs k).take i++[(aU rs k)[i]]:=by rw[YG,Qu b];rfl
  rw[e,VG];show Wd rs (walk n rs (aU rs k)[i].2 _)/\k∉walk n rs (aU rs k)[i].2 _;have mem:(aU rs k)[i]∈aU rs k:=Wy b;have ok:=(wf _ _ (fF kl)).ahead _ mem;obtain⟨f,o,g⟩:=wA wf n _ _ (fd _ mem) j;refine⟨f,λl=>?_⟩;rcases g k l with z|z
  .exact m z
  .omega
end Bk
namespace L2
open PySem
def bD (d:f')(H H':Hp):Prop:=∀b o,b≠d->H b=some o->H' b=some o
theorem bD.refl (d:f')(H):bD d H H:=λ_ _ _ e=>e
theorem bD.trans (e:bD d H H')(e':bD d H' SM):bD d H SM:=λb o n h=>e' b o n (e b o n h)
theorem bD.upd (o):bD d H (L2.upd H d o):=λb u n h=>by rw[aq n];exact h
theorem bD.Qh (e:bD d H H')(hd:H d=some (.dK kvs))(h:Pw K H a xs):Pw K H' a xs:=by
 rcases h with(h|⟨o,h⟩)|h
 .exact .inl (.inl (e _ _ (by rintro rfl;rw[hd] at h;cases h) h))
 .exact .inl (.inr ⟨o,e _ _ (by rintro rfl;rw[hd] at h;cases h) h⟩)
 .exact .inr h
theorem bD.RS (e:bD d H H')(hd:H d=some (.dK kvs))(h:Pg K H a xs):Pg K H' a xs:=by
 rcases h with(h|⟨o,h⟩)|h
 .exact .inl (.inl (e _ _ (by rintro rfl;rw[hd] at h;cases h) h))
 .exact .inl (.inr ⟨o,e _ _ (by rintro rfl;rw[hd] at h;cases h) h⟩)
 .exact .inr h
theorem bC {α:Type}{l:List α}{i:Nat}{x:α}(h:l[i]?=some x):l.take (i+1)=l.take i++[x]:=by rw[YG,h];rfl
noncomputable def Uo (ws:List Int):List (Key×V):=ws.map λk=>(Ru k,V.bl true)
theorem pW (ws)(k:Int):(cx (Uo ws) (.inl k)).isSome=decide (k∈ws):=by
 induction ws with
 | nil=>rfl
 | cons x ws b=>
  by_cases h:x=k
  .subst h;show(cx ((Ru x,V.bl true)::Uo ws) (.inl x)).isSome=_;rw[dW rfl];simp
  .show(cx ((Ru x,V.bl true)::Uo ws) (.inl k)).isSome=_;rw[dX (by intro e;exact h (aaH e)),b];simp[Qi h]
theorem ES (h:k∉ws):cV (Uo ws) (.inl k) (.bl true)=Uo (ws++[k]):=by
 unfold cV;rw[jG,pW,P8 h,O9 (by decide)];unfold Uo;rw[Rm];rfl
end L2
namespace Ord
open PySem L2 Mx
theorem bH.af1 (s:bD d H H')(hd:H d=some (.dK kvs))(h:bH K H x r):bH K H' x r:=by
 obtain⟨a,xs,e,q,z⟩:=h;exact⟨a,xs,e,s.Qh hd q,aJ (λ_ _ ⟨p,e,q⟩=>⟨p,e,s.Qh hd q⟩) z⟩
def oM (K:O6)(n:Nat):Sp:=λvs H Q _=>∃(l wd:f') (xs:List V) (rs:List Bk.O5) (k:Int) (ws:List Int),vs=[.ref l,.int k,.ref wd]/\Pg K H l xs/\Pl (bH K H) xs rs/\Bk.WF rs/\rs.length<=1000/\
 H wd=some (.dK (Uo ws))/\Bk.Wd rs ws/\Bk.eW n rs k/\∀H',bD wd H H'->H' wd=some (.dK (Uo (Bk.walk n rs k ws)))->Q .Qt H'
theorem Ar:Qc ["rooms","number","walked","door"] ["rooms","number","walked"] (ap sC):={}
theorem uH (F:PR K "walk_rooms" "walk_rooms" sC f fd)(T:Qj K mg CO)(n:Nat)(WW:∀m,n=m+1->Df P w K mg base Ph (m+1) "walk_rooms" ["rooms","number","walked"] (oM K m)):
  Py P w K mg base Ph (n+1) f fd ["rooms","number","walked"] (oM K n):=by
 refine F.ok Ar (λvs H Q E h=>?_) (λPi A outer s H vs Q E I h=>?_)
 .obtain⟨l,b,xs,rs,k,j,rfl,_⟩:=h;rfl
 obtain⟨l,b,xs,rs,k,j,rfl,O,S,wf,Qk,g,W,M,z⟩:=h;obtain⟨U,m2⟩:=T.low
 by_cases c:k∈j
 .refine⟨_,ae (aY (y9 (zP (ss I) (pv 1) (pv 2))) (ai pD) aI) (ae aM (ai aM)),?_⟩;refine⟨_,rfl,_,rfl,b,_,rfl,jH.k (k:=.inl k) g,_,rfl,?_⟩;rw[pW,P7 c];refine bn ?_;rw[Bk.lW c] at z;exact z H (bD.refl _ _) g
 cases n with
 | zero=>
  exfalso;rcases M with e|e
  .exact c (e▸W.z)
  .exact c (e▸W.o)
 | succ n=>
  obtain⟨k2,kl,fd'⟩:2<=k/\(k-2).toNat<rs.length/\∀d∈Bk.aU rs k,Bk.eW n rs d.2:=by
   rcases M with e|e|e
   .exact Pp (e▸W.z) c
   .exact Pp (e▸W.o) c
   .exact e
  have D:=WW n rfl;refine⟨_,ae (aY (y9 (zP (ss I) (pv 1) (pv 2))) (ai pD) aI)
   (ae (PS.Sg (bL RB rfl (fK (bj (show SY _ (fL K) from bB) (pv 0) (av bM (pv 1) (aR (v:=.int 2) rfl m2 ⟨U,rfl⟩)) (λ_ _=>rfl))) (bw (i:=3) Ar.nd rfl (PB rfl))
    (ai (bA (az D I rfl pS (ac (pv 0) (ac (Rq K (pv 3) ao) (ac (pv 2) ad))))))))
   (ai (Ew (ss I) (pv 2) (pv 1) gn rfl))),?_⟩
  refine⟨_,rfl,_,rfl,b,_,rfl,jH.k (k:=.inl k) g,_,rfl,?_⟩;rw[pW,P8 c];refine ba ?_;obtain⟨x,hx,ra⟩:=fc S (Bk.fF kl);obtain⟨a,Y,rfl,N,R⟩:=id ra;have ik:Si xs (k-2)=some (.ref a):=by
   have:=bU hx;rw[show(((k-2).toNat:Nat):Int)=k-2 by lia] at this;exact this
  refine⟨_,rfl,_,rfl,k,2,rfl,rfl,l,xs,k-2,.ref a,rfl,rfl,O,ik,a,rfl,⟨_,N⟩,
   jk (K:=K) (a:=a) (xs:=Y) (λi C t=>∃J,C=[some (.ref l),some (.int k),some (.ref b),J]/\bD b H t/\t b=some (.dK (Uo (((Bk.aU rs k).take i).foldl (λw d=>Bk.walk n rs d.2 w) j)))) ⟨none,rfl,bD.refl _ _,g⟩ ?_ ?_ ?_⟩
  .rintro i C t _ ⟨J,rfl,s2,_⟩;exact s2.Qh g N
  .rintro i y C t hy ⟨J,rfl,s2,u⟩;obtain⟨⟨dt,dk⟩,hd,p,rfl,Z⟩:=bS R hy;obtain⟨il,ie⟩:=QE.mp hd;obtain⟨G,L⟩:=Bk.kR wf W kl k2 c fd' i (by lia);refine⟨_,rfl,_,rfl,p,_,1,.int dk,rfl,rfl,s2.Qh g Z,jb,_,rfl,l,b,xs,rs,dk,_,rfl,s2.RS g O,aJ (λ_ _ z=>z.af1 s2 g) S,wf,Qk,u,G,fd' _ (QF hd),λH3 s3 h3=>?_⟩;refine⟨_,rfl,s2.trans s3,?_⟩;rw[bC hd,VG];exact h3
  .rintro C t ⟨J,rfl,s2,u⟩;have X:=R.length;obtain⟨G,L⟩:=Bk.kR wf W kl k2 c fd' (Bk.aU rs k).length (Po _);rw[X] at u;rw[SD] at u G L;refine⟨_,rfl,_,rfl,b,_,rfl,tW.k (k:=.inl k) u ?_,?_⟩
   .unfold Uo;rw[PP,PY];have:=G.len;lia
   .refine z _ (s2.trans (bD.upd _)) ?_;have e:Bk.walk (n+1) rs k j=(Bk.aU rs k).foldl (λw d=>Bk.walk n rs d.2 w) j++[k]:=by rw[Bk.walk];exact O9 c
    rw[ag,ES L,e]
theorem wB (F:PR K "walk_rooms" "walk_rooms" sC f fd)(T:Qj K mg CO)(b:bK K fd ["rooms","number","walked"] [])(m:mg "walk_rooms"=some (.ref f)):
  ∀n,Py P w K mg base Ph (n+1) f fd ["rooms","number","walked"] (oM K n)
 | 0=>uH F T 0 λm h=>nomatch h
 | n+1=>uH F T (n+1) λk h=>by
  cases h;exact⟨f,fd,wB F T b m n,b,F.kp,m⟩
end Ord
namespace L2
open PySem
noncomputable def enc (r:Bk.O5):List (List Int):=r.map λd=>[d.1,d.2]
theorem gT (h:enc r=enc r'):r=r':=by
 unfold enc at h;exact(List.map_inj_right (f:=λd:Int×Int=>[d.1,d.2]) (λa b e=>by
  simp only[abD,and_true] at e;exact Z9 e.1 e.2)).mp h
theorem ye:Sr "set"=some (.type "set"):=by decide +kernel
end L2
namespace Ord
open PySem L2 Mx
theorem bH.rep (h:bH K H x r):de.rep K H x (enc r):=by
 obtain⟨a,xs,e,q,z⟩:=h;refine⟨a,xs,e,q,?_⟩;clear q e
 induction z with
 | nil=>exact .nil
 | cons h _ b=>
  obtain⟨p,e,q⟩:=h;exact .cons ⟨p,_,e,q,.cons rfl (.cons rfl .nil)⟩ b
theorem fG:∀{xs:List V}{rs:List Bk.O5},Pl (bH K H) xs rs->Pl (de.rep K H) xs (rs.map enc)
 | _,_,.nil=>.nil
 | _,_,.cons h t=>.cons h.rep (fG t)
def wC (K:O6)(n:Nat):Sp:=λvs H Q _=>∃(l:f') (xs:List V) (rs:List Bk.O5) (k:Int),vs=[.ref l,.int k]/\Pg K H l xs/\Pl (bH K H) xs rs/\Bk.WF rs/\rs.length<70/\rs.Nodup/\Bk.eW n rs k/\Bk.walk n rs k [0,1]=aw (rs.length+2)/\
 ∀H',ar H H'->Q .Qt H'
theorem wD:Qc ["rooms","first","walked"] ["rooms","first"] (ap uD):={}
theorem CA (n:Nat)(F:PR K "look_turn" "look_turn" uD f fd)(T:Qj K mg CO)(WW:Df P w K mg base Ph (n+1) "walk_rooms" ["rooms","number","walked"] (oM K n)):
  Py P w K mg base Ph (n+2) f fd ["rooms","first"] (wC K n):=by
 refine F.ok wD (λvs H Q E h=>?_) (λPi A outer s H vs Q E y h=>?_)
 .obtain⟨l,xs,rs,k,rfl,_⟩:=h;rfl
 obtain⟨l,xs,rs,k,rfl,j,J,wf,Qk,nd,SN,wk,z⟩:=h;obtain⟨t0,m0⟩:=T.no;obtain⟨t1,m1⟩:=T.en;obtain⟨Z,m2⟩:=T.low;refine⟨_,ae (aY (aP iI (aB Ao rfl T.t.len bN (ac (aV (Am de (Ku P w) (by have:=y.un;show(A.deeper _).units+1+1+1+1<PK;lia) rfl (λI h=>kC I h) (λ⟨p,_,e,_⟩=>⟨p,e⟩)) rfl T.set ye (ac (pv 0) ad)) ad))
    (aB aN rfl T.t.len bN (ac (pv 0) ad)) (aW _)) (ai aM) aI)
  (ae (ay (i:=2) wD.nd rfl (PB rfl) (vW (jI (aR (v:=.int 0) rfl m0 ⟨t0,rfl⟩) gn (jI (aR (v:=.int 1) rfl m1 ⟨t1,rfl⟩) gn vV)) rfl rfl (by decide) (by decide)))
  (ae (bA (az WW y rfl pS (ac (pv 0) (ac (pv 1) (ac (pv 2) ad)))))
  (ai (aY (aP (tJ y.θ) (aV (pQ rfl) rfl T.t.list ib (ac (pv 2) ad))
    (aV (gG rfl) rfl T.t.list ib (ac (aV dG rfl T.t.range fA (ac (av bT (aR (v:=.int 2) rfl m2 ⟨Z,rfl⟩) (aB aN rfl T.t.len bN (ac (pv 0) ad))) ad)) ad)) (aW _))
   (ai aM) aI)))),?_⟩
 refine⟨_,rfl,.ref l,rs.map enc,rfl,⟨l,xs,rfl,j,fG J⟩,by rw[PP];exact Qk,λp bs O G pb L mem=>?_⟩;have s1:ar H (upd H p (fX w p bs)):=af G _;have hlen:=J.length;have C:(rs.map enc).Nodup:=by
  unfold aaJ;rw[VE];exact nd.imp λh e=>h (gT e)
 have lb:bs.length=xs.length:=by
  have h1:=bZ O (rs.map enc) L λx hx=>(mem x).mp hx;have h2:=bZ (rs.map enc) O C λx hx=>(mem x).mpr hx;have h3:=pb.length;rw[PP] at h1 h2;lia
 refine⟨p,bs,rfl,ag,?_⟩;refine⟨_,rfl,l,_,rfl,.inl (s1.RS j),rfl,_,rfl,?_⟩;rw[lb,P7 rfl];refine ba ?_;intro c g;refine⟨ag,[(Ru 0,V.bl true),(Ru 1,V.bl true)],rfl,by decide,?_⟩;have Vq:(upd (upd (upd H p (fX w p bs)) c (HO.dK [])) c (HO.dK (gw [] [(Ru 0,V.bl true),(Ru 1,V.bl true)]))) c=some (.dK (Uo [0,1])):=by rw[ag];rfl
 have s3:ar H (upd (upd (upd H p (fX w p bs)) c (HO.dK [])) c (HO.dK (gw [] [(Ru 0,V.bl true),(Ru 1,V.bl true)]))):=λb o e=>by
  have R:b≠c:=au (s1 b o e) g;rw[aq R,aq R];exact s1 b o e
 refine⟨_,rfl,_,rfl,_,rfl,l,c,xs,rs,k,[0,1],rfl,s3.RS j,aJ (λ_ _ z=>z.same s3) J,wf,by lia,Vq,⟨by decide,λx hx=>?_,by decide,by decide⟩,SN,λS s4 M=>?_⟩
 .rcases PN.mp hx with rfl|hx
  .omega
  .rw[Qw.mp hx];lia
 rw[wk] at M;have u:H c=none:=s1.free g;have s5:ar H S:=λb o e=>s4 b o (au e u) (s3 b o e);have e1:(Uo (aw (rs.length+2))).map (λY=>kV Y.1)=(aw (rs.length+2)).map V.int:=by
  unfold Uo;rw[TC];rfl
 refine⟨_,rfl,c,_,rfl,M,λm Ry=>?_⟩;rw[e1];have s6:=s5.trans (af Ry (.lst ((aw (rs.length+2)).map V.int)));refine⟨_,rfl,l,_,rfl,.inl (s6.RS j),2,_,rfl,rfl,_,rfl,λW d=>?_⟩;have s7:=s6.trans (af d (.RK 0 (2+((xs.length:Nat):Int))));refine⟨W,0,2+((xs.length:Nat):Int),rfl,ag,by lia,by lia,by lia,by lia,by lia,λN U=>?_⟩;have X:cU 0 (2+((xs.length:Nat):Int)-0).toNat=(aw (rs.length+2)).map V.int:=by
  rw[cA,show(2+((xs.length:Nat):Int)-0).toNat=rs.length+2 by lia]
 rw[X];have D:(upd (upd (upd S m (.lst ((aw (rs.length+2)).map V.int))) W (.RK 0 (2+((xs.length:Nat):Int)))) N (.lst ((aw (rs.length+2)).map V.int))) m=some (.lst ((aw (rs.length+2)).map V.int)):=
  af U _ _ _ (af d _ _ _ ag)
 refine⟨m,N,_,_,rfl,rfl,.inl (.inl D),Pg.up,fB _,fB _,_,rfl,?_⟩;rw[ku,P7 rfl];exact ba (z _ (s7.trans (af U _)))
noncomputable abbrev CB:Pc:=top 34
structure VS (many:Nat)(rs)(first:Nat):Prop where
 m1:1<=many
 m8:many<=8
 rooms:acn many rs
 Qk:rs.length<70
 nd:rs.Nodup
 fst:first=0\/(1<first/\first<rs.length+2/\Bk.QG rs first=2 ^ many-1)
 fits:Bk.eW 8 rs first
 walk:Bk.walk 8 rs first [0,1]=aw (rs.length+2)
theorem Se.same (s:ar H H')(h:Se K H x many rs first):Se K H' x many rs first:=by
 obtain⟨b,l,xs,e,q,c,d⟩:=h.ex;exact⟨b,l,xs,e,s.Qh q,s.RS c,aJ (λ_ _ z=>z.same s) d⟩
def uI (K:O6):Sp:=λvs H Q _=>∃(x:V) (many:Nat) (rs:List Bk.O5) (first:Nat),vs=[x]/\Se K H x many rs first/\VS many rs first/\∀H',ar H H'->Q .Qt H'
theorem kS:Qc ["book","many","rooms","first","things"] ["book"] (ap sD):={}
theorem ET (F:PR K "look_book" "look_book" sD f fd)(WP:Df P w K mg base Ph 3 "look_parts" ["book"] (wx K))(WF':Df P w K mg base Ph 4 "things_from" ["many","rooms"] (oK K))(WL:Df P w K mg base Ph 1 "look_first" ["many","things","first"] (wy K))(WT:Df P w K mg base Ph 10 "look_turn" ["rooms","first"] (wC K 8)):Py P w K mg base Ph 11 f fd ["book"] (uI K):=by
 refine F.ok kS (λvs H Q E h=>?_) (λj A outer s H vs Q E c h=>?_)
 .obtain⟨x,many,rs,first,rfl,_⟩:=h;rfl
 obtain⟨x,many,rs,first,rfl,B,W,z⟩:=h;obtain⟨b,l,xs,rfl,q,e,g⟩:=id B.ex;have d:SY (dI Ph P w K mg base ["book","many","rooms","first","things"] "look_book" (ap sD) f j A outer s H E).Sg (BE K):=cZ;refine⟨_,ae (bA (az WP (c.mono (by decide)) rfl pS (ac (pv 0) ad)))
  (ae (ay (i:=1) kS.nd rfl (PB rfl) (bj d (pv 0) ao (λ_ _=>rfl)))
  (ae (ay (i:=2) kS.nd rfl (PB rfl) (bj d (pv 0) ao (λ_ _=>rfl)))
  (ae (ay (i:=3) kS.nd rfl (PB rfl) (bj d (pv 0) ao (λ_ _=>rfl)))
  (ae (ay (i:=4) kS.nd rfl (PB rfl) (az WF' (c.mono (by decide)) rfl pS (ac (pv 1) (ac (pv 2) ad))))
  (ae (bA (az WL (c.mono (by decide)) rfl pS (ac (pv 1) (ac (pv 4) (ac (pv 3) ad)))))
  (ai (bA (az WT c rfl pS (ac (pv 2) (ac (pv 3) ad)))))))))),?_⟩
 have m1:=W.m1;have m8:=W.m8;refine⟨_,rfl,.ref b,many,rs,first,rfl,B,by lia,by lia,?_⟩;refine⟨_,rfl,b,_,0,.int many,rfl,rfl,q,gJ,?_⟩;refine⟨_,rfl,b,_,1,.ref l,rfl,rfl,q,jb,?_⟩;refine⟨_,rfl,b,_,2,.int first,rfl,rfl,q,Ct,?_⟩;refine⟨_,rfl,_,rfl,many,l,xs,rs,rfl,e,g,W.rooms,λt o s1 n=>?_⟩;refine⟨_,rfl,_,rfl,_,rfl,many,first,t,Bk.bz rs,rfl,.inl (.inl n),m8,?_,?_⟩
 .rw[Bk.dj];exact W.fst
 refine⟨_,rfl,_,rfl,l,xs,rs,first,rfl,s1.RS e,aJ (λ_ _ z=>z.same s1) g,W.rooms.wf,W.Qk,W.nd,W.fits,W.walk,λm s2=>?_⟩;exact z m (s1.trans s2)
end Ord
namespace L2
open PySem
theorem cJ (h:Pw K H p (o.map V.int)):aA.rep K H (.ref p) o:=by
 refine⟨p,_,rfl,h,?_⟩;clear h
 induction o with
 | nil=>exact .nil
 | cons x o b=>exact .cons rfl b
theorem ce (h:aA.rep K H x o):∃p,x=.ref p/\Pw K H p (o.map V.int):=by
 obtain⟨p,xs,e,q,r⟩:=h;have:xs=o.map V.int:=by
  clear q e
  induction r with
  | nil=>rfl
  | cons h _ ih=>rw[ih,Qr];cases h;rfl
 exact⟨p,e,this▸q⟩
end L2
namespace Bk
open Mx
def pX (m:Int)(rs:List O5):Prop:=∀r∈rs,∀d∈r,d.1<m
theorem CC (h:x∈(keep rs r).2):x∈rs\/x=r:=by
 rcases dh rs r with e|⟨_,e,_⟩
 .rw[e] at h;exact .inl h
 .rw[e] at h;rcases QJ.mp h with h|h
  .exact .inl h
  .exact .inr (Qw.mp h)
theorem rq (hf:∀t rs,pX m rs->pX m (f (rests t os) rs).2):
  ∀(ts:List Int) (rs:List O5),(∀t∈ts,t<m)->pX m rs->pX m (aO f os ts rs).2/\∀d∈(aO f os ts rs).1,d.1<m
 | [],rs,_,h=>⟨h,λd hd=>by cases hd⟩
 | t::ts,rs,b,h=>by
  obtain⟨c,e⟩:=rq hf ts _ (λt' h'=>b t' (PU _ h')) (hf t rs h);refine⟨c,λd hd=>?_⟩;rcases PN.mp hd with rfl|hd
  .exact b t Px
  .exact e d hd
theorem uJ:∀(n:Nat) (os:ak) (rs:List O5),(∀o∈os,∀x∈o,x<m)->pX m rs->pX m (lay n os rs).2
 | 0,_,_,_,h=>h
 | n+1,os,rs,c,h=>by
  obtain⟨d,g⟩:=rq (m:=m) (f:=lay n) (os:=os) (λt rs h=>uJ n (rests t os) rs (λo b x j=>c _ (bb.mp b) x (PU _ j)) h) (heads os) rs (λt e=>by
   obtain⟨_,r,b⟩:=bE.mp e;exact c _ b t Px) h
  intro r b;rcases CC b with b|rfl
  .exact d r b
  .exact g
theorem uK (rs)(r):(keep rs r).2.length<=rs.length+1:=by
 rcases dh rs r with e|⟨_,e,_⟩
 .rw[e];lia
 .rw[e,QI];simp
noncomputable def jM:Nat->Nat
 | 0=>0
 | n+1=>1+(n+1)*jM n
theorem uL:∀(ts:List Int) (rs:List O5),(∀t∈ts,∀rs,(f (rests t os) rs).2.length<=rs.length+b)->(aO f os ts rs).2.length<=rs.length+ts.length*b
 | [],rs,_=>by show rs.length<=_;lia
 | t::ts,rs,c=>by
  have e:=uL ts (f (rests t os) rs).2 λt' h'=>c t' (PU _ h');have d:=c t Px rs;show(aO f os ts (f (rests t os) rs).2).2.length<=_;rw[Q0,abP];lia
theorem As (h:ez n S os)(ne:os≠[]):(heads os).length<=n:=by
 obtain⟨o,g⟩:=T3 os ne;have b:=h o g;have d:(heads os).Nodup:=(cC os).imp λh e=>Pp h (by rw[e];lia);have:=L2.bZ (heads os) o d λt f=>by
  obtain⟨_,r,c⟩:=bE.mp f;exact(b.2.2.2 t).mpr (((h _ c).2.2.2 t).mp Px)
 rw[b.1] at this;exact this
theorem rz:∀(n:Nat) (S:Int->Prop) (os:ak) (rs:List O5),ez n S os->os≠[]->(lay n os rs).2.length<=rs.length+jM n
 | 0,_,_,rs,_,_=>Po _
 | n+1,S,os,rs,h,ne=>by
  have l:=uL (f:=lay n) (os:=os) (b:=jM n) (heads os) rs λt g rs=>by
   obtain⟨_,r,d⟩:=bE.mp g;exact rz n _ (rests t os) rs (h.rests t) (λe=>by
    have:=bb.mpr d;rw[e] at this;cases this)
  have c:=As h ne;have m:=uK (aO (lay n) os (heads os) rs).2 (aO (lay n) os (heads os) rs).1;have j:(heads os).length*jM n<=(n+1)*jM n:=U' _ c;show(keep _ _).2.length<=_;unfold jM;lia
theorem kT {r:O5}(rise:(r.map (·.1)).Pairwise (· < ·))(h:∀d∈r,0<=d.1/\d.1<8):r.length<=8:=by
 have b:(r.map (·.1)).Nodup:=rise.imp λh e=>Pp h (by rw[e];lia);have:=L2.bZ (r.map (·.1)) (aw 8) b λx c=>by
  obtain⟨d,hd,rfl⟩:=P6.mp c;exact br.mpr (h d hd)
 rw[PP,bc] at this;exact this
end Bk
namespace Ord
open PySem L2 Mx
abbrev sE (many:Nat):Int->Prop:=λx=>0<=x/\x<(many:Int)
theorem yf (m1:1<=many)(m8:many<=8):VS many [] 0 where
 m1:=m1
 m8:=m8
 rooms:=⟨(λi r h=>by simp at h),(λi r h=>by simp at h),(λr h=>nomatch h),(by decide)⟩
 Qk:=by decide
 nd:=YO
 fst:=.inl rfl
 fits:=.inl rfl
 walk:=by rw[show((0:Nat):Int)=0 from rfl,Bk.lW (by decide)];rfl
theorem Au {os:Bk.ak}(m1:1<=many)(m8:many<=8)(h:Bk.ez many (sE many) os)(ne:os≠[])(Qk:(Bk.lay many os []).2.length<70):VS many (Bk.lay many os []).2 (Bk.lay many os []).1:=by
 have b:Bk.WF []:=λi r h=>by simp at h
 have c:Bk.SQ []:=λi r h=>by simp at h
 obtain⟨wf,pre,tells⟩:=Bk.cI many os [] h.plain ne b;obtain⟨mk,g⟩:=Bk.uy many (sE many) os [] h ne b c;have all:∀o∈Bk.P9 (Bk.lay many os []).2 (Bk.lay many os []).1,o.length=many:=λo d=>(h o ((tells.mem o).mp d)).1;have f:=Bk.wu wf many _ tells.lo tells.hi all;refine⟨m1,m8,⟨wf,mk,Bk.uJ many os [] (λo d x j=>(((h o d).2.2.2 x).mp j).2) (λr h=>by cases h),by lia⟩,Qk,Bk.qZ many os [] YO,.inr ⟨?_,tells.hi,Bk.Cs g⟩,f.le m8,?_⟩
 .have lo:=tells.lo;have l:(Bk.lay many os []).1≠1:=λe=>by
   have:=all [] (by rw[e,Bk.dC];exact Px);simp at this;lia
  lia
 .have:=Bk.uw many os [] (Bk.lay many os []).2 h.plain ne b SE 8 m8;exact this
theorem EU {os:Bk.ak}(h:Bk.ez many (sE many) os)(ne:os≠[]):Bk.cB (Bk.P9 (Bk.lay many os []).2 (Bk.lay many os []).1)/\Bk.et (Bk.P9 (Bk.lay many os []).2 (Bk.lay many os []).1) os:=by
 obtain⟨wf,pre,tells⟩:=Bk.cI many os [] h.plain ne (λi r h=>by simp at h);exact⟨tells.rise,tells.mem⟩
theorem Gv {os:Bk.ak}(h:Bk.ez many (sE many) os)(ne:os≠[])(ho:o.length=many):Bk.kP (Bk.lay many os []).2 (Bk.lay many os []).1 o/\(Bk.Tk (Bk.lay many os []).2 (Bk.lay many os []).1 o=1↔o∈os):=by
 obtain⟨wf,pre,tells⟩:=Bk.cI many os [] h.plain ne (λi r h=>by simp at h);have all:∀b∈Bk.P9 (Bk.lay many os []).2 (Bk.lay many os []).1,b.length=o.length:=λb c=>by rw[ho];exact(h b ((tells.mem b).mp c)).1
 exact⟨Bk.wv wf o _ tells.lo tells.hi all,(Bk.ux wf o _ tells.lo tells.hi all).trans (tells.mem o)⟩
end Ord
namespace L2
open PySem
def fq:HO->Prop
 | .tup _=>False
 | .Q8 _ _=>False
 | _=>True
theorem Pw.soft (hd:H d=some o)(so:fq o)(h:Pw K H a xs):Pw K (upd H d u) a xs:=by
 rcases h with(h|⟨ob,h⟩)|h
 .refine .inl (.inl ?_);rw[aq (by rintro rfl;rw[hd] at h;cases h;exact so)];exact h
 .refine .inl (.inr ⟨ob,?_⟩);rw[aq (by rintro rfl;rw[hd] at h;cases h;exact so)];exact h
 .exact .inr h
theorem eB (hd:H d=some o)(so:fq o)(h:aA.rep K H x ks):aA.rep K (upd H d u) x ks:=by
 obtain⟨p,xs,e,q,r⟩:=h;exact⟨p,xs,e,q.soft hd so,aJ (λ_ _ z=>z) r⟩
theorem jN (hd:H d=some o)(so:fq o)(h:de.rep K H x ks):de.rep K (upd H d u) x ks:=by
 obtain⟨p,xs,e,q,r⟩:=h;exact⟨p,xs,e,q.soft hd so,aJ (λ_ _ z=>eB hd so z) r⟩
theorem wE:∀{L:Tn}{rs:List Bk.O5}{k:Int},L.length=rs.length->(∀(i:Nat) (e:List (List Int)×f'×Int),L[i]?=some e->∃r,rs[i]?=some r/\e.1=enc r/\e.2.2=(i:Int)+k)->
  eU L (enc r)=if r∈rs then some ((rs.idxOf r:Nat)+k) else none
 | [],[],_,_,_=>rfl
 | [],_::_,_,h,_=>by simp at h
 | _::_,[],_,h,_=>by simp at h
 | e::L,b::rs,k,h,all=>by
  obtain⟨w,f,d,v⟩:=all 0 e rfl;simp at f;subst f;have s:=wE (r:=r) (L:=L) (rs:=rs) (k:=k+1) (by simpa using h) λi g n=>by
   obtain⟨j,o,t,p⟩:=all (i+1) g (by simpa using n);exact⟨j,by simpa using o,t,by rw[p];lia⟩
  by_cases c:b=r
  .subst c;rw[Pf Px,ac6];unfold eU;rw[afa (by simpa using d)];show some e.2.2=_;rw[v]
  .have l:¬e.1=enc r:=λz=>c (gT (d.symm.trans z));have u:eU (e::L) (enc r)=eU L (enc r):=by
    unfold eU;rw[YC (by simpa using l)]
   rw[u,s]
   by_cases m:r∈rs
   .rw[Pf m,Pf (PU _ m),adC,show(b==r)=false from by simpa using c];simp;lia
   .rw[O9 m,O9 (λz=>by rcases PN.mp z with z|z;exact c z.symm;exact m z)]
end L2
namespace Ord
open PySem L2 Mx
noncomputable abbrev Av:Pc:=top 19
noncomputable def wF (s:Pc):List Pc:=match s with
 | .ClassDef _ _ _ b _ _ _ _ _ _ _=>b
 | _=>[]
noncomputable abbrev yg:Pc:=(wF Av).getD 0 (.Pass ⟨0,0,0,0⟩)
noncomputable abbrev sF:Pc:=(wF Av).getD 1 (.Pass ⟨0,0,0,0⟩)
structure Vr (K)(C:f'):Prop where
 cls:Vl K C
 rooms:gu K C "rooms"
 η:gu K C "numbers"
def ni (L:Tn)(rs:List Bk.O5):Prop:=L.length=rs.length/\∀(i:Nat) (e:List (List Int)×f'×Int),L[i]?=some e->∃r,rs[i]?=some r/\e.1=enc r/\e.2.2=(i:Int)+2
structure R5 (K)(C:f')(H)(x lr dn:f')(rs):Prop where
 ex:∃dx xs L,H x=some (.ins C dx [("rooms",.ref lr),("numbers",.ref dn)])/\H lr=some (.lst xs)/\Pl (bH K H) xs rs/\H dn=some (fh dn L)/\jJ K H L/\ni L rs
def oO (K:O6)(C:f'):Sp:=λvs H Q _=>∃(x dx:f'),vs=[.ref x]/\H x=some (.ins C dx [])/\∀(lr dn:f') (H':Hp),H lr=none->H dn=none->(∀b o,b≠x->H b=some o->H' b=some o)->R5 K C H' x lr dn []->Q .Qt H'
theorem Gw:Qc ["self"] ["self"] (ap yg):={}
theorem EV (F:PR K "__init__" "Shelf.__init__" yg f fd)(c:Vr K C):Py P w K mg base Ph 1 f fd ["self"] (oO K C):=by
 refine F.ok Gw (λvs H Q E h=>?_) (λD A outer s H vs Q E G h=>?_)
 .obtain⟨x,n,rfl,_⟩:=h;rfl
 obtain⟨x,n,rfl,y,z⟩:=h;refine⟨_,ae (zh (pv 0) (bf ad) rfl) (ai (zh (pv 0) BW rfl)),?_⟩;refine⟨by show 0<=Pj;decide,λj t=>?_⟩;have m:x≠j:=au y t;refine⟨_,rfl,x,C,n,[],rfl,by rw[aq m];exact y,c.cls,c.rooms,by decide,?_⟩;intro l d;have p:x≠l:=au ag d;have v:j≠l:=λe=>by
  subst e;rw[aq (Qi m),ag] at d;cases d
 have g:H l=none:=by
  rw[aq (Qi p),aq (Qi v)] at d;exact d
 refine⟨_,rfl,x,C,n,[("rooms",.ref j)],rfl,by rw[aq p,ag];rfl,c.cls,c.η,by show 1<1000;decide,?_⟩;refine z j l _ t g (λb o u e=>?_) ⟨n,[],[],?_,?_,.nil,?_,(λe h=>nomatch h),rfl,(λi e h=>nomatch h)⟩
 .rw[aq u,aq (au e g),aq u,aq (au e t)];exact e
 .rw[ag];rfl
 .rw[aq (Qi m),aq v,aq (Qi m),ag]
 .rw[aq (Qi p),ag]
theorem bH.soft (hd:H d=some o)(so:fq o)(h:bH K H x r):bH K (upd H d u) x r:=by
 obtain⟨a,xs,e,q,z⟩:=h;exact⟨a,xs,e,q.soft hd so,aJ (λ_ _ ⟨p,e,q⟩=>⟨p,e,q.soft hd so⟩) z⟩
theorem ni.val (h:ni L rs)(r):eU L (enc r)=if r∈rs then some (((rs.idxOf r:Nat):Int)+2) else none:=wE h.1 h.2
theorem ni.snoc (h:ni L rs)(r)(b:f'):ni (L++[(enc r,b,(rs.length:Int)+2)]) (rs++[r]):=by
 refine⟨by rw[QI,QI,h.1];rfl,λi e c=>?_⟩
 by_cases f:i<L.length
 .rw[VB f] at c;obtain⟨n,g,l,m⟩:=h.2 i e c;exact⟨n,by rw[VB (by rw[<-h.1];exact f)];exact g,l,m⟩
 .have d:=(QE.mp c).1;rw[QI] at d;have j:i=L.length:=by simp at d;lia
  subst j;rw[Xx (Po _)] at c;simp at c;subst c;exact⟨r,by rw[h.1,Xx (Po _)];simp,rfl,by rw[h.1]⟩
def jw (K:O6)(C:f'):Sp:=λvs H Q _=>∃(x lr dn:f') (rs:List Bk.O5) (y:V) (r:Bk.O5),vs=[.ref x,y]/\R5 K C H x lr dn rs/\bH K H y r/\rs.length<1000/\
 ∀H',(∀b o,b≠lr->b≠dn->H b=some o->H' b=some o)->R5 K C H' x lr dn (Bk.keep rs r).2->Q (.int ((Bk.keep rs r).1:Nat)) H'
theorem Gx:Qc ["self","room"] ["self","room"] (ap sF):={}
theorem EW (F:PR K "keep" "Shelf.keep" sF f fd)(T:Qj K mg CO)(c:Vr K C):Py P w K mg base Ph 1 f fd ["self","room"] (jw K C):=by
 refine F.ok Gx (λvs H Q E h=>?_) (λPi A outer s H vs Q E hr h=>?_)
 .obtain⟨x,g,d,rs,y,r,rfl,_⟩:=h;rfl
 obtain⟨x,g,d,rs,y,r,rfl,S,D,Qk,z⟩:=h;obtain⟨n,xs,L,G,J,pr,p,N,I⟩:=S.ex;obtain⟨b,ys,rfl,qb,pb⟩:=id D;obtain⟨t2,m2⟩:=T.low;have O:(dI Ph P w K mg base ["self","room"] "Shelf.keep" (ap sF) f Pi A outer s H E).Sg.A.units+2<PK:=by have:=hr.un;show(A.deeper _).units+2<PK;lia
 refine⟨_,ae (aY (aP (zR O) (pv 1) (hG (pv 0) rfl) rfl)
   (ae (Ez O (hG (pv 0) rfl) (pv 1) (av bT (aB aN rfl T.t.len bN (ac (hG (pv 0) rfl) ad)) (aR (v:=.int 2) rfl m2 ⟨t2,rfl⟩)) rfl)
   (ai (bA (dJ T4 VC VD cN (hG (pv 0) rfl) (ac (pv 1) ad))))) aI)
  (ai (aH (Ey O (hG (pv 0) rfl) (pv 1) (λ_ _=>rfl)))),?_⟩
 have hlen:=pr.length;have n1:x≠g:=lG G J (λh=>nomatch h);have n2:x≠d:=lG G p (λh=>nomatch h);have Y:g≠d:=lG J p (λh=>nomatch h);refine⟨_,rfl,_,rfl,x,C,n,_,.ref d,rfl,G,c.cls,c.η,rfl,d,L,b,enc r,rfl,rfl,p,N,D.rep,_,rfl,?_⟩;rw[I.val r]
 by_cases m:r∈rs
 .rw[Pf m];refine ba ?_;have R:Bk.keep rs r=(rs.idxOf r+2,rs):=by unfold Bk.keep;rw[Pf m]
  rw[R] at z;refine⟨_,rfl,x,C,n,_,.ref d,rfl,G,c.cls,c.η,rfl,_,rfl,d,L,b,enc r,_,rfl,rfl,p,N,D.rep,(I.val r).trans (Pf m),?_⟩;exact z H (λb o _ _ e=>e) S
 .rw[O9 m];refine bn ?_;have R:Bk.keep rs r=(rs.length+2,rs++[r]):=by unfold Bk.keep;rw[O9 m]
  rw[R] at z;refine⟨_,rfl,x,C,n,_,.ref g,rfl,G,c.cls,c.rooms,rfl,g,xs,rfl,.inl (.inl (.inl J)),_,2,rfl,rfl,_,rfl,x,C,n,_,.ref d,rfl,G,c.cls,c.η,rfl,_,rfl,d,L,b,enc r,_,rfl,rfl,rfl,p,N,D.rep,(I.val r).trans (O9 m),by rw[I.1,PY];lia,?_⟩;have Z:fq (fh d L):=trivial;have j:∀u,upd H d u g=some (.lst xs):=λu=>by rw[aq Y];exact J
  have Yj:∀u,upd H d u x=some (.ins C n [("rooms",.ref g),("numbers",.ref d)]):=λu=>by rw[aq n2];exact G
  have U:fq (.lst xs):=trivial;refine⟨_,rfl,x,C,n,_,.ref g,rfl,Yj _,c.cls,c.rooms,rfl,.inl ⟨rfl,_,.inl (.inl (j _))⟩,_,rfl,g,xs,.ref b,rfl,rfl,j _,by rw[PY];lia,?_⟩;have eL:(xs.length:Int)+2=(rs.length:Int)+2:=by lia
  have Zl:ni (L++[(enc r,b,(xs.length:Int)+2)]) (rs++[r]):=by rw[eL];exact I.snoc r b
  have l:∀{y:V}{r':Bk.O5}{u v:HO},bH K H y r'->bH K (upd (upd H d u) g v) y r':=λh=>(h.soft p Z).soft (j _) U;have kk:∀{u v:HO},jJ K (upd (upd H d u) g v) (L++[(enc r,b,(xs.length:Int)+2)]):=λ{u v} e he=>by
   rcases QJ.mp he with h|h
   .exact jN (j _) U (jN p Z (N e h))
   .rw[Qw.mp h];exact(l D).rep
  have X:∀u v,upd (upd H d u) g v x=some (.ins C n [("rooms",.ref g),("numbers",.ref d)]):=λu v=>by rw[aq n1];exact Yj u
  have W:∀u v,upd (upd H d u) g v d=some u:=λu v=>by rw[aq (Qi Y),ag]
  refine⟨_,rfl,x,C,n,_,.ref d,rfl,X _ _,c.cls,c.η,rfl,_,rfl,d,_,b,enc r,(xs.length:Int)+2,rfl,rfl,W _ _,kk,(l D).rep,?_,?_⟩
  .have M:=Zl.val r;rw[Pf (RA _ Px)] at M;rw[M,adk,O9 m];simp;lia
  .have:=z _ (λb o M h2 e=>by rw[aq M,aq h2];exact e) ⟨n,_,_,X _ _,ag,ck (aJ (λ_ _ h=>l h) pr) (.cons (l D) .nil),W _ _,kk,Zl⟩;rw[show((rs.length+2:Nat):Int)=(xs.length:Int)+2 by lia] at this;exact this
end Ord
namespace Bk
open Mx
noncomputable def gB (t:Int)(o:List Int):Bool:=match o with
 | x::_=>decide (x=t)
 | []=>false
theorem kU (h:t'≠t):∀os:ak,rests t' (os.filter λo=>!gB t o)=rests t' os
 | []=>rfl
 | o::os=>by
  have b:=kU h os;unfold rests at b ⊢;cases o with
  | nil=>rw[UJ rfl,T7,T7,b]
  | cons x o=>
   by_cases c:x=t
   .rw[Wo (by simp[gB,c]),b,T7];have:eP t' (x::o)=none:=O9 (by rw[c];exact Qi h);rw[this]
   .rw[UJ (by simp[gB,c]),T7,T7,b]
theorem mJ (t:Int):∀os:ak,(rests t os).length+(os.filter λo=>!gB t o).length<=os.length
 | []=>Po _
 | o::os=>by
  have b:=mJ t os;unfold rests at b ⊢;cases o with
  | nil=>
   rw[UJ rfl,T7];have:eP t []=none:=rfl;rw[this];simp only[Q0];lia
  | cons x o=>
   by_cases c:x=t
   .rw[Wo (by simp[gB,c]),T7];have:eP t (x::o)=some o:=Pf c;rw[this];simp only[Q0];lia
   .rw[UJ (by simp[gB,c]),T7];have:eP t (x::o)=none:=O9 c;rw[this];simp only[Q0];lia
theorem iL:∀(ts:List Int) (os:ak),ts.Nodup->(ts.map λt=>(rests t os).length).sum<=os.length
 | [],os,_=>QN _
 | t::ts,os,b=>by
  rw[Td] at b;have c:=iL ts (os.filter λo=>!gB t o) b.2;have e:(ts.map λt'=>(rests t' (os.filter λo=>!gB t o)).length)=ts.map λt'=>(rests t' os).length:=Tb λt' h'=>by
   have ne:t'≠t:=by rintro rfl;exact b.1 h'
   rw[kU ne]
  rw[e] at c;have:=mJ t os;rw[Qr,XG];lia
theorem jO:∀(ts:List Int) (rs:List O5),(∀t∈ts,∀rs,(f (rests t os) rs).2.length<=rs.length+b t)->(aO f os ts rs).2.length<=rs.length+(ts.map b).sum
 | [],rs,_=>by show rs.length<=_;lia
 | t::ts,rs,c=>by
  have e:=jO ts (f (rests t os) rs).2 λt' h'=>c t' (PU _ h');have d:=c t Px rs;show(aO f os ts (f (rests t os) rs).2).2.length<=_;rw[Qr,XG];lia
theorem me (n:Nat)(g:Int->Nat):∀ts:List Int,(ts.map λt=>g t*n).sum=(ts.map g).sum*n
 | []=>by simp
 | t::ts=>by rw[Qr,Qr,XG,XG,me n g ts,ab0]
theorem iM:∀(n:Nat) (os:ak) (rs:List O5),os≠[]->(lay n os rs).2.length<=rs.length+os.length*n
 | 0,_,rs,_=>by show rs.length<=_;lia
 | n+1,os,rs,ne=>by
  have j:=jO (f:=lay n) (os:=os) (b:=λt=>(rests t os).length*n) (heads os) rs λt g rs=>by
   obtain⟨_,r,c⟩:=bE.mp g;exact iM n (rests t os) rs λe=>by
    have:=bb.mpr c;rw[e] at this;cases this
  rw[me n (λt=>(rests t os).length)] at j;have d:(heads os).Nodup:=(cC os).imp λh e=>Pp h (by rw[e];lia);have l:=U' n (iL (heads os) os d);have o:=uK (aO (lay n) os (heads os) rs).2 (aO (lay n) os (heads os) rs).1;have m:0<os.length:=Wu.mpr ne;show(keep _ _).2.length<=_;rw[abT];lia
noncomputable def Qo (p:Nat)(o:List Int):Int:=(o[p]?).getD 0
noncomputable def kW (p:Nat)(g:List (Int×ak))(o:List Int):List (Int×ak):=
 if Qo p o∈g.map (·.1) then g.map (λe=>if e.1=Qo p o then (e.1,e.2++[o]) else e) else g++[(Qo p o,[o])]
structure R6 (p:Nat)(os:ak)(g:List (Int×ak)):Prop where
 nd:(g.map (·.1)).Nodup
 each:∀e∈g,e.2=os.filter λo=>decide (Qo p o=e.1)
 all:∀o∈os,Qo p o∈g.map (·.1)
 one:∀e∈g,e.2≠[]
theorem R6.nil (p:Nat):R6 p [] []:=⟨YO,(λe h=>nomatch h),(λo h=>nomatch h),(λe h=>nomatch h)⟩
theorem R6.add (G:R6 p os g)(o):R6 p (os++[o]) (kW p g o):=by
 unfold kW
 by_cases c:Qo p o∈g.map (·.1)
 .rw[Pf c];have keys:(g.map (λe=>if e.1=Qo p o then (e.1,e.2++[o]) else e)).map (·.1)=g.map (·.1):=by
   rw[TC];refine Tb λe _=>?_;show(if e.1=Qo p o then (e.1,e.2++[o]) else e).1=e.1
   split <;> rfl
  refine⟨by rw[keys];exact G.nd,λe b=>?_,λx d=>?_,λe b=>?_⟩
  .obtain⟨f,h0,rfl⟩:=P6.mp b;rw[YE]
   by_cases k:f.1=Qo p o
   .rw[Pf k,G.each f h0];simp[k]
   .rw[O9 k,G.each f h0];simp[Qi k]
  .rw[keys];rcases QJ.mp d with h|h
   .exact G.all x h
   .rw[Qw.mp h];exact c
  .obtain⟨f,h0,rfl⟩:=P6.mp b
   by_cases k:f.1=Qo p o
   .rw[Pf k];simp
   .rw[O9 k];exact G.one f h0
 .rw[O9 c];refine⟨?_,λe b=>?_,λx d=>?_,λe b=>?_⟩
  .rw[Rm,VH];exact⟨G.nd,by simp,λx d y j=>by
    have:y=Qo p o:=by simpa using j
    rw[this];rintro rfl;exact c d⟩
  .rw[YE];rcases QJ.mp b with h|h
   .have k:¬Qo p o=e.1:=λk=>c (by rw[k];exact P6.mpr ⟨e,h,rfl⟩);rw[G.each e h];simp[k]
   .rw[Qw.mp h];have:os.filter (λx=>decide (Qo p x=Qo p o))=[]:=List.filter_eq_nil_iff.mpr λx d l=>c (by
     have:=G.all x d;rw[UL l] at this;exact this)
    rw[this];simp
  .rw[Rm];rcases QJ.mp d with h|h
   .exact R8 _ (G.all x h)
   .rw[Qw.mp h];exact RA _ (by simp)
  .rcases QJ.mp b with h|h
   .exact G.one e h
   .rw[Qw.mp h];simp
noncomputable def bQ (p:Nat)(os:ak):List (Int×ak):=os.foldl (kW p) []
theorem fb (p:Nat)(os:ak)(o):bQ p (os++[o])=kW p (bQ p os) o:=by unfold bQ;rw[VG];rfl
theorem pY {α:Type}{P:List α->Prop}(h0:P [])(h1:∀l x,P l->P (l++[x]))(l:List α):P l:=by
 have:∀l:List α,P l.reverse:=λl=>by
  induction l with
  | nil=>exact h0
  | cons x l ih=>rw[List.reverse_cons];exact h1 _ _ ih
 have:=this l.reverse;rw[List.reverse_reverse] at this;exact this
theorem fH (p:Nat)(os:ak):R6 p os (bQ p os):=
 pY (P:=λos=>R6 p os (bQ p os)) (R6.nil p) (λl x b=>by rw[fb];exact b.add x) os
theorem vH (p:Nat)(os:ak):(os.map (Qo p)).Pairwise (·<=·)->((bQ p os).map (·.1)).Pairwise (· < ·):=by
 refine pY (P:=λos=>(os.map (Qo p)).Pairwise (·<=·)->((bQ p os).map (·.1)).Pairwise (· < ·)) (λ_=>ZQ) (λl x n h=>?_) os;rw[Rm,abm] at h;obtain⟨m,_,v⟩:=h;rw[fb];unfold kW
 by_cases c:Qo p x∈(bQ p l).map (·.1)
 .rw[Pf c,TC];have keys:((λe:Int×ak=>e.1)∘λe:Int×ak=>if e.1=Qo p x then (e.1,e.2++[x]) else e)=λe=>e.1:=by
   funext e
   show(if e.1=Qo p x then (e.1,e.2++[x]) else e).1=e.1
   split <;> rfl
  rw[keys];exact n m
 .rw[O9 c,Rm,abm];refine⟨n m,by simp,λa g b u=>?_⟩;have t:b=Qo p x:=by simpa using u
  subst t;obtain⟨e,j,rfl⟩:=P6.mp g;have G:=fH p l;obtain⟨o,f⟩:=T3 _ (G.one e j);rw[G.each e j] at f;obtain⟨d,s⟩:=So.mp f;have le:=v (Qo p o) (P6.mpr ⟨o,d,rfl⟩) (Qo p x) (by simp);rw[UL s] at le;have:e.1≠Qo p x:=λz=>c (z▸g);lia
end Bk
namespace Ord
open PySem L2 Mx
def eX (K:O6)(H0:Hp)(dP:f')(H:Hp)(kv:Key×V)(e:Int×Bk.ak):Prop:=∃a vs,kv=(Ru e.1,.ref a)/\H0 a=none/\a≠dP/\H a=some (.lst vs)/\Pl (aA.rep K H) vs e.2
structure XU (K:O6)(H0:Hp)(dP:f')(H:Hp)(kvs:List (Key×V))(g:List (Int×Bk.ak)):Prop where
 at_:H dP=some (.dK kvs)
 UE:Pl (eX K H0 dP H) kvs g
 nd:(kvs.map (·.2)).Nodup
theorem eX.soft (hd:H d=some o)(so:fq o)(ne:kv.2≠.ref d)(h:eX K H0 dP H kv e):eX K H0 dP (upd H d u) kv e:=by
 obtain⟨a,vs,rfl,f,b,g,c⟩:=h;exact⟨a,vs,rfl,f,b,by rw[aq (λz=>ne (by rw[z]))];exact g,aJ (λ_ _ z=>eB hd so z) c⟩
theorem eX.same (s:ar H H')(h:eX K H0 dP H kv e):eX K H0 dP H' kv e:=by
 obtain⟨a,vs,rfl,d,b,f,c⟩:=h;exact⟨a,vs,rfl,d,b,s _ _ f,aJ (λ_ _ z=>aA.mono s z) c⟩
theorem pZ:∀{kvs:List (Key×V)}{g:List (Int×Bk.ak)},Pl (eX K H0 dP H) kvs g->(cx kvs (.inl k)=none/\k∉g.map (·.1))\/∃a vs,cx kvs (.inl k)=some (.ref a)/\k∈g.map (·.1)/\V.ref a∈kvs.map (·.2)/\H0 a=none/\a≠dP/\H a=some (.lst vs)/\∃e∈g,vs.length=e.2.length
 | _,_,.nil=>.inl ⟨rfl,(λh=>nomatch h)⟩
 | kv::kvs,e::g,.cons h t=>by
  obtain⟨a,vs,rfl,x,u,y,j⟩:=h
  by_cases c:e.1=k
  .subst c;exact .inr ⟨a,vs,dW rfl,P6.mpr ⟨e,Px,rfl⟩,Px,x,u,y,e,Px,j.length⟩
  .rw[dX (λz=>c (aaH z))];rcases pZ (k:=k) t with⟨d,b⟩|⟨l,f,d,b,v,s,p,o,m,n,w⟩
   .exact .inl ⟨d,λz=>by rcases PN.mp z with z|z;exact c z.symm;exact b z⟩
   .exact .inr ⟨l,f,d,PU _ b,PU _ v,s,p,o,m,PU _ n,w⟩
theorem uM (hy:aA.rep K H y o)(ha:H a=some (.lst vs)):∀{kvs:List (Key×V)}{g:List (Int×Bk.ak)},Pl (eX K H0 dP H) kvs g->(kvs.map (·.2)).Nodup->(g.map (·.1)).Nodup->cx kvs (.inl k)=some (.ref a)->
  Pl (eX K H0 dP (upd H a (.lst (vs++[y])))) kvs (g.map λe=>if e.1=k then (e.1,e.2++[o]) else e)
 | _,_,.nil,_,_,h=>nomatch h
 | kv::kvs,e::g,.cons h t,f,m,b=>by
  rw[Qr,Td] at f m;have w:=h;obtain⟨s,A,rfl,v,u,n,p⟩:=h;rw[Qr]
  by_cases c:e.1=k
  .subst c;rw[dW rfl] at b;cases b;rw[ha] at n;cases n;rw[Pf rfl];have rest:∀{kvs:List (Key×V)}{g:List (Int×Bk.ak)},Pl (eX K H0 dP H) kvs g->V.ref a∉kvs.map (·.2)->e.1∉g.map (·.1)->Pl (eX K H0 dP (upd H a (.lst (vs++[y])))) kvs (g.map λd=>if d.1=e.1 then (d.1,d.2++[o]) else d):=by
    intro kvs g t
    induction t with
    | nil=>intro _ _;exact .nil
    | @cons kv0 e0 kvs g h _ ih=>
     intro l j;rw[Qr,PN,not_or] at l j;rw[Qr,O9 (Qi j.1)];exact .cons (h.soft ha trivial (Qi l.1)) (ih l.2 j.2)
   refine .cons ⟨a,vs++[y],rfl,v,u,ag,ck (aJ (λ_ _ z=>eB ha trivial z) p) (.cons (eB ha trivial hy) .nil)⟩ (rest t f.1 m.1)
  .rw[O9 c];rw[dX (λz=>c (aaH z))] at b;have x:V.ref s≠V.ref a:=λz=>by
    have:∀{kvs:List (Key×V)},cx kvs (.inl k)=some (.ref a)->V.ref a∈kvs.map (·.2):=by
     intro kvs
     induction kvs with
     | nil=>intro h;cases h
     | cons kv kvs ih=>
      intro h
      by_cases c:kv.1=.inl k
      .rw[dW c] at h;exact PN.mpr (.inl (Sn h).symm)
      .rw[dX c] at h;exact PU _ (ih h)
    exact f.1 (z▸this b)
   exact .cons (w.soft ha trivial x) (uM hy ha t f.2 m.2 b)
theorem oP (p:Nat)(os):(Bk.bQ p os).length<=os.length:=
 Bk.pY (P:=λos=>(Bk.bQ p os).length<=os.length) (Po _) (λl x b=>by
  rw[Bk.fb,QI];unfold Bk.kW
  split
  .rw[PP];simp;lia
  .rw[QI];simp;lia) os
theorem XU.more {os:Bk.ak}(h:XU K H0 dP H kvs (Bk.bQ p os))(Rw:H e0=none)(hy:aA.rep K H y o)(hv:cx kvs (.inl (Bk.Qo p o))=some (.ref a))(hk:Bk.Qo p o∈(Bk.bQ p os).map (·.1))(ha:H a=some (.lst vs))(nd:a≠dP):XU K H0 dP (upd (upd H e0 (.lst [])) a (.lst (vs++[y]))) kvs (Bk.bQ p (os++[o])):=by
 have s1:ar H (upd H e0 (.lst [])):=af Rw _;rw[Bk.fb];unfold Bk.kW;rw[Pf hk];refine⟨?_,uM (aA.mono s1 hy) (s1 _ _ ha) (aJ (λ_ _ z=>z.same s1) h.UE) h.nd (Bk.fH p os).nd hv,h.nd⟩;rw[aq (Qi nd)];exact s1 _ _ h.at_
theorem XU.fresh {os:Bk.ak}(h:XU K H0 dP H kvs (Bk.bQ p os))(Rw:H e0=none)(h0:H0 e0=none)(hy:aA.rep K H y o)(hv:cx kvs (.inl (Bk.Qo p o))=none)(hk:Bk.Qo p o∉(Bk.bQ p os).map (·.1)):
  XU K H0 dP (upd (upd (upd H e0 (.lst [])) dP (.dK (cV kvs (.inl (Bk.Qo p o)) (.ref e0)))) e0 (.lst ([]++[y]))) (kvs++[(.inl (Bk.Qo p o),.ref e0)]) (Bk.bQ p (os++[o])):=by
 have s1:ar H (upd H e0 (.lst [])):=af Rw _;have c:dP≠e0:=au h.at_ Rw;have ep:cV kvs (.inl (Bk.Qo p o)) (.ref e0)=kvs++[(.inl (Bk.Qo p o),.ref e0)]:=by
  unfold cV;rw[jG,hv,O9 (by decide)]
 have l:(upd H e0 (.lst [])) dP=some (.dK kvs):=s1 _ _ h.at_;have m:∀u,(upd (upd H e0 (.lst [])) dP u) e0=some (.lst []):=λu=>by rw[aq (Qi c),ag]
 have j:∀{kvs:List (Key×V)}{g:List (Int×Bk.ak)},Pl (eX K H0 dP H) kvs g->∀b∈kvs,b.2≠.ref dP/\b.2≠.ref e0:=by
  intro kvs g t b d;obtain⟨e,_,a,vs,rfl,_,w,n,_⟩:=fg t b d;exact⟨λz=>w (V.ref.inj z),λz=>by
   have:a=e0:=V.ref.inj z;rw[this,Rw] at n;cases n⟩
 have old:∀{kvs:List (Key×V)}{g:List (Int×Bk.ak)}{u v:HO},Pl (eX K H0 dP H) kvs g->(∀b∈kvs,b.2≠.ref dP/\b.2≠.ref e0)->Pl (eX K H0 dP (upd (upd (upd H e0 (.lst [])) dP u) e0 v)) kvs g:=by
  intro kvs g u v t
  induction t with
  | nil=>intro _;exact .nil
  | cons h _ ih=>
   intro f;obtain⟨E,A⟩:=f _ Px;exact .cons (((h.same s1).soft l trivial E).soft (m u) trivial A) (ih λb d=>f b (PU _ d))
 rw[Bk.fb];unfold Bk.kW;rw[O9 hk];refine⟨by rw[aq c,ag,ep],ck (old h.UE (j h.UE)) (.cons ⟨e0,[]++[y],rfl,h0,Qi c,ag,.cons (eB (m _) trivial (eB l trivial (aA.mono s1 hy))) .nil⟩ .nil),?_⟩;rw[Rm,VH];refine⟨h.nd,by simp,λx C s D=>?_⟩;obtain⟨b,d,rfl⟩:=P6.mp C;have:s=V.ref e0:=by simpa using D
 rw[this];exact(j h.UE b d).2
end Ord
namespace Bk
open Mx
theorem iO:∀(ts:List Int) (rs:List O5),aO f os (ts++[t]) rs=((aO f os ts rs).1++[(t,((f (rests t os) (aO f os ts rs).2).1:Int))],(f (rests t os) (aO f os ts rs).2).2)
 | [],rs=>rfl
 | t'::ts,rs=>by
  show((t',_)::(aO f os (ts++[t]) _).1,(aO f os (ts++[t]) _).2)=_;rw[iO ts];rfl
theorem gb (h:p<o.length):o.drop p=Qo p o::o.drop (p+1):=by
 rw[aae h];unfold Qo;rw[Qu h];rfl
theorem mK:∀{os:ak},(∀o∈os,p<o.length)->(os.filter λo=>decide (Qo p o=t)).map (R9 (p+1))=rests t (os.map (R9 p))
 | [],_=>rfl
 | o::os,h=>by
  have b:=mK (t:=t) (os:=os) λd h'=>h d (PU _ h');have e:=h o Px;unfold rests at b ⊢;rw[Qr,T7,gb e]
  by_cases c:Qo p o=t
  .rw[UJ (by simpa using c),Qr,b];have:eP t (Qo p o::o.drop (p+1))=some (o.drop (p+1)):=Pf c;rw[this]
  .rw[Wo (by simpa using c),b];have:eP t (Qo p o::o.drop (p+1))=none:=O9 c;rw[this]
theorem qe:∀{a b:List Int},a.Pairwise (· < ·)->b.Pairwise (· < ·)->(∀x,x∈a↔x∈b)->a=b
 | [],[],_,_,_=>rfl
 | [],y::b,_,_,h=>Pp ((h y).mpr Px) (λz=>nomatch z)
 | x::a,[],_,_,h=>Pp ((h x).mp Px) (λz=>nomatch z)
 | x::a,y::b,c,d,h=>by
  rw[Ww] at c d;have e:x=y:=by
   have h1:=(h x).mp Px;have h2:=(h y).mpr Px;rcases PN.mp h1 with h1|h1
   .exact h1
   rcases PN.mp h2 with h2|h2
   .exact h2.symm
   have:=d.1 x h1;have:=c.1 y h2;lia
  subst e;rw[qe c.2 d.2 λz=>⟨λhz=>by
   rcases PN.mp ((h z).mp (PU _ hz)) with e|e
   .have:=c.1 z hz;lia
   .exact e,λhz=>by
   rcases PN.mp ((h z).mpr (PU _ hz)) with e|e
   .have:=d.1 z hz;lia
   .exact e⟩]
structure WZ (p n:Nat)(os:ak):Prop where
 ne:os≠[]
 len:∀o∈os,o.length=p+n
 things:∀o∈os,∀x∈o,0<=x/\x<8
 rise:os.Pairwise λa b=>¬lt (b.drop p) (a.drop p)
theorem WZ.af2 (ok:WZ p (n+1) os):(os.map (Qo p)).Pairwise (·<=·):=by
 rw[VE];refine ok.rise.imp_of_mem λ{a b} c d h=>?_;have e:=ok.len a c;have f:=ok.len b d;rw[gb (show p<a.length by lia),gb (show p<b.length by lia)] at h;refine Int.not_lt.mp λz=>h ?_;exact .inl z
theorem WZ.keys (ok:WZ p (n+1) os):(bQ p os).map (·.1)=heads (os.map (R9 p)):=by
 refine qe (vH p os ok.af2) (cC _) λt=>?_;have G:=fH p os;rw[bE];constructor
 .intro h;obtain⟨e,g,rfl⟩:=P6.mp h;obtain⟨o,b⟩:=T3 _ (G.one e g);rw[G.each e g] at b;obtain⟨d,j⟩:=So.mp b;have lo:=ok.len o d;have f:=gb (show p<o.length by lia);have c:Qo p o=e.1:=UL j;rw[c] at f;have mem:e.1∈o:=List.mem_of_mem_drop (i:=p) (by rw[f];exact Px);exact⟨ok.things o d _ mem,o.drop (p+1),P6.mpr ⟨o,d,f⟩⟩
 .rintro⟨_,r,l⟩;obtain⟨o,b,e⟩:=P6.mp l;have lo:=ok.len o b;rw[gb (show p<o.length by lia)] at e;have c:Qo p o=t:=(adM e).1;rw[<-c];exact G.all o b
theorem WZ.group (ok:WZ p (n+1) os)(he:e∈bQ p os):WZ (p+1) n e.2/\e.2.map (R9 (p+1))=rests e.1 (os.map (R9 p))/\e.2.length<=os.length:=by
 have G:=fH p os;have d:=G.each e he;have sub:∀o∈e.2,o∈os/\Qo p o=e.1:=λo c=>by
  rw[d] at c;obtain⟨l,j⟩:=So.mp c;exact⟨l,UL j⟩
 refine⟨⟨G.one e he,λo c=>by have:=ok.len o (sub o c).1;lia,λo c=>ok.things o (sub o c).1,?_⟩,?_,?_⟩
 .have m:e.2.Pairwise λa b=>¬lt (b.drop p) (a.drop p):=by rw[d];exact ok.rise.sublist (Wv)
  refine m.imp_of_mem λ{a b} f g h=>?_;have s:=ok.len a (sub a f).1;have t:=ok.len b (sub b g).1;rw[gb (show p<a.length by lia),gb (show p<b.length by lia),(sub a f).2,(sub b g).2] at h;exact λz=>h (.inr ⟨rfl,z⟩)
 .rw[d];exact mK λo c=>by have:=ok.len o c;lia
 .rw[d];exact aai _ _
theorem mL (b:Int->Nat):∀(ts:List Int) (i:Nat),((ts.take i).map b).sum<=(ts.map b).sum
 | [],i=>by simp
 | t::ts,0=>QN _
 | t::ts,i+1=>by
  have:=mL b ts i;rw[afr,Qr,Qr,XG,XG];lia
theorem oQ (h:(heads os)[i]?=some t):
  (aO (lay n) os ((heads os).take i) rs).2.length+(rests t os).length*n<=rs.length+os.length*n/\(aO (lay n) os ((heads os).take i) rs).2.length<=rs.length+os.length*n:=by
 have g:(heads os).Nodup:=(cC os).imp λh e=>Pp h (by rw[e];lia);have l:=jO (f:=lay n) (os:=os) (b:=λt=>(rests t os).length*n) ((heads os).take i) rs λt j rs=>by
  obtain⟨_,r,d⟩:=bE.mp (ac5 j);exact iM n (rests t os) rs λe=>by
   have:=bb.mpr d;rw[e] at this;cases this
 have c:=mL (λt=>(rests t os).length*n) (heads os) (i+1);rw[YG,h,abo,Rm,List.sum_append] at c;simp only[Qr,aaD,XG,List.sum_nil] at c;have m:((heads os).map λt=>(rests t os).length*n).sum<=os.length*n:=by
  rw[me n (λt=>(rests t os).length)];exact U' n (iL (heads os) os g)
 lia
theorem mM:(aO (lay n) os (heads os) rs).2.length<=rs.length+os.length*n:=by
 have d:(heads os).Nodup:=(cC os).imp λh e=>Pp h (by rw[e];lia);have j:=jO (f:=lay n) (os:=os) (b:=λt=>(rests t os).length*n) (heads os) rs λt g rs=>by
  obtain⟨_,r,c⟩:=bE.mp g;exact iM n (rests t os) rs λe=>by
   have:=bb.mpr c;rw[e] at this;cases this
 have l:((heads os).map λt=>(rests t os).length*n).sum<=os.length*n:=by
  rw[me n (λt=>(rests t os).length)];exact U' n (iL (heads os) os d)
 lia
end Bk
namespace L2
open PySem
theorem Gy:∀{i:Nat}{kv:Key×V},(kvs.map (·.1)).Nodup->kvs[i]?=some kv->cx kvs kv.1=some kv.2:=by
 induction kvs with
 | nil=>intro i kv _ h;simp at h
 | cons k0 kvs c=>
  intro i kv b h;rw[Qr,Td] at b;cases i with
  | zero=>simp at h;subst h;exact dW rfl
  | succ i=>
   have h':kvs[i]?=some kv:=by simpa using h
   rw[dX (λz=>b.1 (by rw[z];exact P6.mpr ⟨kv,QF h',rfl⟩))];exact c b.2 h'
end L2
namespace Ord
open PySem L2 Mx
def du (lr dn:f')(H H':Hp):Prop:=∀b o,b≠lr->b≠dn->H b=some o->H' b=some o
theorem du.refl:du lr dn H H:=λ_ _ _ _ e=>e
theorem du.trans (s:du lr dn H H')(s':du lr dn H' SM):du lr dn H SM:=λb o d c e=>s' b o d c (s b o d c e)
theorem du.of (s:ar H H'):du lr dn H H':=λb o _ _ e=>s b o e
theorem du.Qh (s:du lr dn H H')(QC:H lr=some (.lst rx))(QR:H dn=some (fh dn L))(h:Pw K H a xs):Pw K H' a xs:=by
 rcases h with(h|⟨o,h⟩)|h
 .exact .inl (.inl (s _ _ (by rintro rfl;rw[QC] at h;cases h) (by rintro rfl;rw[QR] at h;cases h) h))
 .exact .inl (.inr ⟨o,s _ _ (by rintro rfl;rw[QC] at h;cases h) (by rintro rfl;rw[QR] at h;cases h) h⟩)
 .exact .inr h
theorem cy.af3 (s:du lr dn H H')(QC:H lr=some (.lst rx))(QR:H dn=some (fh dn L))(h:cy K H y d):cy K H' y d:=by
 obtain⟨p,e,q⟩:=h;exact⟨p,e,s.Qh QC QR q⟩
theorem yh (s:du lr dn H H')(QC:H lr=some (.lst rx))(QR:H dn=some (fh dn L))(h:aA.rep K H y o):aA.rep K H' y o:=by
 obtain⟨p,rfl,q⟩:=ce h;exact cJ (s.Qh QC QR q)
theorem R5.same (s:ar H H')(h:R5 K C H x lr dn rs):R5 K C H' x lr dn rs:=by
 obtain⟨m,xs,L,l,b,j,d,f,g⟩:=h.ex;exact⟨m,xs,L,s _ _ l,s _ _ b,aJ (λ_ _ z=>z.same s) j,s _ _ d,λe c=>de.mono s (f e c),g⟩
theorem R5.upd (hd:H d=some o)(so:fq o)(n1:x≠d)(n2:lr≠d)(n3:dn≠d)(h:R5 K C H x lr dn rs):R5 K C (L2.upd H d u) x lr dn rs:=by
 obtain⟨n,xs,L,m,b,l,f,g,j⟩:=h.ex;exact⟨n,xs,L,by rw[aq n1];exact m,by rw[aq n2];exact b,aJ (λ_ _ z=>z.soft hd so) l,by rw[aq n3];exact f,λe c=>jN hd so (g e c),j⟩
noncomputable abbrev jx:Pc:=top 31
def jP (K:O6)(C:f')(n:Nat):Sp:=λvs H Q _=>∃(x lr dn l:f') (rs:List Bk.O5) (p:Nat) (ys:List V) (os:Bk.ak),vs=[.ref x,.ref l,.int (p:Int)]/\R5 K C H x lr dn rs/\Pg K H l ys/\Pl (aA.rep K H) ys os/\Bk.WZ p n os/\os.length<=1000/\rs.length+os.length*n<1000/\
 ∀H',du lr dn H H'->R5 K C H' x lr dn (Bk.lay n (os.map (R9 p)) rs).2->Q (.int ((Bk.lay n (os.map (R9 p)) rs).1:Nat)) H'
theorem jQ:Qc ["shelf","orders","place","parted","order","doors"] ["shelf","orders","place"] (ap jx):={}
theorem oU (F:PR K "shelve" "shelve" jx f fd)(T:Qj K mg CO)(c:Vr K C)(mk:W' K C "keep" fk)(Fk:Py P w K mg base Ph 1 fk TV ["self","room"] (jw K C))(bk:bK K TV ["self","room"] [])(n:Nat)(WS:∀m,n=m+1->Df P w K mg base Ph (m+2) "shelve" ["shelf","orders","place"] (jP K C m)):Py P w K mg base Ph (n+2) f fd ["shelf","orders","place"] (jP K C n):=by
 refine F.ok jQ (λvs H Q E h=>?_) (λPi A outer s H vs Q E hr h=>?_)
 .obtain⟨x,N,J,l,rs,p,ys,os,rfl,_⟩:=h;rfl
 obtain⟨x,N,J,l,rs,p,ys,os,rfl,S,ql,po,ok,Qk,agx,z⟩:=h;obtain⟨t1,m1⟩:=T.en;cases n with
 | zero=>
  refine⟨_,ae (aY (aP cY (pv 2) (aB aN rfl T.t.len bN (ac (bj (show SY _ (fL K) from bB) (pv 1) ao (λ_ _=>rfl)) ad)) (aW _)) (ai (aH (aR (v:=.int 1) rfl m1 ⟨t1,rfl⟩))) aI) (ae aM (ae aM (ae aM (ai aM)))),?_⟩;obtain⟨o,R⟩:=T3 os ok.ne;have hp:0<os.length:=YB R;obtain⟨y,hy,ro⟩:=fc po (Qu hp);obtain⟨a,rfl,X⟩:=ce ro;have la:=ok.len _ (Wy hp);refine⟨_,rfl,_,rfl,l,_,0,.ref a,rfl,rfl,ql,bU (j:=0) hy,a,_,rfl,.inr X,rfl,_,rfl,?_⟩;rw[P7 (by rw[PP,la];rfl)];exact bn (z H (λb o _ _ e=>e) S)
 | succ n=>
  have D:=WS n rfl;refine⟨_,ae (aY (aP cY (pv 2) (aB aN rfl T.t.len bN (ac (bj (show SY _ (fL K) from bB) (pv 1) ao (λ_ _=>rfl)) ad)) (aW _)) (ai aM) aI)
   (ae (ay (i:=3) jQ.nd rfl (Ve rfl) BV)
   (ae (PS.Sg (bL RB rfl (cf (pv 1)) (bw (i:=4) jQ.nd rfl (PB rfl))
    (ai (bA (dJ T4 VC VD cN
     (dJ PySem.F.plainAttrs_dict aeM PySem.F.type_dict_setdefault sf (pv 3) (ac (Rq K (pv 4) (pv 2)) (ac (bf ad) ad))) (ac (pv 4) ad))))))
   (ae (lZ (i0:=5) jQ.nd rfl (PB rfl) rfl (show Sc false (ap jx) ["shelf","orders","place","parted","order","doors"] _ _ from by constructor <;> decide +kernel) (EA (pv 3)) (λ_ _ _ _ _ _=>eJ)
     (λcl C' PZ QT fp aa=>cz (ac (pv 0) (ac (az D hr rfl pS (ac (pv 1) (ac (Ev (ss hr) (pv 4) (pv 0) (λ_ _=>rfl)) (ac (av bT (pv 3) ao) ad)))) ad))) rfl)
   (ai (aH (vN (pv 0) c.cls mk Fk (hr.mono (by lia)) bk .nil sr (ac (aV cW rfl T.t.tuple cw (ac (pv 5) ad)) ad))))))),?_⟩
  obtain⟨o,R⟩:=T3 os ok.ne;have hp:0<os.length:=YB R;obtain⟨y,hy,ro⟩:=fc po (Qu hp);obtain⟨a,rfl,X⟩:=ce ro;have la:=ok.len _ (Wy hp);have hlen:=po.length;refine⟨_,rfl,_,rfl,l,_,0,.ref a,rfl,rfl,ql,bU (j:=0) hy,a,_,rfl,.inr X,rfl,_,rfl,?_⟩;rw[P8 (λh=>by have:=V.int.inj h;rw[PP,la] at this;lia)];refine ba ?_;intro d Z;have s1:ar H (upd H d (.dK [])):=af Z _;refine⟨_,rfl,l,rfl,⟨_,s1.RS ql⟩,cP (K:=K) (a:=l) (xs:=ys) (λi σ G=>∃v4 kvs,σ=[some (.ref x),some (.ref l),some (.int (p:Int)),some (.ref d),v4,none]/\ar H G/\XU K H d G kvs (Bk.bQ p (os.take i))) ⟨none,[],rfl,s1,ag,.nil,YO⟩ ?_ ?_ ?_⟩
  .rintro i σ G _ ⟨v4,kvs,rfl,s2,_⟩;exact s2.RS ql
  .rintro i y σ G hy ⟨v4,kvs,rfl,s2,PA⟩;obtain⟨o,R,ro⟩:=bS po hy;obtain⟨a,rfl,X⟩:=ce ro;have lo:=ok.len o (QF R);have il:=(QE.mp R).1;have at_:Si (o.map V.int) (p:Int)=some (.int (Bk.Qo p o)):=bU (by
    unfold Bk.Qo;rw[Q6,Qu (show p<o.length by lia)];rfl)
   have gl:kvs.length<=i:=by
    have h1:=PA.UE.length;have h2:=oP p (os.take i);rw[RW] at h2;lia
   refine⟨_,rfl,.inr (.inr (.inl ⟨rfl,.inl ⟨_,PA.at_⟩⟩)),_,rfl,_,rfl,a,_,(p:Int),.int (Bk.Qo p o),rfl,rfl,s2.Qh X,at_,by show 0<=Pj;decide,λO Y=>?_⟩;have s3:ar G (upd G O (.lst [])):=af Y _;refine⟨d,kvs,.inl (Bk.Qo p o),.ref O,rfl,rfl,s3 _ _ PA.at_,by rw[PY];lia,λy' W=>?_,λW=>?_⟩
   .rcases pZ (k:=Bk.Qo p o) PA.UE with⟨U,_⟩|⟨ga,vs,U,b2,b3,b4,b5,b6,e,b7,b8⟩
    .rw[U] at W;cases W
    rw[U] at W;cases W;have vl:vs.length<=os.length:=by
     rw[b8,(Bk.fH p (os.take i)).each e b7];refine RC (aai _ _) ?_;rw[RW];lia
    refine⟨.inl ⟨rfl,_,.inl (.inl (s3 _ _ b6))⟩,_,rfl,ga,vs,.ref a,rfl,rfl,s3 _ _ b6,by rw[PY];lia,_,kvs,rfl,λb u q=>?_,?_⟩
    .rw[aq (au q b4)];exact s3 b u (s2 b u q)
    .rw[bC R];exact PA.more Y (cJ (s2.Qh X)) U b2 b6 b5
   .rcases pZ (k:=Bk.Qo p o) PA.UE with⟨U,b2⟩|⟨ga,vs,U,_⟩
    .have ned:d≠O:=au PA.at_ Y;have V8:(upd (upd G O (.lst [])) d (.dK (cV kvs (.inl (Bk.Qo p o)) (.ref O)))) O=some (.lst []):=by rw[aq (Qi ned),ag]
     refine⟨.inl ⟨rfl,_,.inl (.inl V8)⟩,_,rfl,O,[],.ref a,rfl,rfl,V8,by decide,_,kvs++[(.inl (Bk.Qo p o),.ref O)],rfl,λb u q=>?_,?_⟩
     .rw[aq (au q (s2.free Y)),aq (au q Z)];exact s3 b u (s2 b u q)
     .rw[bC R];exact PA.fresh Y (s2.free Y) (cJ (s2.Qh X)) U b2
    .rw[U] at W;cases W
  .rintro σ G ⟨v4,kvs,rfl,s2,PA⟩;rw[hlen,SD] at PA;have S':=S;obtain⟨dx,rx,L,hx,QC,prs,QR,Zm,nl⟩:=S.ex;have M:N≠d:=au QC Z;have Yc:J≠d:=au QR Z;have keys:=ok.keys;have gl:kvs.length=(Bk.bQ p os).length:=PA.UE.length;have gk:(Bk.bQ p os).length=(Bk.heads (os.map (R9 p))).length:=by rw[<-keys,PP]
   have agy:=oP p os;refine⟨_,rfl,d,kvs,rfl,PA.at_,λob=>?_⟩;have dPs:fq (.dK kvs):=trivial;have xdP:x≠d:=au hx Z;have S2:R5 K C (upd G d (.Q8 ob (.dK kvs))) x N J rs:=(S.same s2).upd PA.at_ dPs xdP M Yc;have kn:(kvs.map (·.1)).Nodup:=by
    have e:∀{kvs:List (Key×V)}{g:List (Int×Bk.ak)},Pl (eX K H d G) kvs g->kvs.map (·.1)=g.map λe=>Ru e.1:=by
     intro kvs g t
     induction t with
     | nil=>rfl
     | cons h _ ih=>
      obtain⟨a,vs,rfl,_⟩:=h;rw[Qr,Qr,ih]
    rw[e PA.UE];have:=(Bk.fH p os).nd;unfold aaJ at this ⊢;rw[VE] at this ⊢;exact this.imp λh z=>h (aaH z)
   refine zT (a:=d) (ob:=ob) (kvs:=kvs) (λi ds I=>du N J (upd G d (.Q8 ob (.dK kvs))) I/\R5 K C I x N J (Bk.aO (Bk.lay n) (os.map (R9 p)) ((Bk.heads (os.map (R9 p))).take i) rs).2/\Pl (cy K I) ds (Bk.aO (Bk.lay n) (os.map (R9 p)) ((Bk.heads (os.map (R9 p))).take i) rs).1/\ds.length=i) ⟨du.refl,S2,.nil,rfl⟩ ?_ (by rw[PY];lia) ?_ ?_
   .rintro i ds I hi ⟨s3,_,_,hl⟩;exact⟨s3 _ _ (Qi M) (Qi Yc) ag,by lia⟩
   .rintro i kv ds I Xm ⟨s3,S3,p3,hl⟩;obtain⟨e,he,ga,vs,rfl,g1,g2,g3,g4⟩:=bS PA.UE Xm;have mem:=QF he;obtain⟨oke,rst,ele⟩:=ok.group mem;have ht:(Bk.heads (os.map (R9 p)))[i]?=some e.1:=by rw[<-keys,Q6,he];rfl
    obtain⟨bd1,bd2⟩:=Bk.oQ (n:=n) (rs:=rs) ht;have lr2:e.2.length=(Bk.rests e.1 (os.map (R9 p))).length:=by rw[<-rst,PP]
    rw[PP,<-lr2] at bd1;have mul:Ux os*(n+1)=Ux os*n+Ux os:=abT _ _;have agz:=s3 _ _ (Qi M) (Qi Yc) (ag (H:=G) (a:=d) (o:=.Q8 ob (.dK kvs)));have nga:ga≠N/\ga≠J:=⟨(λz=>by rw[z,QC] at g1;cases g1),(λz=>by rw[z,QR] at g1;cases g1)⟩
    have hg3:I ga=some (.lst vs):=s3 _ _ nga.1 nga.2 (by rw[aq g2];exact g3);have aew:(upd G d (.Q8 ob (.dK kvs))) N=some (.lst rx):=by rw[aq M];exact s2 _ _ QC
    have ψ:(upd G d (.Q8 ob (.dK kvs))) J=some (fh J L):=by rw[aq Yc];exact s2 _ _ QR
    have rv:Pl (aA.rep K I) vs e.2:=aJ (λ_ _ z=>yh s3 aew ψ (eB PA.at_ dPs z)) g4;refine V4 (bn ?_);refine⟨_,rfl,_,rfl,_,rfl,_,rfl,d,.ref ga,rfl,.inl ⟨kvs,.inl e.1,.inr ⟨ob,agz⟩,rfl,(Gy kn Xm).symm⟩,_,rfl,(p:Int),1,rfl,rfl,x,N,J,ga,_,p+1,vs,e.2,rfl,S3,.inl (.inl hg3),rv,oke,by lia,by lia,λH4 s4 S4=>?_⟩;rw[rst] at S4 ⊢;refine⟨by show 2<=Pj;decide,λtq Zn=>?_⟩;obtain⟨dx3,rx3,L3,_,aex,_,acB,_⟩:=S3.ex;have s5:=af Zn (.tup [V.int e.1,V.int ((Bk.lay n (Bk.rests e.1 (os.map (R9 p))) (Bk.aO (Bk.lay n) (os.map (R9 p)) ((Bk.heads (os.map (R9 p))).take i) rs).2).1:Nat)]);rw[bC ht,Bk.iO];refine⟨s3.trans (s4.trans (du.of s5)),S4.same s5,ck (aJ (λ_ _ z=>(z.af3 s4 aex acB).same s5) p3) (.cons ⟨tq,rfl,Pw.up⟩ .nil),by simp;lia⟩
   .rintro ds I c0 ⟨s3,S3,p3,hl⟩ Vs;rw[gl,gk,SD] at S3 p3;have s4:ar I (upd I c0 (.lst ds)):=af Vs _;have S4:=S3.same s4;obtain⟨dx4,_,_,hx4,_⟩:=S4.ex;refine⟨_,rfl,x,dx4,_,rfl,hx4,rfl,_,rfl,c0,ds,rfl,.inl ⟨Pg.up,λr0 Ra=>?_⟩⟩;have s5:=af Ra (.tup ds);have db:=Bk.mM (n:=n) (os:=os.map (R9 p)) (rs:=rs);rw[PP] at db;have mul:Ux os*(n+1)=Ux os*n+Ux os:=abT _ _;refine⟨x,N,J,_,.ref r0,_,rfl,S4.same s5,⟨r0,ds,rfl,Pw.up,aJ (λ_ _ z=>z.same (s4.trans s5)) p3⟩,by lia,λH6 s6 S6=>?_⟩;refine z H6 (λb u h1 h2 q=>?_) S6;refine s6 b u h1 h2 (s5 b u (s4 b u (s3 b u h1 h2 ?_)));rw[aq (au q Z)];exact s2 b u q
theorem rA (F:PR K "shelve" "shelve" jx f fd)(T:Qj K mg CO)(c:Vr K C)(mk:W' K C "keep" fk)(Fk:Py P w K mg base Ph 1 fk TV ["self","room"] (jw K C))(bk:bK K TV ["self","room"] [])(b:bK K fd ["shelf","orders","place"] [])(m:mg "shelve"=some (.ref f)):∀n,Py P w K mg base Ph (n+2) f fd ["shelf","orders","place"] (jP K C n)
 | 0=>oU F T c mk Fk bk 0 λm h=>nomatch h
 | n+1=>oU F T c mk Fk bk (n+1) λk h=>by
  cases h;exact⟨f,fd,rA F T c mk Fk bk b m n,b,F.kp,m⟩
noncomputable abbrev mf:Pc:=top 30
theorem kX:∀{a b:List Int},Bk.lt a b->HT.bR a b=true
 | [],[],h=>h.elim
 | [],_::_,_=>rfl
 | _::_,[],h=>h.elim
 | x::a,y::b,h=>by
  rcases h with h|⟨rfl,h⟩
  .rw[HT.eI,O9 (by lia)];exact P7 h
  .rw[HT.eI,Pf rfl];exact kX h
noncomputable def bh (many:Nat)(os:Bk.ak):List Bk.O5×Nat:=if os=[] then ([],0) else ((Bk.lay many os []).2,(Bk.lay many os []).1)
structure XV (K:O6)(H0 H:Hp)(t lr:f')(many:Int)(rs:List Bk.O5)(first:Int):Prop where
 ft:H0 t=none
 fl:H0 lr=none
 at_:H t=some (.tup [.int many,.ref lr,.int first])
 rooms:∃xs,H lr=some (.lst xs)/\Pl (bH K H) xs rs
def uN (K:O6):Sp:=λvs H Q _=>∃(many:Nat) (l:f') (ys:List V) (os:Bk.ak),vs=[.int (many:Int),.ref l]/\Pg K H l ys/\Pl (aA.rep K H) ys os/\(∀o∈os,i8 many o)/\1<=many/\many<=8/\os.length<64/\
 ∀(t lr:f') (H':Hp),ar H H'->XV K H H' t lr many (bh many os).1 (bh many os).2->Q (.ref t) H'
theorem gc:Qc ["many","orders","order","shelf","first"] ["many","orders"] (ap mf):={}
theorem Aw (F:PR K "book_of" "book_of" mf f fd)(T:Qj K mg CO)(c:Vr K C)(M:Mk K C fi)(Fi:Py P w K mg base Ph 1 fi Xn ["self"] (oO K C))(bi:bK K Xn ["self"] [])(mC:mg "Shelf"=some (.ref C))(WC:Df P w K mg base (QQ P w) 3 "look_count" ["many"] (jq CO))(WL:Df P w K mg base (QQ P w) 4 "look_order" ["many","order"] (oo K CO))(WS:∀n,Df P w K mg base Ph (n+2) "shelve" ["shelf","orders","place"] (jP K C n)):
  Py P w K mg base (QQ P w) 12 f fd ["many","orders"] (uN K):=by
 refine F.Yd gc (λvs H Q E h=>?_) (λX Pi A outer s H vs Q E hX hp Um J h=>?_)
 .obtain⟨many,l,I,os,rfl,_⟩:=h;rfl
 obtain⟨many,l,I,os,rfl,N,po,good,m1,m8,Qk,z⟩:=h;obtain⟨t0,m0⟩:=T.no;have hlen:=po.length;subst hX;refine⟨_,ae (bA (az WC (J.mono (by decide)) rfl hp (ac (pv 0) ad)))
  (ae (PS.Sg (bL RB rfl (cf (pv 1)) (bw (i:=2) gc.nd rfl (PB rfl)) (ai (bA (az WL (J.mono (by decide)) rfl lM (ac (pv 0) (ac (pv 2) ad)))))))
  (ae (aY (aP cY (aB aN rfl T.t.len bN (ac (pv 1) ad)) ao (aW _)) (ai (aH (cz (ac (pv 0) (ac (bf ad) (ac (aR (v:=.int 0) rfl m0 ⟨t0,rfl⟩) ad)))))) aI)
  (ae (ay (i:=3) gc.nd rfl (PB rfl) (tu M Fi (J.mono (by decide)) rfl mC bi .nil sr))
  (ae (ay (i:=4) gc.nd rfl (PB rfl) (az (WS many) (J.mono (by lia)) rfl pS (ac (pv 3) (ac (aB kG rfl T.t.sorted ig (ac (pv 1) ad)) (ac ao ad)))))
  (ai (aH (cz (ac (pv 0) (ac (hG (pv 3) rfl) (ac (pv 4) ad)))))))))),?_⟩
 refine⟨_,rfl,(many:Int),rfl,bI (by lia) (by lia),?_⟩;rw[Pf (by lia)];refine⟨_,rfl,l,rfl,⟨_,N⟩,cP (K:=K) (a:=l) (xs:=I) (λi L p=>∃O,L=[some (.int (many:Int)),some (.ref l),O,none,none]/\ar H p) ⟨none,rfl,ar.refl H⟩ ?_ ?_ ?_⟩
 .rintro i L p _ ⟨O,rfl,s2⟩;exact s2.RS N
 .rintro i y L p hy ⟨O,rfl,s2⟩;obtain⟨o,m,ro⟩:=bS po hy;obtain⟨a,rfl,qa⟩:=ce ro;have g:=good o (QF m);have gl:(o.length:Int)=many:=g.2.2.1;refine⟨_,rfl,_,rfl,(many:Int),a,o,rfl,bI (by lia) (by lia),⟨s2.Qh qa,by lia,λx hx=>?_⟩,λ_ H3 s3=>⟨_,rfl,s2.trans s3⟩,λng=>Pp g ng⟩;have:=g.2.2.2.mem hx;exact bI (by lia) (by lia)
 .rintro L p ⟨O,rfl,s2⟩;refine⟨_,rfl,l,_,rfl,.inl (s2.RS N),rfl,_,rfl,?_⟩
  by_cases e0:os=[]
  .subst e0;have y0:I.length=0:=hlen;rw[y0,P7 (by rfl)];refine bn ⟨_,rfl,by show 0<=Pj;decide,λd R=>?_⟩;have s3:=s2.trans (af R (.lst []));refine⟨by show 3<=Pj;decide,λt D=>?_⟩;have s4:=af D (.tup [V.int (many:Int),V.ref d,V.int 0]);exact z t d _ (s3.trans s4) ⟨s3.free D,s2.free R,ag,[],s4 _ _ ag,.nil⟩
  .have UW:0<os.length:=Wu.mpr e0;rw[P8 (λh=>by have:=V.int.inj h;lia)];refine ba ?_;intro x dx G S Y;have u1:=af S (.own x);have Yj:(upd p dx (.own x)) x=none:=by rw[aq (Qi Y)];exact G
   have u2:=af Yj (.ins C dx []);have s3:=s2.trans (u1.trans u2);refine⟨x,dx,rfl,ag,λd dn H3 R QR keep SA=>⟨rfl,?_⟩⟩;have s4:ar H H3:=λb u q=>keep b u (au q (s2.free G)) (s3 b u q);have Zo:H d=none:=s3.free R;have W:H dn=none:=s3.free QR;refine⟨_,rfl,_,rfl,.ref l,os,rfl,⟨l,I,rfl,s4.RS N,aJ (λ_ _ z=>aA.mono s4 z) po⟩,λks hk=>?_,Qk,λl2 S7 j QM Xo perm Rs=>?_⟩
   .have g:=good ks hk;have:(ks.length:Int)=many:=g.2.2.1;intro e;subst e;simp at this;lia
   have s5:=af QM (.lst S7);have mem:∀o∈j,i8 many o:=λo m=>good o (perm.mem_iff.mp m);have kl:j.length=os.length:=perm.length_eq;have d0:j.map (R9 0)=j:=(Tb λo _=>(ZW:o.drop 0=o)).trans (ad2 _);have TL:Bk.lay many (j.map (R9 0)) []=Bk.lay many os []:=by
    rw[d0];exact Bk.fY many [] λo=>perm.mem_iff
   have lb:bh many os=((Bk.lay many os []).2,(Bk.lay many os []).1):=by unfold bh;rw[O9 e0]
   refine⟨x,d,dn,l2,[],0,S7,j,rfl,SA.same s5,Pg.up,aJ (λ_ _ z=>aA.mono s5 z) Xo,⟨λe=>?_,λo m=>?_,λo m y hy=>?_,?_⟩,by lia,?_,λH5 s6 S5=>?_⟩
   .rw[e] at kl;simp at kl;lia
   .have:(o.length:Int)=many:=(mem o m).2.2.1;lia
   .have g:=mem o m;have gl:(o.length:Int)=many:=g.2.2.1;have:=g.2.2.2.mem hy;lia
   .exact Rs.imp λh z=>by
     have:=kX z;rw[ZW,ZW,h] at this;cases this
   .show 0+j.length*many<1000;have:j.length*many<=63*8:=WN (by lia) m8;lia
   .rw[TL] at S5 ⊢;obtain⟨dx5,xs5,L5,Z,agA,U,_⟩:=S5.ex;refine⟨_,rfl,_,rfl,x,C,dx5,_,.ref d,rfl,Z,c.cls,c.rooms,rfl,_,rfl,by show 3<=Pj;decide,λt D=>?_⟩;have s7:=af D (.tup [V.int (many:Int),V.ref d,V.int (((Bk.lay many os []).1:Nat):Int)]);have s8:ar H H5:=λb u q=>s6 b u (au q Zo) (au q W) (s5 b u (s4 b u q));rw[lb] at z;exact z t d _ (s8.trans s7) ⟨s8.free D,Zo,ag,xs5,s7 _ _ agA,aJ (λ_ _ z=>z.same s7) U⟩
end Ord
namespace L2
open PySem PySem.Spec PyProof.Rows
theorem qf (xs)(k:Nat):cj xs none (some (k:Int))=xs.take k:=by
 unfold cj;rw[HT.vO,HT.mR];simp only[ZW,adU]
 by_cases h:k<=xs.length
 .rw[Nat.min_eq_left h]
 .rw[Nat.min_eq_right (by lia),Wp (Po _),Wp (by lia)]
theorem Ax (xs):cj xs (some (-1)) none=xs.drop (xs.length-1):=by
 unfold cj;have e:HT.P3 xs.length 0 (some (-1))=xs.length-1:=by
  simp only[HT.P3];rw[Pf (by decide)];lia
 rw[e,HT.mR];exact Wp (by rw[YH];lia)
def Dx (K:O6):R2:=λx y H Q=>∃a b xs ys,x=.ref a/\y=.ref b/\Pw K H a xs/\Pw K H b ys/\xs.length+ys.length<=Pj/\∀r H',ar H H'->Pw K H' r (xs++ys)->Q (.ref r) H'
theorem wG:Qy X (binaryOp .Add) (Dx X.K):=by
 intro aa s g H x y v u Q I l j h;obtain⟨a,b,xs,f,o,e,c,d,hz,q⟩:=h
 by_cases m:xs=[]
 .subst m;exact BM aa s g H x y v u Q I l j ⟨a,b,f,o,e,c,d,q b H (ar.refl H) d⟩
 .refine Ef aa s g H x y v u Q I l j ⟨a,b,xs,f,o,e,c,d,m,hz,λn=>?_,λn p t=>?_⟩
  .subst n;exact q a H (ar.refl H) (by rw[SV];exact c)
  .exact q p _ (af t _) Pw.up
section
variable {α β γ:Type} [DecidableEq α] [DecidableEq β] [DecidableEq γ]
noncomputable def mh (a b:α×β×γ)(j:Nat):Bool:=match j with
 | 0=>decide (a.1=b.1)
 | 1=>decide (a.2.1=b.2.1)
 | _=>decide (a.2.2=b.2.2)
theorem uO (k1:Dk α)(k2:Dk β)(k3:Dk γ){X:Cx}{aa:List (f'×G')}{σ:St}{H:Hp}{s:J'}{A:Pz}{x1 x2 x3 y1 y2 y3:V}{a b:α×β×γ}{us vs:List D'}(I:Inv X aa σ H s)(hu:A.units+(k1.QV+k2.QV+k3.QV)<PK)(p1:k1.rep X.K H x1 a.1)(p2:k2.rep X.K H x2 a.2.1)(p3:k3.rep X.K H x3 a.2.2)(q1:k1.rep X.K H y1 b.1)(q2:k2.rep X.K H y2 b.2.1)(q3:k3.rep X.K H y3 b.2.2)(r1:aE [x1,x2,x3] us)(r2:aE [y1,y2,y3] vs):
  us.toArray.size=3/\vs.toArray.size=3/\∀j (h1:j<us.toArray.size) (h2:j<vs.toArray.size),Uy A s us.toArray[j] vs.toArray[j] (mh a b j):=by
 cases r1 with
 | cons s1 r1=>cases r1 with
 | cons s2 r1=>cases r1 with
 | cons s3 r1=>cases r1 with
 | nil=>cases r2 with
 | cons c r2=>cases r2 with
 | cons d r2=>cases r2 with
 | cons e r2=>cases r2 with
 | nil=>
  refine⟨rfl,rfl,λj h1 h2=>?_⟩
  match j,h1,h2 with
  | 0,_,_=>exact k1.VW I (by lia) p1 q1 s1 c
  | 1,_,_=>exact k2.VW I (by lia) p2 q2 s2 d
  | 2,_,_=>exact k3.VW I (by lia) p3 q3 s3 e
  | n+3,h,_=>exact Pp h (by simp)
theorem qh (a b:α×β×γ):((QK (min 3 3)).all (mh a b)&&3==3)=decide (a=b):=by
 obtain⟨f,h,d⟩:=a;obtain⟨e,c,g⟩:=b;simp[QK,afI,Prod.ext_iff,mh]
theorem sg {p q:Prop}[Decidable p][Decidable q](h:p↔q):decide p=decide q:=by
 by_cases c:p
 .rw[P7 c,P7 (h.mp c)]
 .rw[P8 c,P8 λz=>c (h.mpr z)]
noncomputable def LH (k1:Dk α)(k2:Dk β)(k3:Dk γ):Dk (α×β×γ) where
 rep:=λK H x a=>∃p x1 x2 x3,x=.ref p/\Pw K H p [x1,x2,x3]/\k1.rep K H x1 a.1/\k2.rep K H x2 a.2.1/\k3.rep K H x3 a.2.2
 QV:=k1.QV+k2.QV+k3.QV+1
 mono:=λs ⟨p,x1,x2,x3,e,q,r1,r2,r3⟩=>⟨p,x1,x2,x3,e,s.Qh q,k1.mono s r1,k2.mono s r2,k3.mono s r3⟩
 fn:=λ{X aa σ H s x a b} I ⟨p,x1,x2,x3,e,q,r1,r2,r3⟩ ⟨p',y1,y2,y3,e',q',t1,t2,t3⟩=>by
  rw[e] at e';cases e';have:=I.YX q q';cases this;exact Z9 (k1.fn I r1 t1) (Z9 (k2.fn I r2 t2) (k3.fn I r3 t3))
 VW:=λ{X aa σ H s A x y a b u v} I hu ⟨p,x1,x2,x3,e,q,r1,r2,r3⟩ ⟨p',y1,y2,y3,e',q',t1,t2,t3⟩ rx ry=>by
  subst e e';cases rx;cases ry
  by_cases hp:p=p'
  .subst hp;have:=I.YX q q';cases this;have:a=b:=Z9 (k1.fn I r1 t1) (Z9 (k2.fn I r2 t2) (k3.fn I r3 t3));subst this;rw[P7 rfl];exact YJ _
  .obtain⟨its,v1,w1,_⟩:=I.tuple q;obtain⟨its',v2,w2,_⟩:=I.tuple q';refine ZN hp ?_;obtain⟨z1,z2,ev⟩:=uO k1 k2 k3 (A:=A.in1) I (by show A.units+1+_<PK;lia) r1 r2 r3 t1 t2 t3 v1 v2;have h:=YF (A:=A) (e:=mh a b) w1 w2 (by lia) ev;rw[z1,z2,qh] at h;exact h
 τ:=λ{X aa σ H s A x y a b u v} I hu ⟨p,x1,x2,x3,e,q,r1,r2,r3⟩ ⟨p',y1,y2,y3,e',q',t1,t2,t3⟩ rx ry=>by
  subst e e';cases rx;cases ry;obtain⟨its,v1,w1,_⟩:=I.tuple q;obtain⟨its',v2,w2,_⟩:=I.tuple q';obtain⟨z1,z2,ev⟩:=uO k1 k2 k3 (A:=A.in1) I (by show A.units+1+_<PK;lia) r1 r2 r3 t1 t2 t3 v1 v2;have h:=YF (A:=A) (e:=mh a b) w1 w2 (by lia) ev;rw[z1,z2,qh] at h;exact h
 υ:=λ{X aa σ H s A x y a b u v} I hu ⟨p,x1,x2,x3,e,q,r1,r2,r3⟩ ⟨p',y1,y2,y3,e',q',t1,t2,t3⟩ rx ry=>by
  subst e e';cases rx;cases ry;obtain⟨its,v1,w1,_⟩:=I.tuple q;obtain⟨its',v2,w2,_⟩:=I.tuple q';obtain⟨z1,z2,ev⟩:=uO k1 k2 k3 (A:=A.in1) I (by show A.units+1+_<PK;lia) r1 r2 r3 t1 t2 t3 v1 v2;have h:=afp (A:=A) (e:=mh a b) w1 w2 (by lia) ev;rw[z1,z2,qh] at h;exact h
end
end L2
namespace Bk
open Mx
noncomputable def Gz (many:Nat)(o:List Int):ak:=((aw many).filter λt=>!o.contains t).map λt=>o++[t]
noncomputable def ext (many:Nat)(os:ak):ak:=os.flatMap (Gz many)
noncomputable def jR (many:Nat):Nat->ak
 | 0=>[[]]
 | k+1=>ext many (jR many k)
noncomputable def aK (many:Nat):ak:=jR many many
noncomputable def ltb:List Int->List Int->Bool
 | x::a,y::b=>decide (x<y)||(decide (x=y)&&ltb a b)
 | _,_=>false
theorem rB:∀{a b:List Int},ltb a b=true->lt a b
 | [],_,h=>by cases h
 | _::_,[],h=>by cases h
 | x::a,y::b,h=>by
  simp only[ltb,Bool.or_eq_true,Tyq,decide_eq_true_eq] at h;rcases h with h|⟨d,c⟩
  .exact .inl h
  .exact .inr ⟨d,rB c⟩
noncomputable def yi:ak->Bool
 | []=>true
 | o::os=>os.all (ltb o)&&yi os
theorem Ay:∀{os:ak},yi os=true->cB os
 | [],_=>ZQ
 | o::os,h=>by
  simp only[yi,Tyq,T9] at h;exact List.Pairwise.cons (λb c=>rB (h.1 b c)) (Ay h.2)
theorem CD:∀m∈[1,2,3,4,5],(aK m).all (λo=>(aw m).isPerm o)=true:=by decide +kernel
theorem EX:∀m∈[1,2,3,4],yi (aK m)=true:=by decide +kernel
theorem nj:∀m∈[1,2,3,4],(aK m).length<=24:=by decide +kernel
theorem CF:∀m∈[1,2,3,4,5],∀k∈[0,1,2,3,4,5],(jR m k).length<=200:=by decide +kernel
theorem GA:∀m∈[1,2,3,4,5],aK m≠[]:=by decide +kernel
theorem in5 (h1:1<=m)(h5:m<=5):m∈[1,2,3,4,5]:=by
 have:m=1\/m=2\/m=3\/m=4\/m=5:=by lia
 rcases this with rfl|rfl|rfl|rfl|rfl <;> decide
theorem in4 (h1:1<=m)(h4:m<=4):m∈[1,2,3,4]:=by
 have:m=1\/m=2\/m=3\/m=4:=by lia
 rcases this with rfl|rfl|rfl|rfl <;> decide
theorem LI (h:k<=5):k∈[0,1,2,3,4,5]:=by
 have:k=0\/k=1\/k=2\/k=3\/k=4\/k=5:=by lia
 rcases this with rfl|rfl|rfl|rfl|rfl|rfl <;> decide
theorem iP (h1:1<=m)(h5:m<=5)(h:o∈aK m):(aw m).Perm o:=by
 have:=CD m (in5 h1 h5);rw[T9] at this;exact List.isPerm_iff.mp (this o h)
theorem ir (h1:1<=m)(h5:m<=5)(h:o∈aK m):o.length=m/\Mx.Ord o:=by
 have p:=iP h1 h5 h;have l:o.length=m:=by rw[<-p.length_eq,bc]
 refine⟨l,?_⟩;unfold Mx.Ord;rw[l];exact(tR p (vA m)).symm
theorem uP:∀(k:Nat),∀o∈jR m k,o.length=k
 | 0,o,h=>by
  rw[Qw.mp h];rfl
 | k+1,o,h=>by
  obtain⟨c,d,b⟩:=RP.mp h;obtain⟨t,_,rfl⟩:=P6.mp b;rw[QI,uP k c d];rfl
theorem CG {os:ak}(h:os[i]?=some o):ext m (os.take (i+1))=ext m (os.take i)++Gz m o:=by
 unfold ext;rw[YG,h];simp
theorem GB (i:Nat):(ext m (os.take i)).length<=(ext m os).length:=by
 have:ext m os=ext m (os.take i)++ext m (os.drop i):=by
  unfold ext;rw[<-afs,Wr]
 rw[this,QI];lia
structure Qn (many:Nat)(os:ak):Prop where
 m1:1<=many
 m5:many<=5
 mem:∀o∈os,o∈aK many
 Rs:cB os
 len:os.length<=24
 acD:many=5->os.length<=2
theorem Qn.of (m1:1<=many)(m4:many<=4)(h:os.Sublist (aK many)):Qn many os where
 m1:=m1
 m5:=by lia
 mem:=λo b=>h.subset b
 Rs:=(Ay (EX many (in4 m1 m4))).sublist h
 len:=RC h.length_le (nj many (in4 m1 m4))
 acD:=λe=>by lia
theorem Qn.Y5 (S:Qn many os):ez many (λx=>0<=x/\x<(many:Int)) os:=λo b=>by
 have p:=iP S.m1 S.m5 (S.mem o b);have c:∀x,x∈o↔0<=x/\x<(many:Int):=λx=>by rw[<-p.mem_iff];exact br
 refine⟨(ir S.m1 S.m5 (S.mem o b)).1,λx d=>?_,p.nodup_iff.mp (gM many),c⟩;have:=(c x).mp d;have:=S.m5;lia
theorem GC:∀m∈[1,2,3,4],jM m<=41:=by decide +kernel
theorem Qn.rooms (S:Qn many os)(ne:os≠[]):(lay many os []).2.length<70:=by
 by_cases h:many=5
 .have a:=iM many os [] ne;have b:=S.acD h;have c:os.length*many<=2*5:=WN b S.m5;simp only[WE] at a;lia
 .have a:=rz many _ os [] S.Y5 ne;have b:=GC many (in4 S.m1 (by have:=S.m5;lia));simp only[WE] at a;lia
end Bk
namespace Ord
open PySem L2 Mx
theorem iu (many:Nat):bh many []=([],0):=by unfold bh;rw[Pf rfl]
theorem gU {os:Bk.ak}(h:os≠[]):bh many os=((Bk.lay many os []).2,(Bk.lay many os []).1):=by unfold bh;rw[O9 h]
theorem iQ {os os':Bk.ak}(h:Bk.et os os'):bh many os=bh many os':=by
 by_cases e:os=[]
 .subst e;have:os'=[]:=Wj.mpr λo b=>by cases (h o).mpr b
  rw[this]
 .have c:os'≠[]:=λz=>e (Wj.mpr λo b=>by
   subst z;cases (h o).mp b)
  rw[gU e,gU c,Bk.fY many [] h]
section
variable {many:Nat}{os:Bk.ak}(S:Bk.Qn many os)
include S
theorem Qn.whole:VS many (bh many os).1 (bh many os).2:=by
 have m1:=S.m1;have m5:=S.m5
 by_cases e:os=[]
 .subst e;rw[iu];exact yf m1 (by lia)
 .rw[gU e];exact Au m1 (by lia) S.Y5 e (S.rooms e)
theorem Qn.P9:Bk.P9 (bh many os).1 (bh many os).2=os:=by
 by_cases e:os=[]
 .subst e;rw[iu];exact Bk.ip []
 .rw[gU e];obtain⟨a,b⟩:=EU S.Y5 e;exact a.eq S.Rs b
theorem Qn.Tk (ho:o.length=many):Bk.kP (bh many os).1 (bh many os).2 o/\(Bk.Tk (bh many os).1 (bh many os).2 o=1↔o∈os):=by
 by_cases e:os=[]
 .subst e;rw[iu];refine⟨Bk.rh [] o,?_⟩;show Bk.Tk [] 0 o=1↔_;rw[Bk.kM];simp
 .rw[gU e];exact Gv S.Y5 e ho
end
theorem jS (m1:1<=many)(m5:many<=5)(ho:o∈Bk.aK many):i8 many o:=by
 obtain⟨a,b⟩:=Bk.ir m1 m5 ho;exact⟨by lia,by lia,by lia,b⟩
noncomputable abbrev jT:Dk (Int×List (List (List Int))×Int):=LH xQ (i9 de) xQ
noncomputable def kY (many:Nat)(p:List Bk.O5×Nat):Int×List (List (List Int))×Int:=((many:Int),p.1.map enc,(p.2:Int))
theorem mO:∀{a b:List Bk.O5},a.map enc=b.map enc->a=b
 | [],[],_=>rfl
 | [],_::_,h=>by simp at h
 | _::_,[],h=>by simp at h
 | x::a,y::b,h=>by
  simp only[Qr,abD] at h;rw[gT h.1,mO h.2]
theorem jU:kY many p=kY many q↔p=q:=by
 refine⟨λh=>?_,λh=>by rw[h]⟩;obtain⟨g,d⟩:=p;obtain⟨f,e⟩:=q;unfold kY at h;have b:=congrArg (λx=>x.2.1) h;have c:=congrArg (λx=>x.2.2) h;simp only at b c;rw[mO b,show d=e by lia]
theorem ge {many:Nat}(h:Se K H x many p.1 p.2):jT.rep K H x (kY many p):=by
 obtain⟨b,l,xs,e,q,c,d⟩:=h.ex;exact⟨b,_,_,_,e,q,rfl,⟨l,xs,rfl,c,fG d⟩,rfl⟩
theorem XV.a (h:XV K H0 H t lr many rs first):Se K H (.ref t) many rs first:=by
 obtain⟨xs,a,b⟩:=h.rooms;exact⟨t,lr,xs,rfl,Pw.of h.at_,Pg.of a,b⟩
end Ord
namespace L2
open PySem
theorem uQ {α:Type}{xs:List α}{z:Int}{v:α}(h0:0<=z)(h:xs[z.toNat]?=some v):Si xs z=some v:=by
 have:=bU h;rw[show((z.toNat:Nat):Int)=z by lia] at this;exact this
end L2
namespace Ord
open PySem L2 Mx
noncomputable abbrev yj:Pc:=top 57
noncomputable abbrev CH:Pc:=top 58
noncomputable abbrev yk:Pc:=top 59
noncomputable abbrev uR:Pc:=top 60
noncomputable abbrev uS:Pc:=top 61
noncomputable abbrev jc:Pc:=top 63
noncomputable abbrev kZ:Pc:=top 64
noncomputable abbrev jd:Pc:=top 69
def V9 (K:O6)(H:Hp)(a:f'):Prop:=∃ns:List Int,Pg K H a (ns.map V.int)
theorem V9.same (h:V9 K H a)(e:ar H H'):V9 K H' a:=let ⟨ns,q⟩:=h;⟨ns,e.RS q⟩
def Az (K:O6):Sp:=λvs H Q _=>∃(a:f') (k:Int),vs=[.ref a,.int k]/\V9 K H a/\∀c:Int,Q (.int c) H
theorem GD:Qc ["_law_script","_law_k"] ["_law_script","_law_k"] (ap yj):={}
theorem EY (F:PR K "_law_cell" "_law_cell" yj f fd)(T:Qj K mg CO):Py P w K mg base Ph 1 f fd ["_law_script","_law_k"] (Az K):=by
 refine F.ok GD (λvs H Q E h=>?_) (λl A outer s H vs Q E m h=>?_)
 .obtain⟨a,k,rfl,_⟩:=h;rfl
 obtain⟨a,k,rfl,⟨ns,d⟩,q⟩:=h;refine⟨_,ae (aY (tj (pv 0) (λ_=>rfl)) (ai (aH (bj bB (pv 0) (av cL (pv 1) (aB aN rfl T.t.len bN (ac (pv 0) ad))) (λ_ _=>rfl)))) aI) (ai (aH ao)),?_⟩;refine⟨_,rfl,_,.inl ⟨_,d,rfl⟩,?_⟩;cases ns with
 | nil=>exact ba (q 0)
 | cons b c=>
  refine bn ?_;have e:((b::c).map V.int).length=(b::c).length:=PP _;have pos:(0:Int)<(((b::c).map V.int).length:Nat):=by rw[e];simp only[Q0];lia
  have h0:=YL k (Int.ne_of_gt pos);have j:=YD k pos;have g:(k % (((b::c).map V.int).length:Nat)).toNat<(b::c).length:=by rw[e] at h0 j ⊢;lia
  refine⟨_,rfl,_,rfl,_,rfl,a,_,rfl,.inl d,_,_,rfl,rfl,pos,a,_,_,V.int ((b::c)[(k % (((b::c).map V.int).length:Nat)).toNat]'g),rfl,rfl,d,uQ h0 ?_,q _⟩;rw[Q6,Qu g];rfl
def sG (K:O6):Sp:=λvs H Q _=>∃(a:f') (k:Int),vs=[.ref a,.int k]/\V9 K H a/\∀m:Int,0<=m->m<4294967231->Q (.int m) H
theorem ym:Qc ["_law_script","_law_k","_law_number"] ["_law_script","_law_k"] (ap CH):={}
theorem GE (F:PR K "_law_mix" "_law_mix" CH f fd)(T:Qj K mg CO)(WC:Df P w K mg base Ph 1 "_law_cell" ["_law_script","_law_k"] (Az K)):Py P w K mg base Ph 2 f fd ["_law_script","_law_k"] (sG K):=by
 refine F.ok ym (λvs H Q E h=>?_) (λe A outer s H vs Q E b h=>?_)
 .obtain⟨a,k,rfl,_⟩:=h;rfl
 obtain⟨a,k,rfl,d,q⟩:=h;refine⟨_,ae (ay (i:=2) ym.nd rfl (PB rfl) (av cL (av bT (az WC b rfl pS (ac (pv 0) (ac (pv 1) ad))) (av e8 ao (av bT (pv 1) ao))) ao))
  (ae (ay (i:=2) ym.nd rfl (PB rfl) (av cL (av e8 (pv 2) ao) ao))
  (ai (aH (av cL (av bT (av e8 (av fS (pv 2) ao) ao) (pv 2)) ao)))),?_⟩
 refine⟨_,rfl,_,rfl,a,k,rfl,d,λc=>?_⟩;refine⟨_,rfl,_,_,rfl,rfl,_,_,rfl,rfl,.inl ⟨by decide,by decide⟩,_,_,rfl,rfl,_,_,rfl,rfl,by show(0:Int)<4294967291;decide,?_⟩;refine⟨_,rfl,_,_,rfl,rfl,.inr ⟨by decide,by decide⟩,_,_,rfl,rfl,by show(0:Int)<4294967279;decide,?_⟩;refine⟨_,rfl,_,_,rfl,rfl,⟨by decide,by decide⟩,_,_,rfl,rfl,.inr ⟨by decide,by decide⟩,_,rfl,_,_,rfl,rfl,_,_,rfl,rfl,by show(0:Int)<4294967231;decide,?_⟩;exact q _ (YL _ (by decide)) (YD _ (by decide))
def OL (K:O6)(H:Hp)(a:f')(os:Bk.ak):Prop:=∃ys,H a=some (.lst ys)/\Pl (aA.rep K H) ys os
theorem OL.same {os:Bk.ak}(s:ar H H')(h:OL K H a os):OL K H' a os:=by
 obtain⟨b,q,p⟩:=h;exact⟨b,s _ _ q,aJ (λ_ _ z=>aA.mono s z) p⟩
theorem OL.rep {os:Bk.ak}(h:OL K H a os):(i9 aA).rep K H (.ref a) os:=by
 obtain⟨b,q,p⟩:=h;exact⟨a,b,rfl,Pg.of q,p⟩
theorem OL.new {os:Bk.ak}(ha:H a=none)(p:Pl (aA.rep K H) ys os):OL K (upd H a (.lst ys)) a os:=
 ⟨ys,ag,aJ (λ_ _ z=>aA.mono (af ha _) z) p⟩
def yn (K:O6):Sp:=λvs H Q _=>∃many:Nat,vs=[.int (many:Int)]/\1<=many/\many<=5/\∀(l:f') (H':Hp),ar H H'->H l=none->OL K H' l (Bk.aK many)->Q (.ref l) H'
noncomputable abbrev NA:List N':=["_law_many","_law_found","_law_k","_law_longer","_law_order_here"]
theorem iR:Qc NA ["_law_many"] (ap yk):={}
theorem CI {t:Int}{o:List Int}:inV (.int t) (o.map V.int)=o.contains t:=by
 induction o with
 | nil=>rfl
 | cons x o b=>
  simp only[inV,Qr,WQ,List.contains_cons] at b ⊢;rw[b]
  congr 1
  simp[Re,fV,eq_comm]
theorem AA (many i:Nat)(o):(((Mx.aw (i+1)).filter λt=>!o.contains t).map λt=>o++[t])=(((Mx.aw i).filter λt=>!o.contains t).map λt=>o++[t])++(if o.contains (i:Int)=true then [] else [o++[(i:Int)]]):=by
 rw[Bk.rd,YE,Rm]
 congr 1
 by_cases h:o.contains (i:Int)=true
 .rw[Pf h,Wo (by rw[h];decide)];rfl
 .rw[O9 h,UJ (by rw[adh.mpr h];rfl)];rfl
theorem GF (F:PR K "_law_all" "_law_all" yk f fd)(T:Qj K mg CO):Py P w K mg base Ph 1 f fd ["_law_many"] (yn K):=by
 refine F.ok iR (λvs H Q E h=>?_) (λPi A outer s H vs Q E X h=>?_)
 .obtain⟨many,rfl,_⟩:=h;rfl
 obtain⟨many,rfl,m1,m5,z⟩:=h;refine⟨_,ae (ay (i:=1) iR.nd rfl (PB rfl) (bf (ac (cz ad) ad)))
  (ae (bL RB rfl (dF rfl T.t.range (ac (pv 0) ad)) (bw (i:=2) iR.nd rfl (PB rfl))
   (ae (ay (i:=3) iR.nd rfl (PB rfl) (bf ad))
   (ae (bL RB rfl (cf (pv 1)) (bw (i:=4) iR.nd rfl (Ve rfl))
    (ai (ay (i:=3) iR.nd rfl (PB rfl) (av gv (pv 3) (dB rfl (show Sc false (ap yk) NA _ _ from by constructor <;> decide +kernel) (dF rfl T.t.range (ac (pv 0) ad))
     (λ_ _ _ _ _ _=>gR (aP (show Qy _ _ (rIn K true) from tF) (pv 0) (pv 5) rfl))
     (λcl C PZ QT fp aa=>av (show Qy _ _ (Dx K) from wG) (pv 5) (cz (ac (pv 0) ad))) iR.nd)))))
   (ai (ay (i:=1) iR.nd rfl (PB rfl) (pv 3))))))
  (ai (aH (pv 1)))),?_⟩
 refine⟨by show 0<=Pj;decide,λJ L=>?_⟩;have W:=af L (.tup []);refine⟨by show 1<=Pj;decide,λl0 S=>?_⟩;have u1:=af S (.lst [V.ref J]);have r0:aA.rep K (upd H J (.tup [])) (.ref J) []:=cJ (Pw.of ag);refine⟨_,rfl,_,rfl,by lia,by lia,iH (lo:=0) (n:=((many:Int)).toNat) (λk d p=>∃R M b l,d=[some (.int (many:Int)),some (.ref l),R,M,b]/\ar H p/\H l=none/\OL K p l (Bk.jR many k)) ⟨none,none,none,l0,rfl,W.trans u1,W.free S,OL.new S (.cons r0 .nil)⟩ ?_ ?_⟩
 .rintro k d p hk ⟨R,M,b,l,rfl,s1,Vt,N⟩;have hk5:k<many:=by lia
  refine⟨by show 0<=Pj;decide,λg0 U=>?_⟩;have s2:=af U (.lst []);obtain⟨ys,Z,py⟩:=N;have hlen:=py.length;refine⟨_,rfl,l,rfl,⟨_,Pg.of (s2 _ _ Z)⟩,cP (K:=K) (a:=l) (xs:=ys) (λi d m=>∃b g,d=[some (.int (many:Int)),some (.ref l),some (.int (0+(k:Int))),some (.ref g),b]/\ar p m/\p g=none/\OL K m g (Bk.ext many ((Bk.jR many k).take i))) ⟨b,g0,rfl,s2,U,[],ag,.nil⟩ ?_ ?_ ?_⟩
  .rintro i d m _ ⟨b,g,rfl,s3,_⟩;exact Pg.of (s3 _ _ Z)
  .rintro i y d m hy ⟨b,g,rfl,s3,D,I⟩;obtain⟨o,ho,ro⟩:=bS py hy;obtain⟨a,rfl,qa⟩:=ce (aA.mono s3 ro);have lo:o.length=k:=Bk.uP k o (QF ho);obtain⟨Y,hg,pg⟩:=I;have agy:=pg.length;have b1:(Bk.ext many ((Bk.jR many k).take i)).length<=200:=RC (Bk.GB i) (Bk.CF many (Bk.in5 m1 m5) (k+1) (Bk.LI (by lia)));refine⟨_,rfl,_,rfl,_,rfl,by lia,by lia,h9 (lo:=0) (n:=((many:Int)).toNat) (λj e x=>ar m x/\Pl (aA.rep K x) e (((Mx.aw j).filter λt=>!o.contains t).map λt=>o++[t])) ⟨ar.refl m,.nil⟩ ?_ (by rw[PY];lia) ?_ ?_⟩
   .rintro j e x hj ⟨_,u⟩;rw[u.length,PP];refine RC (aai _ _) ?_;rw[Mx.bc];exact Po _
   .rintro j e x hj ⟨s4,u⟩;have G:=s4.Qh qa;refine⟨_,rfl,_,rfl,a,_,rfl,.inr G,rfl,fB _,_,rfl,?_⟩;rw[AA many,Pf rfl,show(0+(j:Int))=(j:Int) by lia,CI]
    by_cases c:o.contains (j:Int)=true
    .rw[c];refine ba ⟨s4,?_⟩;rw[Pf rfl,SV];exact u
    .rw[adh.mpr c];refine bn ⟨_,rfl,_,rfl,by show 1<=Pj;decide,λt1 O=>?_⟩;have s5:=af O (.tup [V.int (j:Int)]);refine⟨a,t1,_,_,rfl,rfl,s5.Qh G,Pw.up,by rw[PP,PY];simp;lia,λr H5 s6 X=>?_⟩;refine⟨s4.trans (s5.trans s6),?_⟩;rw[O9 Rt];refine ck (aJ (λ_ _ z=>aA.mono (s5.trans s6) z) u) (.cons (cJ ?_) .nil);rw[Rm];exact X
   .rintro e x c0 ⟨s4,u⟩ Vs;have s5:=af Vs (.lst e);have zl:e.length<=5:=by
     rw[u.length,PP];refine RC (aai _ _) ?_;rw[Mx.bc];lia
    refine⟨g,c0,Y,e,rfl,rfl,s5 _ _ (s4 _ _ hg),ag,by rw[PY];lia,λn0 v=>?_⟩;have s6:=af v (.lst (Y++e));refine⟨_,n0,rfl,s3.trans (s4.trans (s5.trans s6)),s3.free (s4.free (s5.free v)),?_⟩;rw[Bk.CG ho];refine OL.new v (ck (aJ (λ_ _ z=>aA.mono (s4.trans s5) z) pg) (aJ (λ_ _ z=>aA.mono s5 z) u))
  .rintro d m ⟨b,g,rfl,s3,D,I⟩;rw[hlen,SD] at I;exact⟨_,rfl,_,_,_,g,rfl,s1.trans s3,s1.free D,I⟩
 .rintro d p ⟨R,M,b,l,rfl,s1,Vt,N⟩;exact⟨_,rfl,z l p s1 Vt N⟩
def yo (K:O6):Sp:=λvs H Q _=>∃(a:f') (k:Int) (many:Nat),vs=[.ref a,.int k,.int (many:Int)]/\V9 K H a/\1<=many/\many<=4/\∀(r:f') (os:Bk.ak) (H':Hp),ar H H'->OL K H' r os->os.Sublist (Bk.aK many)->Q (.ref r) H'
noncomputable abbrev NSt:List N':=["_law_script","_law_k","_law_many","_law_some","_law_way","_law_number","_law_share"]
theorem jV:Qc NSt ["_law_script","_law_k","_law_many"] (ap uR):={}
theorem uT {L os:Bk.ak}(ho:L[i]?=some o)(h:os.Sublist (L.take i)):os.Sublist (L.take (i+1))/\(os++[o]).Sublist (L.take (i+1)):=by
 rw[bC ho];exact⟨h.trans (List.sublist_append_left _ _),h.append (aas _)⟩
theorem Kw (h0:0<=i)(h1:i<6):∃c:Int,Si [V.int 0,V.int 0,V.int 1,V.int 3,V.int 6,V.int 4] i=some (.int c):=by
 have:i=0\/i=1\/i=2\/i=3\/i=4\/i=5:=by lia
 rcases this with rfl|rfl|rfl|rfl|rfl|rfl
 .exact⟨0,rfl⟩
 .exact⟨0,rfl⟩
 .exact⟨1,rfl⟩
 .exact⟨3,rfl⟩
 .exact⟨6,rfl⟩
 .exact⟨4,rfl⟩
theorem GG (F:PR K "_law_set" "_law_set" uR f fd)(T:Qj K mg CO)(WA:Df P w K mg base Ph 1 "_law_all" ["_law_many"] (yn K))(WM:Df P w K mg base Ph 2 "_law_mix" ["_law_script","_law_k"] (sG K)):Py P w K mg base Ph 3 f fd ["_law_script","_law_k","_law_many"] (yo K):=by
 refine F.ok jV (λvs H Q E h=>?_) (λPi A outer s H vs Q E L h=>?_)
 .obtain⟨a,k,many,rfl,_⟩:=h;rfl
 obtain⟨a,k,many,rfl,R,Y,m4,z⟩:=h;refine⟨_,ae (ay (i:=3) jV.nd rfl (Ve rfl) (az WA (L.mono (by decide)) rfl pS (ac (pv 2) ad)))
  (ae (ay (i:=4) jV.nd rfl (PB rfl) (av cL (az WM L rfl pS (ac (pv 0) (ac (pv 1) ad))) ao))
  (ae (ay (i:=5) jV.nd rfl (Ve rfl) (az WM L rfl pS (ac (pv 0) (ac (av bT (pv 1) ao) ad))))
  (ae (aY (aP cY (pv 4) ao (aW _)) (ai (aH (dB rfl (show Sc false (ap uR) NSt _ _ from by constructor <;> decide +kernel) (cf (pv 3))
    (λ_ _ _ _ _ _=>gR (aP cY (Rq K (pv 0) (av cL (pv 6) (pv 3))) (av cL (av fS (pv 6) ao) (pv 3)) (aW _)))
    (λcl C PZ QT fp aa=>pv 0) jV.nd))) aI)
  (ae (aY (aP cY (pv 4) ao (aW _)) (ai (aH (bj bB (bf (ac (bf ad) (ac (pv 3) (ac (fe lK (pv 3) fT (fU ao)) (ac (fe lK (pv 3) (fU (sj nS ao)) fT) ad))))) (av cL (pv 5) ao) (λ_ _=>rfl)))) aI)
  (ae (ay (i:=6) jV.nd rfl (Ve rfl) (bj bB (bf (ac ao (ac ao (ac ao (ac ao (ac ao (ac ao ad))))))) (pv 4) (λ_ _=>rfl)))
  (ai (aH (dB rfl (show Sc false (ap uR) NSt _ _ from by constructor <;> decide +kernel) (dF rfl T.t.range (ac (aB aN rfl T.t.len bN (ac (pv 3) ad)) ad))
    (λ_ _ _ _ _ _=>gR (aP lI (av cL (av fS (az WM L rfl pS (ac (pv 1) (ac (av bT (av bT (pv 2) ao) (pv 0)) ad))) ao) ao) (pv 7) (aW _)))
    (λcl C PZ QT fp aa=>bj (show SY _ (fL K) from bB) (pv 4) (pv 0) (λ_ _=>rfl)) jV.nd)))))))),?_⟩
 refine⟨_,rfl,many,rfl,Y,by lia,λl x s1 Vt ol=>?_⟩;obtain⟨d,D,py⟩:=ol;have hlen:=py.length;have agP:=Bk.nj many (Bk.in4 Y m4);refine⟨_,rfl,_,rfl,a,k,rfl,R.same s1,λm _ _=>⟨_,_,rfl,rfl,by show(0:Int)<6;decide,?_⟩⟩;have w0:=YL m (show(6:Int)≠0 by decide);have w1:=YD m (show(0:Int)<6 by decide);refine⟨_,rfl,_,rfl,_,_,rfl,rfl,a,_,rfl,R.same s1,λnum n0 _=>?_⟩;refine⟨_,rfl,rfl,_,rfl,?_⟩;refine xI (λ_=>?_) (λ_=>?_)
 .refine⟨_,rfl,l,rfl,⟨_,Pg.of D⟩,hZ (K:=K) (a:=l) (xs:=d) (λi g v=>v=x/\g.length<=i/\∃os,Pl (aA.rep K x) g os/\os.Sublist ((Bk.aK many).take i)) ⟨rfl,QN _,[],.nil,aas _⟩ ?_ (by rw[PY];lia) ?_ ?_⟩
  .rintro i g v _ ⟨rfl,G,_⟩;exact⟨Pg.of D,G⟩
  .rintro i y g v hy ⟨rfl,G,os,po,sub⟩;obtain⟨o,M,N⟩:=bS py hy;obtain⟨b,rfl,qb⟩:=ce N;have lo:=(Bk.ir Y (by lia) (QF M)).1;have p0:=YL num (show(many:Int)≠0 by lia);have p1:=YD num (show(0:Int)<(many:Int) by lia);have Qf:(num % (many:Int)).toNat<o.length:=by lia
   obtain⟨S,O⟩:=uT M sub;refine⟨_,rfl,_,rfl,_,rfl,_,_,rfl,rfl,by show(0:Int)<(many:Int);lia,b,_,_,.int (o[(num % (many:Int)).toNat]'Qf),rfl,rfl,qb,uQ p0 (by rw[Q6,Qu Qf];rfl),?_⟩;refine⟨_,rfl,_,_,rfl,rfl,⟨by decide,by decide⟩,_,rfl,_,_,rfl,rfl,by show(0:Int)<(many:Int);lia,rfl,_,rfl,?_⟩;refine xI (λ_=>?_) (λ_=>?_)
   .exact⟨_,rfl,rfl,by rw[QI];show g.length+1<=i+1;lia,os++[o],ck po (.cons N .nil),O⟩
   .exact⟨rfl,by lia,os,po,S⟩
  .rintro g v p ⟨rfl,_,os,po,sub⟩ I;exact z p os _ (s1.trans (af I _)) (OL.new I po) (sub.trans (abq _ _))
 refine⟨_,rfl,rfl,_,rfl,?_⟩;refine xI (λ_=>?_) (λ_=>?_)
 .refine⟨by show 0<=Pj;decide,λe X=>?_⟩;have s2:=af X (.lst []);refine⟨_,rfl,_,rfl,1,rfl,l,d,rfl,Pg.of (s2 _ _ D),λj Z=>?_⟩;have s3:=af Z (.lst (cj d none (some 1)));refine⟨_,rfl,1,rfl,-1,rfl,l,d,rfl,Pg.of (s3 _ _ (s2 _ _ D)),λu Yo=>?_⟩;have s4:=af Yo (.lst (cj d (some (-1)) none));refine⟨by show 4<=Pj;decide,λh0 W=>?_⟩;have s5:=af W (.lst [V.ref e,V.ref l,V.ref j,V.ref u]);have s6:=s2.trans (s3.trans (s4.trans s5));have p0:=YL num (show(4:Int)≠0 by decide);have p1:=YD num (show(0:Int)<4 by decide);have c1:cj d none (some 1)=d.take 1:=qf d 1;have e1:OL K (upd (upd (upd (upd x e (.lst [])) j (.lst (cj d none (some 1)))) u (.lst (cj d (some (-1)) none))) h0 (.lst [V.ref e,V.ref l,V.ref j,V.ref u])) e []:=OL.same (s3.trans (s4.trans s5)) ⟨[],ag,.nil⟩;have e2:=OL.same s6 ⟨d,D,py⟩;have e3:OL K (upd (upd (upd (upd x e (.lst [])) j (.lst (cj d none (some 1)))) u (.lst (cj d (some (-1)) none))) h0 (.lst [V.ref e,V.ref l,V.ref j,V.ref u])) j ((Bk.aK many).take 1):=OL.same (s4.trans s5) ⟨_,ag,by have q:=sv 1 (aJ (λ_ _ z=>aA.mono (s2.trans s3) z) py);rw[<-c1] at q;exact q⟩;have e4:OL K (upd (upd (upd (upd x e (.lst [])) j (.lst (cj d none (some 1)))) u (.lst (cj d (some (-1)) none))) h0 (.lst [V.ref e,V.ref l,V.ref j,V.ref u])) u ((Bk.aK many).drop (d.length-1)):=OL.same s5 ⟨_,ag,by have q:=sx (d.length-1) (aJ (λ_ _ z=>aA.mono (s2.trans (s3.trans s4)) z) py);rw[<-Ax] at q;exact q⟩;have cs:num % 4=0\/num % 4=1\/num % 4=2\/num % 4=3:=by lia
  refine⟨_,rfl,_,_,rfl,rfl,by show(0:Int)<4;decide,?_⟩;show fL _ (V.ref h0) (V.int (num % 4)) _ _;rcases cs with c|c|c|c
  .rw[c];exact⟨h0,_,0,V.ref e,rfl,rfl,Pg.up,rfl,z e [] _ (s1.trans s6) e1 (List.nil_sublist _)⟩
  .rw[c];exact⟨h0,_,1,V.ref l,rfl,rfl,Pg.up,rfl,z l _ _ (s1.trans s6) e2 (aas _)⟩
  .rw[c];exact⟨h0,_,2,V.ref j,rfl,rfl,Pg.up,rfl,z j _ _ (s1.trans s6) e3 (abq _ _)⟩
  .rw[c];exact⟨h0,_,3,V.ref u,rfl,rfl,Pg.up,rfl,z u _ _ (s1.trans s6) e4 (List.drop_sublist _ _)⟩
 obtain⟨sh,U⟩:=Kw w0 w1;refine⟨by show 6<=Pj;decide,λe X=>?_⟩;have s2:=af X (.lst [V.int 0,V.int 0,V.int 1,V.int 3,V.int 6,V.int 4]);refine⟨_,rfl,e,_,_,V.int sh,rfl,rfl,Pg.up,U,?_⟩;generalize (upd x e (.lst [V.int 0,V.int 0,V.int 1,V.int 3,V.int 6,V.int 4]))=v at s2 ⊢;have QM:=s2 _ _ D;refine⟨_,rfl,l,_,rfl,.inl (Pg.of QM),_,rfl,by lia,by lia,h9 (lo:=0) (n:=(((d.length:Nat):Int)).toNat) (λi g J=>J=v/\g.length<=i/\∃os,Pl (aA.rep K v) g os/\os.Sublist ((Bk.aK many).take i)) ⟨rfl,QN _,[],.nil,aas _⟩ ?_ (by rw[PY];lia) ?_ ?_⟩
 .rintro i g J _ ⟨_,G,_⟩;exact G
 .rintro i g J hi ⟨rfl,G,os,po,sub⟩;have Q3:i<d.length:=by lia
  obtain⟨o,M,N⟩:=bS py (Qu Q3);obtain⟨S,O⟩:=uT M sub;refine⟨_,rfl,_,rfl,_,_,rfl,rfl,_,rfl,_,_,rfl,rfl,a,_,rfl,R.same (s1.trans s2),λm2 _ _=>?_⟩;refine⟨_,_,rfl,rfl,⟨by decide,by decide⟩,_,_,rfl,rfl,by show(0:Int)<8;decide,_,rfl,_,_,rfl,rfl,_,rfl,?_⟩;refine xI (λ_=>?_) (λ_=>?_)
  .refine⟨_,rfl,_,rfl,l,d,_,_,rfl,rfl,Pg.of QM,?_,rfl,by rw[QI];show g.length+1<=i+1;lia,os++[o],ck po (.cons (aA.mono s2 N) .nil),O⟩;rw[show(0+(i:Int))=(i:Int) by lia];exact bU (Qu Q3)
  .exact⟨rfl,by lia,os,po,S⟩
 .rintro g J p ⟨rfl,_,os,po,sub⟩ I;exact z p os _ (s1.trans (s2.trans (af I _))) (OL.new I po) (sub.trans (abq _ _))
end Ord
namespace Bk
open Mx
theorem GH {l:List Int}(h:l[i]?=some t)(pt:p t=true):(l.filter p)[((l.take i).filter p).length]?=some t/\(l.filter p).take ((l.take i).filter p).length=(l.take i).filter p:=by
 obtain⟨c,rfl⟩:=QE.mp h;have e:l.filter p=(l.take i).filter p++l[i]::(l.drop (i+1)).filter p:=by
  have d:l=l.take i++l[i]::l.drop (i+1):=by rw[<-aae c,Wr]
  have b:=congrArg (List.filter p) d;rw[YE,UJ pt] at b;exact b
 rw[e];exact⟨by rw[Xx (Po _),Z4];rfl,by rw[List.take_left'];rfl⟩
theorem yp {lf:List Int}(Rs:lf.Pairwise (· < ·))(S:ez (n+1) (·∈lf) os):lf.filter (λt=>!(rests t os).isEmpty)=heads os:=by
 refine qe (Rs.filter _) (cC os) λx=>?_;rw[So,bE];have c:(!(rests x os).isEmpty)=true↔∃r,x::r∈os:=by
  rw[Bool.not_eq_true',List.isEmpty_eq_false_iff_exists_mem];exact exists_congr λr=>bb
 rw[c];constructor
 .rintro⟨_,r,b⟩;exact⟨(S _ b).2.1 x (Px ..),r,b⟩
 .rintro⟨_,r,b⟩;exact⟨((S _ b).2.2.2 x).mp (Px ..),r,b⟩
theorem yq {os:ak}(h:os[j]?=some o):rests t (os.take (j+1))=rests t (os.take j)++(eP t o).toList:=by
 unfold rests;rw[YG,h,abo,List.filterMap_append]
 congr 1
theorem AB:∀{rs:List O5},r∈rs->rs[rs.idxOf r]?=some r/\∀i,i<rs.idxOf r->rs[i]?≠some r
 | [],h=>by cases h
 | x::rs,h=>by
  rw[adC]
  by_cases e:x=r
  .subst e;rw[beq_self_eq_true];exact⟨rfl,λi c=>Pp c (aav _)⟩
  .rw[beq_false_of_ne e];have d:r∈rs:=by
    rcases PN.mp h with h|h
    .exact Pp h.symm e
    .exact h
   obtain⟨a,b⟩:=AB d;refine⟨by simpa using a,λi c=>?_⟩;cases i with
   | zero=>simpa using e
   | succ i=>simpa using b i (by simp at c;lia)
theorem EZ {r:O5}(h:r∉rs):(rs++[r])[rs.length]?=some r/\∀i,i<rs.length->(rs++[r])[i]?≠some r:=by
 refine⟨by simp,λi b e=>h ?_⟩;rw[VB b] at e;exact QF e
end Bk
namespace L2
open PySem
theorem lg (xs)(k:Nat):cj xs (some (k:Int)) none=xs.drop k:=by
 unfold cj;rw[HT.vO,HT.mR]
 by_cases h:k<=xs.length
 .rw[Nat.min_eq_left h,Wp (by rw[YH];lia)]
 .rw[Nat.min_eq_right (by lia),afb (Po _),afb (by lia)];simp
theorem bD.of (s:ar H H'):bD d H H':=λb o _ e=>s b o e
theorem bD.sqT (e:bD d H H')(hd:H d=some o)(so:fq o)(h:Pw K H a xs):Pw K H' a xs:=by
 rcases h with(h|⟨ob,h⟩)|h
 .exact .inl (.inl (e _ _ (by rintro rfl;rw[hd] at h;cases h;exact so) h))
 .exact .inl (.inr ⟨ob,e _ _ (by rintro rfl;rw[hd] at h;cases h;exact so) h⟩)
 .exact .inr h
end L2
namespace Ord
open PySem L2 Mx
theorem cy.sb (s:bD d H H')(hd:H d=some o)(so:fq o)(h:cy K H x r):cy K H' x r:=by
 obtain⟨p,e,q⟩:=h;exact⟨p,e,s.sqT hd so q⟩
theorem E1 (s:bD d H H')(hd:H d=some o)(so:fq o)(h:aA.rep K H x r):aA.rep K H' x r:=by
 obtain⟨p,e,q⟩:=ce h;subst e;exact cJ (s.sqT hd so q)
theorem OL.sb {os:Bk.ak}(s:bD d H H')(hd:H d=some o)(so:fq o)(n:a≠d)(h:OL K H a os):OL K H' a os:=by
 obtain⟨b,q,p⟩:=h;exact⟨b,s _ _ n q,aJ (λ_ _ z=>E1 s hd so z) p⟩
def sI (K:O6)(n:Nat):Sp:=λvs H Q _=>∃(many:Int) (la oa lr:f') (lf:List Int) (os:Bk.ak) (rs:List Bk.O5) (rx:List V),vs=[.int many,.ref la,.ref oa,.ref lr]/\H la=some (.lst (lf.map V.int))/\OL K H oa os/\H lr=some (.lst rx)/\Pl (bH K H) rx rs/\
 la≠lr/\oa≠lr/\lf.Pairwise (· < ·)/\lf.length=n/\Bk.ez n (·∈lf) os/\os≠[]/\os.length<=1000/\rs.length+os.length*n<1000/\
 ∀(H':Hp) (rx':List V),bD lr H H'->H' lr=some (.lst rx')->Pl (bH K H') rx' (Bk.lay n os rs).2->Q (.int ((Bk.lay n os rs).1:Nat)) H'
noncomputable abbrev NLy:List N':=["_law_many","_law_left","_law_orders","_law_rooms","_law_doors","_law_thing","_law_rests"]
noncomputable abbrev Zp:List N':=["_law_many","_law_left","_law_orders","_law_rooms"]
theorem oV:Qc NLy Zp (ap jc):={}
theorem uU:∀{rs:List Bk.O5},(rs.map enc).any (λa=>decide (a=enc r))=decide (r∈rs)
 | []=>rfl
 | x::rs=>by
  rw[Qr,WQ,uU]
  by_cases e:x=r
  .subst e;simp
  .rw[P8 (λz=>e (gT z)),Bool.false_or];exact sg ⟨λh=>PU _ h,λh=>(PN.mp h).resolve_left λz=>e z.symm⟩
theorem wH (F:PR K "_law_lay" "_law_lay" jc f fd)(T:Qj K mg CO)(n:Nat)(WS:∀m,n=m+1->Df P w K mg base Ph (m+1) "_law_lay" Zp (sI K m)):Py P w K mg base Ph (n+1) f fd Zp (sI K n):=by
 refine F.ok oV (λvs H Q E h=>?_) (λPi A outer s H vs Q E hr h=>?_)
 .obtain⟨many,W,oa,v,d,os,rs,rx,rfl,_⟩:=h;rfl
 obtain⟨many,W,oa,v,d,os,rs,rx,rfl,Xp,ol,QC,prs,nla,noa,Rs,aey,st,one,Qk,agx,z⟩:=h;cases n with
 | zero=>
  refine⟨_,ae (aY (aP (zB hr.θ) (pv 1) (bf ad) (aW _)) (ai (aH ao)) aI) (ae aM (ae aM (ae aM (ai aM)))),?_⟩;have l0:d=[]:=U9.mp aey;subst l0;refine⟨_,rfl,by show 0<=Pj;decide,λe0 Rw=>?_⟩;have s1:=af Rw (.lst []);refine⟨W,e0,[],[],rfl,rfl,Pg.of (s1 _ _ Xp),Pg.up,rfl,rfl,_,rfl,bn ?_⟩;exact z _ rx (bD.of s1) (s1 _ _ QC) (aJ (λ_ _ z=>z.same s1) prs)
 | succ n=>
  have D:=WS n rfl;have hu:(A.deeper (UK "_law_lay" (ap jc) s.heap.objs.size f Pi)).units+64<PK:=hr.units;have Zq:(A.deeper (UK "_law_lay" (ap jc) s.heap.objs.size f Pi)).units+2<PK:=by lia
  have hu3:(A.deeper (UK "_law_lay" (ap jc) s.heap.objs.size f Pi)).units+1+2<PK:=by lia
  have hu6:(A.deeper (UK "_law_lay" (ap jc) s.heap.objs.size f Pi)).units+4+2<PK:=by lia
  refine⟨_,ae (aY (aP (zB hr.θ) (pv 1) (bf ad) (aW _)) (ai aM) aI)
   (ae (ay (i:=4) oV.nd rfl (PB rfl) (bf ad))
   (ae (bL RB rfl (cf (pv 1)) (bw (i:=5) oV.nd rfl (Ve rfl))
    (ae (lZ (i0:=6) oV.nd rfl (PB rfl) rfl (show Sc false (ap jc) NLy _ _ from by constructor <;> decide +kernel) (cf (pv 2))
      (λ_ _ _ _ _ _=>gR (aP cY (Rq K (pv 0) ao) (pv 6) (aW _)))
      (λcl C PZ QT fp aa=>fe (show SlR _ (FX K) from zm) (pv 0) (fU ao) fT) rfl)
    (ai (aY (aP (tV (i9 aA) Zq) (pv 6) (bf ad) (aW _))
     (ai (bA (dJ T4 VC VD cN (pv 4) (ac (cz (ac (pv 5) (ac
      (az D hr rfl pS (ac (pv 0) (ac (dB rfl (show Sc false (ap jc) NLy _ _ from by constructor <;> decide +kernel) (cf (pv 1))
        (λ_ _ _ _ _ _=>gR (aP iI (pv 0) (pv 6) (aW _))) (λcl C PZ QT fp aa=>pv 0) oV.nd) (ac (pv 6) (ac (pv 3) ad))))) ad))) ad)))) aI))))
   (ae (aY (aP (qK de hu3) (aV cW rfl T.t.tuple cw (ac (pv 4) ad)) (pv 3) rfl)
    (ai (bA (dJ T4 VC VD cN (pv 3) (ac (aV cW rfl T.t.tuple cw (ac (pv 4) ad)) ad)))) aI)
   (ai (aH (av bT (dJ T4 aaf acU (zM de hu6) (pv 3) (ac (aV cW rfl T.t.tuple cw (ac (pv 4) ad)) ad)) ao)))))),?_⟩
  have mul:Ux os*(n+1)=Ux os*n+Ux os:=abT _ _;have agB:0<os.length:=Wu.mpr one;refine⟨_,rfl,by show 0<=Pj;decide,λe0 Rw=>?_⟩;have s0:=af Rw (.lst []);refine⟨W,e0,d.map V.int,[],rfl,rfl,Pg.of (s0 _ _ Xp),Pg.up,fB _,rfl,_,rfl,?_⟩;rw[show(if false=true then !ff (d.map V.int) [] else ff (d.map V.int) [])=false from by
   rw[O9 Rt];exact pK (by rw[PP,aey];simp)]
  refine ba ?_;refine⟨by show 0<=Pj;decide,λg Yo=>?_⟩;have s1:=s0.trans (af Yo (.lst []));have gH:H g=none:=s0.free Yo;have O:g≠v:=(au QC gH).symm;have hh:d.filter (λt=>!(Bk.rests t os).isEmpty)=Bk.heads os:=Bk.yp Rs st;refine⟨_,rfl,W,rfl,⟨_,Pg.of (s1 _ _ Xp)⟩,cP (K:=K) (a:=W) (xs:=d.map V.int) (λi σ I=>∃v5 v6 l G,σ=[some (.int many),some (.ref W),some (.ref oa),some (.ref v),some (.ref g),v5,v6]/\bD v H I/\I g=some (.lst l)/\l.length<=i/\
    Pl (cy K I) l (Bk.aO (Bk.lay n) os ((d.take i).filter (λt=>!(Bk.rests t os).isEmpty)) rs).1/\I v=some (.lst G)/\Pl (bH K I) G (Bk.aO (Bk.lay n) os ((d.take i).filter (λt=>!(Bk.rests t os).isEmpty)) rs).2)
   ⟨none,none,[],rx,rfl,bD.of s1,ag,QN _,.nil,s1 _ _ QC,aJ (λ_ _ z=>z.same s1) prs⟩ ?_ ?_ ?_⟩
  .rintro i σ I _ ⟨v5,v6,l,G,rfl,sb,_⟩;exact Pg.of (sb _ _ nla Xp)
  .rintro i x σ I hx ⟨v5,v6,l,G,rfl,sb,U,dl,Z,L,N⟩;obtain⟨t,rfl,ht⟩:=gS hx;obtain⟨ys,hoa,pos⟩:=OL.sb sb QC trivial noa ol;have agC:=pos.length;have hi:=(QE.mp ht).1;refine⟨_,rfl,oa,rfl,⟨_,Pg.of hoa⟩,hZ (K:=K) (a:=oa) (xs:=ys) (λj J X=>ar I X/\J.length<=j/\Pl (aA.rep K X) J (Bk.rests t (os.take j))) ⟨ar.refl _,QN _,.nil⟩ ?_ (by rw[PY];lia) ?_ ?_⟩
   .rintro j J X _ ⟨s3,zl,_⟩;exact⟨Pg.of (s3 _ _ hoa),zl⟩
   .rintro j y J X hy ⟨s3,zl,pz⟩;obtain⟨o,ho,ro⟩:=bS pos hy;obtain⟨b,rfl,qb⟩:=ce (aA.mono s3 ro);have agD:=(st o (QF ho)).1;cases o with
    | nil=>simp at agD
    | cons h r=>
     refine⟨_,rfl,b,_,0,.int h,rfl,rfl,qb,gJ,_,rfl,rfl,_,rfl,?_⟩;rw[Bk.yq ho]
     by_cases c:h=t
     .subst c;rw[P7 rfl];have e1:Bk.eP h (h::r)=some r:=by show(if h=h then some r else none)=some r;rw[Pf rfl]
      rw[e1];refine bn ⟨_,rfl,1,rfl,b,_,rfl,qb,?_,λp hp=>?_⟩
      .rw[PP];simp[HT.P3]
      have s4:=af hp (.tup (cj ((h::r).map V.int) (some 1) none));refine⟨s3.trans s4,by rw[QI];show J.length+1<=j+1;lia,ck (aJ (λ_ _ z=>aA.mono s4 z) pz) (.cons (cJ (Pw.of ?_)) .nil)⟩;rw[ag,show cj ((h::r).map V.int) (some 1) none=r.map V.int from by rw[show(1:Int)=((1:Nat):Int) from rfl,lg];rfl]
     .rw[P8 (λz=>c (V.int.inj z))];have e1:Bk.eP t (h::r)=none:=by show(if h=t then some r else none)=none;rw[O9 c]
      rw[e1];refine ba ⟨s3,by lia,?_⟩;rw[Option.toList_none,SV];exact pz
   rintro J X c0 ⟨s3,zl,pz⟩ Vs;rw[agC,SD] at pz;have s4:=af Vs (.lst J);have oc:OL K (upd X c0 (.lst J)) c0 (Bk.rests t os):=OL.new Vs pz;have Yp:=s3.trans s4;generalize (upd X c0 (.lst J))=H4 at s4 oc Yp ⊢;refine⟨_,rfl,by show 0<=Pj;decide,λe1 V8=>?_⟩;have s5:=af V8 (.lst []);have oc5:=OL.same s5 oc;refine⟨Bk.rests t os,[],oc5.rep,⟨e1,[],rfl,Pg.up,.nil⟩,_,rfl,?_⟩;have Ts:=Yp.trans s5;generalize (upd H4 e1 (.lst []))=H5 at s5 oc5 Ts ⊢;have tk:(d.take (i+1)).filter (λt=>!(Bk.rests t os).isEmpty)=(d.take i).filter (λt=>!(Bk.rests t os).isEmpty)++(if Bk.rests t os=[] then [] else [t]):=by
    rw[bC ht,YE]
    congr 1
    by_cases e:Bk.rests t os=[]
    .rw[Pf e,Wo (by rw[e];decide)];rfl
    .rw[O9 e,UJ (by rw[ae0.mpr e];rfl)];rfl
   by_cases e:Bk.rests t os=[]
   .rw[Pf rfl,P7 e];refine ba ?_;refine⟨_,_,l,G,rfl,sb.trans (bD.of Ts),Ts _ _ U,by lia,?_,Ts _ _ L,?_⟩
    .rw[tk,Pf e,SV];exact aJ (λ_ _ z=>z.same Ts) Z
    .rw[tk,Pf e,SV];exact aJ (λ_ _ z=>z.same Ts) N
   .rw[Pf rfl,P8 e];refine bn ?_;have pt:(λt=>!(Bk.rests t os).isEmpty) t=true:=by show(!(Bk.rests t os).isEmpty)=true;rw[ae0.mpr e];rfl
    obtain⟨f1,f2⟩:=Bk.GH (p:=λt=>!(Bk.rests t os).isEmpty) ht pt;rw[hh] at f1 f2;obtain⟨bd1,bd2⟩:=Bk.oQ (n:=n) (rs:=rs) f1;rw[f2] at bd1 bd2;have aez:H5 W=some (.lst (d.map V.int)):=Ts _ _ (sb _ _ nla Xp);have lfl:(d.map V.int).length=d.length:=PP _;have l8:d.length<=os.length*(n+1):=by
     have:1*(n+1)<=os.length*(n+1):=U' _ agB;lia
    refine⟨_,rfl,.inl ⟨rfl,_,Pg.of (Ts _ _ U)⟩,_,rfl,_,rfl,_,rfl,W,rfl,⟨_,Pg.of aez⟩,hZ (K:=K) (a:=W) (xs:=d.map V.int) (λj J H6=>H6=H5/\J.length<=j/\J=((d.take j).filter (λy=>decide (y≠t))).map V.int) ⟨rfl,QN _,rfl⟩ ?_ (by rw[PY];lia) ?_ ?_⟩
    .rintro j J H6 _ ⟨rfl,zl,_⟩;exact⟨Pg.of aez,zl⟩
    .rintro j y J H6 hy ⟨rfl,zl,rfl⟩;obtain⟨yy,rfl,hyy⟩:=gS hy;refine⟨_,rfl,_,rfl,rfl,_,rfl,?_⟩;rw[bC hyy,YE,Rm]
     by_cases c:yy=t
     .subst c;rw[P7 rfl];refine ba ⟨rfl,by lia,?_⟩;rw[Wo (by simp)];simp
     .rw[P8 (λz=>c (V.int.inj z))];refine bn ⟨_,rfl,rfl,by rw[QI];show _+1<=j+1;lia,?_⟩;rw[UJ (by simpa using c)];rfl
    rintro zs2 H6 d0 ⟨rfl,_,rfl⟩ V';rw[lfl,SD];have s6:=af V' (.lst ((d.filter (λy=>decide (y≠t))).map V.int));have hd6:(upd H6 d0 (.lst ((d.filter (λy=>decide (y≠t))).map V.int))) d0=some (.lst ((d.filter (λy=>decide (y≠t))).map V.int)):=ag;have UF:=Ts.trans s6;generalize (upd H6 d0 (.lst ((d.filter (λy=>decide (y≠t))).map V.int)))=H7 at s6 hd6 UF ⊢;have hl7:=UF _ _ L;have oc7:=OL.same s6 oc5;have agE:d0≠v:=(au (Ts _ _ L) V').symm;have agF:c0≠v:=(au (s3 _ _ L) Vs).symm;have tm:t∈d:=QF ht;have fm:∀x,x∈d.filter (λy=>decide (y≠t))↔x∈d/\x≠t:=λx=>by rw[So,decide_eq_true_eq]
    have S2:Bk.ez n (·∈d.filter (λy=>decide (y≠t))) (Bk.rests t os):=λo ho=>by
     obtain⟨a1,a2,a3,a4⟩:=st.rests t o ho;exact⟨a1,a2,a3,λx=>(a4 x).trans (fm x).symm⟩
    have agG:(d.filter (λy=>decide (y≠t))).length=n:=by
     obtain⟨o,ho⟩:=T3 _ e;obtain⟨a1,_,a3,a4⟩:=S2 o ho;have nd2:(d.filter (λy=>decide (y≠t))).Nodup:=(Rs.filter _).imp λh e=>Pp h (by rw[e];lia);rw[<-a1];exact((aad a3 nd2).mpr a4).length_eq.symm
    have rl:(Bk.rests t os).length<=os.length:=by
     have:=List.length_filterMap_le (Bk.eP t) os;exact this
    refine⟨_,rfl,_,rfl,many,d0,c0,v,_,Bk.rests t os,_,G,rfl,hd6,oc7,hl7,aJ (λ_ _ z=>z.same UF) N,agE,agF,Rs.filter _,agG,S2,e,by lia,by lia,λH8 rx8 R hl8 pr8=>?_⟩;refine⟨by show 2<=Pj;decide,λtq Zn=>?_⟩;have s9:=af Zn (.tup [V.int t,V.int ((Bk.lay n (Bk.rests t os) (Bk.aO (Bk.lay n) os ((d.take i).filter (λt=>!(Bk.rests t os).isEmpty)) rs).2).1:Nat)]);have hg9:=s9 _ _ (R _ _ O (UF _ _ U));refine⟨g,l,_,rfl,rfl,hg9,by rw[PY];lia,?_⟩;have tqg:tq≠g:=(au (R _ _ O (UF _ _ U)) Zn).symm;refine⟨_,_,l++[.ref tq],rx8,rfl,λb u nb q=>?_,ag,by rw[QI];show l.length+1<=i+1;lia,?_,?_,?_⟩
    .rw[aq (au q gH)];exact s9 _ _ (R _ _ nb (UF _ _ (sb _ _ nb q)))
    .rw[tk,O9 e,Bk.iO];refine ck (aJ (λ_ _ z=>?_) Z) (.cons ⟨tq,rfl,Pw.of ?_⟩ .nil)
     .obtain⟨p,e,q⟩:=(cy.sb R hl7 trivial (z.same UF)).same s9;exact⟨p,e,q.soft hg9 trivial⟩
     .rw[aq tqg,ag]
    .rw[aq O.symm];exact s9 _ _ hl8
    .rw[tk,O9 e,Bk.iO];exact aJ (λ_ _ z=>(z.same s9).soft hg9 trivial) pr8
  .rintro σ I ⟨v5,v6,l,G,rfl,sb,U,dl,Z,L,N⟩;rw[show(d.map V.int).length=d.length from PP _,SD,hh] at Z N;have db:=Bk.mM (n:=n) (os:=os) (rs:=rs);have rl:=N.length;refine⟨_,rfl,g,l,rfl,.inl ⟨Pg.of U,λt1 ht1=>?_⟩⟩;have s3:=af ht1 (.tup l);have ra:∀{H':Hp}{p:f'},ar I H'->H' p=some (.tup l)->bH K H' (.ref p) (Bk.aO (Bk.lay n) os (Bk.heads os) rs).1:=λs hp=>⟨_,l,rfl,Pw.of hp,aJ (λ_ _ z=>z.same s) Z⟩
   have hk:Bk.lay (n+1) os rs=Bk.keep (Bk.aO (Bk.lay n) os (Bk.heads os) rs).2 (Bk.aO (Bk.lay n) os (Bk.heads os) rs).1:=rfl;rw[hk] at z;generalize (Bk.aO (Bk.lay n) os (Bk.heads os) rs).2=P1 at N z db rl ra;generalize (Bk.aO (Bk.lay n) os (Bk.heads os) rs).1=rm at Z z ra;refine⟨_,rfl,enc rm,P1.map enc,(ra s3 ag).rep,⟨v,G,rfl,Pg.of (s3 _ _ L),fG (aJ (λ_ _ z=>z.same s3) N)⟩,_,rfl,?_⟩;rw[Pf rfl,uU]
   by_cases c:rm∈P1
   .rw[P7 c];have zk:Bk.keep P1 rm=(P1.idxOf rm+2,P1):=by unfold Bk.keep;rw[Pf c]
    rw[zk] at z;refine ba ?_;obtain⟨i1,i2⟩:=Bk.AB c;refine⟨_,rfl,.inl ⟨rfl,_,Pg.of (s3 _ _ L)⟩,_,rfl,g,l,rfl,.inl ⟨Pg.of (s3 _ _ U),λM TU=>?_⟩⟩;have s4:=s3.trans (af TU (.tup l));refine⟨_,enc rm,P1.map enc,P1.idxOf rm,rfl,(ra s4 ag).rep,⟨v,G,rfl,Pg.of (s4 _ _ L),fG (aJ (λ_ _ z=>z.same s4) N)⟩,by rw[Q6,i1];rfl,λi hi h=>?_,?_⟩
    .rw[Q6] at h;cases hq:P1[i]? with
     | none=>rw[hq] at h;cases h
     | some y=>
      rw[hq] at h;have:=gT (Sn h);subst this;exact i2 i hi hq
    .refine⟨_,_,rfl,rfl,?_⟩;have:=z _ G (sb.trans (bD.of s4)) (s4 _ _ L) (aJ (λ_ _ z=>z.same s4) N);exact this
   .rw[P8 c];have zk:Bk.keep P1 rm=(P1.length+2,P1++[rm]):=by unfold Bk.keep;rw[O9 c]
    rw[zk] at z;refine bn ?_;obtain⟨i1,i2⟩:=Bk.EZ c;refine⟨_,rfl,.inl ⟨rfl,_,Pg.of (s3 _ _ L)⟩,_,rfl,g,l,rfl,.inl ⟨Pg.of (s3 _ _ U),λM TU=>?_⟩⟩;have s4:=s3.trans (af TU (.tup l));have hl4:=s4 _ _ L;refine⟨v,G,.ref M,rfl,rfl,hl4,by rw[PY];lia,?_⟩;have agZ:M≠v:=(au (s3 _ _ L) TU).symm;have r2:=ra s4 ag;have Y:=ck (aJ (λ_ _ z=>(z.same s4).soft (u:=.lst (G++[.ref M])) hl4 trivial) N) (.cons (r2.soft (u:=.lst (G++[.ref M])) hl4 trivial) .nil);have S:bD v I (upd (upd (upd I t1 (.tup l)) M (.tup l)) v (.lst (G++[.ref M]))):=λb u nb q=>by rw[aq nb];exact s4 _ _ q
    have hg4:=S _ _ O U;have Zr:(upd (upd (upd I t1 (.tup l)) M (.tup l)) v (.lst (G++[.ref M]))) v=some (.lst (G++[.ref M])):=ag;have pd4:=aJ (λ_ _ z=>cy.sb S L trivial z) Z;generalize (upd (upd (upd I t1 (.tup l)) M (.tup l)) v (.lst (G++[.ref M])))=H5 at Y S hg4 Zr pd4 ⊢;refine⟨_,rfl,.inl ⟨rfl,_,Pg.of Zr⟩,_,rfl,g,l,rfl,.inl ⟨Pg.of hg4,λt3 ht3=>?_⟩⟩;have s6:=af ht3 (.tup l);have r6:bH K (upd H5 t3 (.tup l)) (.ref t3) rm:=⟨_,l,rfl,Pw.of ag,aJ (λ_ _ z=>z.same s6) pd4⟩
    refine⟨_,enc rm,(P1++[rm]).map enc,P1.length,rfl,r6.rep,⟨v,_,rfl,Pg.of (s6 _ _ Zr),fG (aJ (λ_ _ z=>z.same s6) Y)⟩,by rw[Q6,i1];rfl,λi hi h=>?_,?_⟩
    .rw[Q6] at h;cases hq:(P1++[rm])[i]? with
     | none=>rw[hq] at h;cases h
     | some y=>
      rw[hq] at h;have:=gT (Sn h);subst this;exact i2 i hi hq
    .refine⟨_,_,rfl,rfl,?_⟩;have:=z _ _ (sb.trans (S.trans (bD.of s6))) (s6 _ _ Zr) (aJ (λ_ _ z=>z.same s6) Y);exact this
theorem AC (F:PR K "_law_lay" "_law_lay" jc f fd)(T:Qj K mg CO)(b:bK K fd Zp [])(m:mg "_law_lay"=some (.ref f)):∀n,Py P w K mg base Ph (n+1) f fd Zp (sI K n)
 | 0=>wH F T 0 λm h=>nomatch h
 | n+1=>wH F T (n+1) λk h=>by
  cases h;exact⟨f,fd,AC F T b m n,b,F.kp,m⟩
def qi (K:O6):Sp:=λvs H Q _=>∃(many:Nat) (oa:f') (os:Bk.ak),vs=[.int (many:Int),.ref oa]/\OL K H oa os/\Bk.Qn many os/\
 ∀(t lr:f') (H':Hp),ar H H'->XV K H H' t lr many (bh many os).1 (bh many os).2->Q (.ref t) H'
theorem qj:Qc ["_law_many","_law_orders","_law_rooms","_law_first"] ["_law_many","_law_orders"] (ap kZ):={}
theorem AD (n:Nat):(Mx.aw n).Pairwise (· < ·):=by
 unfold Mx.aw;rw[VE];exact abh.imp λh=>by lia
theorem CJ (F:PR K "_law_book" "_law_book" kZ f fd)(T:Qj K mg CO)(WL:∀n,Df P w K mg base Ph (n+1) "_law_lay" Zp (sI K n)):Py P w K mg base Ph 7 f fd ["_law_many","_law_orders"] (qi K):=by
 refine F.ok qj (λvs H Q E h=>?_) (λL A outer s H vs Q E N h=>?_)
 .obtain⟨many,U,os,rfl,_⟩:=h;rfl
 obtain⟨many,U,os,rfl,W,S,z⟩:=h;have m1:=S.m1;have m5:=S.m5;have len:=S.len;have hu:(A.deeper (UK "_law_book" (ap kZ) s.heap.objs.size f L)).units+64<PK:=N.units;have Zq:(A.deeper (UK "_law_book" (ap kZ) s.heap.objs.size f L)).units+2<PK:=by lia
 refine⟨_,ae (ay (i:=2) qj.nd rfl (PB rfl) (bf ad))
  (ae (aY (aP (zL (i9 aA) Zq) (pv 1) (bf ad) (aW _)) (ai (aH (cz (ac (pv 0) (ac (bf ad) (ac ao ad)))))) aI)
  (ae (ay (i:=3) qj.nd rfl (PB rfl) (az (WL many) (N.mono (by lia)) rfl pS (ac (pv 0) (ac
    (aV (gG rfl) rfl T.t.list ib (ac (aV dG rfl T.t.range fA (ac (pv 0) ad)) ad))
    (ac (aB kG rfl T.t.sorted ig (ac (pv 1) ad)) (ac (pv 2) ad))))))
  (ai (aH (cz (ac (pv 0) (ac (pv 2) (ac (pv 3) ad)))))))),?_⟩
 refine⟨by show 0<=Pj;decide,λd I=>?_⟩;have s1:=af I (.lst []);have M:(upd H d (.lst [])) d=some (.lst []):=ag;generalize (upd H d (.lst []))=H1 at s1 M ⊢;refine⟨_,rfl,by show 0<=Pj;decide,λR Rw=>?_⟩;have s2:=af Rw (.lst []);refine⟨os,[],(OL.same (s1.trans s2) W).rep,⟨R,[],rfl,Pg.up,.nil⟩,_,rfl,?_⟩;rw[O9 Rt];have v:=s2 _ _ M;generalize (upd H1 R (.lst []))=H2 at s2 v ⊢;have Rz:=s1.trans s2
 by_cases e:os=[]
 .rw[P7 e];subst e;refine bn ⟨_,rfl,by show 0<=Pj;decide,λO X=>?_⟩;have s3:=Rz.trans (af X (.lst []));refine⟨by show 3<=Pj;decide,λt l=>?_⟩;have s4:=af l (.tup [V.int (many:Int),V.ref O,V.int 0]);exact z t O _ (s3.trans s4) ⟨s3.free l,Rz.free X,by rw[iu];exact ag,[],s4 _ _ ag,by rw[iu];exact .nil⟩
 .rw[P8 e];refine ba ?_;refine⟨_,rfl,_,rfl,(many:Int),rfl,λC Y=>⟨C,0,(many:Int),rfl,ag,by decide,by decide,by lia,by lia,by lia,λp J=>?_⟩⟩;have s3:=(af Y (.RK 0 (many:Int))).trans (af J (.lst (cU 0 ((many:Int)-0).toNat)));have ei:cU 0 ((many:Int)-0).toNat=(Mx.aw many).map V.int:=by rw[cA,show((many:Int)-0).toNat=many by lia]
  have m:(upd (upd H2 C (.RK 0 (many:Int))) p (.lst (cU 0 ((many:Int)-0).toNat))) p=some (.lst ((Mx.aw many).map V.int)):=by rw[ag,ei]
  have y:H2 p=none:=(af Y (.RK 0 (many:Int))).free J;generalize (upd (upd H2 C (.RK 0 (many:Int))) p (.lst (cU 0 ((many:Int)-0).toNat)))=H3 at s3 m ⊢;have o3:=OL.same (Rz.trans s3) W;refine⟨_,rfl,.ref U,os,rfl,o3.rep,λks hk=>?_,by lia,λl2 S7 g c Xo perm Rs=>?_⟩
  .have:=(S.Y5 ks hk).1;intro e;subst e;simp at this;lia
  have s4:=af c (.lst S7);have mem:∀o,o∈g↔o∈os:=λo=>perm.mem_iff;have kl:g.length=os.length:=perm.length_eq;have G:=s4 _ _ (s3 _ _ v);have st:Bk.ez many (·∈Mx.aw many) g:=λo ho=>by
   obtain⟨a1,a2,Z,a4⟩:=S.Y5 o ((mem o).mp ho);exact⟨a1,a2,Z,λx=>(a4 x).trans br.symm⟩
  have ne':g≠[]:=λh=>e (U9.mp (by rw[<-kl,h];rfl));have UG:g.length*many<=24*5:=WN (by lia) m5;refine⟨_,rfl,(many:Int),p,l2,d,Mx.aw many,g,[],[],rfl,s4 _ _ m,OL.new c Xo,G,.nil,(au v y).symm,(au (s3 _ _ v) c).symm,AD many,bc many,st,ne',by lia,by show 0+_<_;lia,λH5 D sb Zr j=>?_⟩;rw[Bk.fY many [] mem] at j ⊢;have s5:ar H H5:=λb u q=>sb b u (au q I) (s4 _ _ (s3 _ _ (Rz _ _ q)));refine⟨_,rfl,_,rfl,_,rfl,by show 3<=Pj;decide,λt l=>?_⟩;have s6:=af l (.tup [V.int (many:Int),V.ref d,V.int (((Bk.lay many os []).1:Nat):Int)]);rw[gU e] at z;exact z t d _ (s5.trans s6) ⟨s5.free l,I,ag,D,s6 _ _ Zr,aJ (λ_ _ z=>z.same s6) j⟩
end Ord
namespace L2
open PySem PySem.Spec PyProof.Rows
noncomputable def Zs (lo:Int)(n:Nat):It:=⟨λi _=>i<n,λi H x H'=>H'=H/\x=.int (lo-i),λi _=>n<=i⟩
theorem AE {K:O6}(it:f')(lo:Int)(n:Nat):Turn P w K tg (Zs lo n) [it] it (λi h=>abU h it (lo+(i:Nat)*(-1)) ((n:Int)-(i:Nat)) (-1)) where
 mem:=by simp
 obj:=λi h st b c=>by
  have e:b=it:=by simpa using c
  subst e;exact⟨_,st,λv z=>by
   have L:Data.fields _=Data.cell v:=z;cases L⟩
 keep:=λi h h' st k=>k it (by simp) _ st
 item:=by
  intro X u p m g i aa s C H E I d st x;subst u p m;obtain⟨j,A,M,l,y,f⟩:=d it (by simp);have W:=Walks.range (prog:=X.prog) (w:=X.w) (I.ok.hd g) it lo (-1) n;refine W.item i s _ _ x st λv h' D J F O=>?_;obtain⟨t,rfl⟩:=J;have G:Inv X aa C H { s with heap:=h',toks:=D }:=I.turned (λb o c e=>O b o (by simpa using c) e) j A l y f;refine⟨_,rfl,nQ (s:={ s with heap:=h',toks:=D }) (n:="range_iterator") F rfl rfl (by decide) ⟨.int (lo-i),H,G,⟨t,?_⟩,⟨rfl,rfl⟩,F,λb c=>(d b c).1⟩⟩;rw[show lo+(i:Int)*(-1)=lo-i by lia]
 done:=by
  intro X u p m g i aa s C H E I d st x;subst u p m;obtain⟨j,A,M,l,y,f⟩:=d it (by simp);exact wpAny_pyNext_range_end (I.ok.hd g) st (by have:n<=i:=x;lia) λh' N=>⟨rfl,I.turned (t':=s.toks) (λb o c e=>N b o c e) j A l y f⟩
 self:=λ_ _ _ _ _ st h=>wpAny_pyIter_rangeiter st h
theorem jy (a b:Int):Wn a b (-1)=(((a-b).toNat:Nat):Int):=by
 unfold Wn;rw[O9 (by decide)]
 split
 .rw[show -(-1:Int)=1 by decide,Int.ediv_one];lia
 .omega
theorem E2 {X:Cx}{tg:Pr}{aa:List (f'×G')}{σ:St}{H:Hp}{s:J'}{R:It->Hp->Prop}{E:D'->J'->Prop}{lo hi:Int}{t u v:Tok}(I:Inv X aa σ H s)(hs:XC lo hi (-1)=true)(q:R (Zs lo (lo-hi).toNat) H):O7 (Pb X.prog X.w) X.A (pyIter (.ref s.heap.objs.size)) (PIE X aa σ tg R) E { s with heap:=s.heap.push { cls:=.type "range",data:=.fields #[.int lo t,.int hi u,.int (-1) v] } }:=by
 refine wpAny_pyIter_range (ζ.new ..) hs ?_;have c:Inv X aa σ H { s with heap:=s.heap.push { cls:=.type "range",data:=.fields #[.int lo t,.int hi u,.int (-1) v] } }:=I.kept (t':=s.toks) λb o e=>Qe _ e;refine⟨(s.heap.push { cls:=.type "range",data:=.fields #[.int lo t,.int hi u,.int (-1) v] }).objs.size,[(s.heap.push { cls:=.type "range",data:=.fields #[.int lo t,.int hi u,.int (-1) v] }).objs.size],_,_,H,rfl,
  c.kept (t':=s.toks) λb o e=>Qe _ e,AE _ lo (lo-hi).toNat,?_,λb f=>?_,q⟩
 .have g:lo+((0:Nat):Int)*(-1)=lo:=by simp
  have d:(((lo-hi).toNat:Nat):Int)-((0:Nat):Int)=Wn lo hi (-1):=by rw[jy];lia
  show abU _ _ (lo+((0:Nat):Int)*(-1)) ((((lo-hi).toNat:Nat):Int)-((0:Nat):Int)) (-1);rw[g,d];exact QX _ rfl
 .have e:b=(s.heap.push { cls:=.type "range",data:=.fields #[.int lo t,.int hi u,.int (-1) v] }).objs.size:=by simpa using f
  subst e;exact c.XX (Po _) (c.Pn.fresh (Po _))
def Kx (ta:TA):TI:=λσ H R=>ta σ H λvs H1=>∃i j:Int,vs=[.int i,.int j,.int (-1)]/\(-64<=i/\i<100/\-64<=j/\j<100)/\R (Zs i (i-j).toNat) H1
theorem yr (h:-64<=a/\a<100/\-64<=b/\b<100):XC a b (-1)=true:=by
 unfold XC;have f:∀x:Int,-200<=x->x<=200->aeS x=true:=λx p q=>by
  unfold aeS;simp;lia
 rw[jy,f a (by lia) (by lia),f b (by lia) (by lia),f (-1) (by lia) (by lia),f _ (by lia) (by lia),O9 (by decide),f _ (by lia) (by lia)];simp
theorem rC (hg:Gl X "range")(hm:X.mg "range"=none)(ha:PA X [a,b,c] ta)(hs:Qz [a,b,c] X.env=[(false,eval a X.env),(false,eval b X.env),(false,eval c X.env)]:=by rfl)(Xg:Qz [b,c] X.env=[(false,eval b X.env),(false,eval c X.env)]:=by rfl):
  PI X tg (.Call (.Name "range" p) [a,b,c] [] pos) (Kx ta):=by
 intro aa s g H R I h;refine Call_ (gX I hg hm boot_range (aac (Pm (ha pos aa s g H _ I h) λus s1 m=>Qb m λvs v f n l=>?_) (by rw[hs,Xg]) (by rw[Xg];rfl)));obtain⟨i,j,e,o,q⟩:=l;subst e;cases n with
 | cons r d=>
  cases d with
  | cons r' d=>
   cases d with
   | cons r'' d=>
    cases d;obtain⟨t,rfl⟩:=r;obtain⟨t',rfl⟩:=r';obtain⟨u,rfl⟩:=r'';refine call_range_3 (by decide) (E2 f (yr o) q) (.inl ?_);unfold Tf.divisionGoesByPylong;rfl
theorem GI:PIp X .Mult (λx y H Q=>∃i j,x=.int i/\y=.int j/\xu i j/\Q (.int (i*j)) H):=by
 intro aa s g H x y v u Q I e d h;obtain⟨i,j,f,b,c,q⟩:=h;subst f;subst b;obtain⟨t,rfl⟩:=e;obtain⟨t',rfl⟩:=d;exact imul_int ⟨.int _,H,I.tok _,⟨_,rfl⟩,q⟩ c.ok
theorem yt:PIp X .BitOr (λx y H Q=>∃i j,x=.int i/\y=.int j/\Q (.int (XF i j)) H):=by
 intro aa s f H x y v u Q I d c h;obtain⟨i,j,e,b,q⟩:=h;subst e;subst b;obtain⟨t,rfl⟩:=d;obtain⟨t',rfl⟩:=c;exact ior_int ⟨.int _,H,I.tok _,⟨_,rfl⟩,q⟩
end L2
namespace Bk
open Mx
noncomputable def Pt:Nat->Nat
 | 0=>1
 | n+1=>(n+1)*Pt n
noncomputable def cD (n:Nat):Nat:=2 ^ Pt n-1
noncomputable def nn (many left gap:Nat):Nat:=
 ((QK (left-1-gap)).foldl (λf rank=>f ||| cD (left-2) <<< (rank*Pt (left-1)+(rank+gap)*Pt (left-2))) 0)*(cD many / cD left)
noncomputable def cF (many left:Nat):List (Nat×Nat):=(QK (left-1)).map λgap=>((gap+1)*Pt (left-1)-gap*Pt (left-2),nn many left gap)
noncomputable def RV (sw:List (Nat×Nat))(m:Nat):Nat:=sw.foldl (λf e=>f ||| ((m &&& e.2) <<< e.1 ||| (m >>> e.1 &&& e.2))) 0
noncomputable def cQ (many place:Nat):Nat->Nat->Nat
 | 0,m=>m
 | k+1,m=>cQ many place k (RV (cF many (many-(place+k))) m)
noncomputable def gr (many:Nat)(o:List Int):Nat:=2 ^ (aK many).idxOf o
noncomputable def aF (many:Nat)(os:ak):Nat:=os.foldr (λo a=>gr many o ||| a) 0
noncomputable def Up (p k:Nat)(o:List Int):List Int:=o.take p++o.getD (p+k) 0::(o.drop p).eraseIdx k
theorem E3 (sw):RV sw 0=0:=by
 unfold RV;have:∀(l:List (Nat×Nat)),l.foldl (λf (e:Nat×Nat)=>f ||| ((0 &&& e.2) <<< e.1 ||| (0 >>> e.1 &&& e.2))) 0=0:=λl=>by
  induction l with
  | nil=>rfl
  | cons e l ih=>rw[Va];simpa using ih
 exact this sw
theorem uV (m:Nat):∀(sw:List (Nat×Nat)) (a:Nat),sw.foldl (λf (e:Nat×Nat)=>f ||| ((m &&& e.2) <<< e.1 ||| (m >>> e.1 &&& e.2))) a=a ||| RV sw m
 | [],a=>by simp[RV]
 | e::sw,a=>by
  unfold RV;rw[Va,Va,uV m sw,uV m sw,Z5,Te]
theorem E4 (a b s r:Nat):((a ||| b) &&& r) <<< s ||| ((a ||| b) >>> s &&& r)=((a &&& r) <<< s ||| (a >>> s &&& r)) ||| ((b &&& r) <<< s ||| (b >>> s &&& r)):=by
 refine ZJ λi=>?_;simp only[YQ,adB,afg,afc];cases decide (i >= s) <;> cases a.testBit (i-s) <;> cases b.testBit (i-s) <;> cases r.testBit (i-s) <;> cases a.testBit (s+i) <;> cases b.testBit (s+i) <;> cases r.testBit i <;> rfl
theorem Dy:∀(sw:List (Nat×Nat)) (a b:Nat),RV sw (a ||| b)=RV sw a ||| RV sw b
 | [],_,_=>by simp[RV]
 | e::sw,a,b=>by
  have h:∀m,RV (e::sw) m=((m &&& e.2) <<< e.1 ||| (m >>> e.1 &&& e.2)) ||| RV sw m:=λm=>by
   show(e::sw).foldl _ 0=_;rw[Va,uV,Z5]
  rw[h,h,h,Dy sw a b,E4];generalize ((a &&& e.2) <<< e.1 ||| (a >>> e.1 &&& e.2))=x;generalize ((b &&& e.2) <<< e.1 ||| (b >>> e.1 &&& e.2))=y;generalize RV sw a=u;generalize RV sw b=v;rw[Te,Te,<-Te y u v,ab1 y u,Te]
theorem nq (many place:Nat):∀k,cQ many place k 0=0
 | 0=>rfl
 | k+1=>by unfold cQ;rw[E3];exact nq many place k
theorem uW (many place:Nat):∀(k a b:Nat),cQ many place k (a ||| b)=cQ many place k a ||| cQ many place k b
 | 0,_,_=>rfl
 | k+1,a,b=>by unfold cQ;rw[Dy];exact uW many place k _ _
theorem E5:∀many∈[1,2,3,4],∀p∈[0,1,2,3],∀k∈[0,1,2,3],p+k<many->∀o∈aK many,cQ many p k (gr many o)=gr many (Up p k o)/\(aK many).contains (Up p k o)=true:=by decide +kernel
theorem iT (m1:1<=many)(m4:many<=4)(h:p+k<many):∀{os:ak},(∀o∈os,o∈aK many)->cQ many p k (aF many os)=aF many (os.map (Up p k))/\∀o∈os.map (Up p k),o∈aK many
 | [],_=>⟨nq _ _ _,λ_ h=>(nomatch h)⟩
 | o::os,d=>by
  obtain⟨j,e⟩:=iT m1 m4 h λc h'=>d c (PU _ h');have b:∀n,n<=3->n∈[0,1,2,3]:=λn l=>by
   have:n=0\/n=1\/n=2\/n=3:=by lia
   rcases this with rfl|rfl|rfl|rfl <;> simp
  obtain⟨f,g⟩:=E5 many (in4 m1 m4) p (b p (by lia)) k (b k (by lia)) h o (d o Px);refine⟨?_,λc h'=>?_⟩
  .show cQ many p k (gr many o ||| aF many os)=gr many (Up p k o) ||| aF many (os.map (Up p k));rw[uW,f,j]
  .rw[Qr] at h';rcases PN.mp h' with rfl|h'
   .simpa using g
   .exact e c h'
theorem nr (wf:WF rs)(mk:SQ rs):∀(n k:Nat),k<=n->1<=k->k<rs.length+2->∀o∈P9 rs k,o.Nodup/\∀x,x∈o↔0<=x/\(QG rs k).testBit x.toNat=true
 | 0,k,h,t,_=>by lia
 | n+1,k,h,t,v=>by
  by_cases c:k=1
  .subst c;intro o b;rw[dC] at b;rw[Qw.mp b,pV];refine⟨YO,λx=>⟨(λh=>nomatch h),λh=>?_⟩⟩;rw[ZT] at h;cases h.2
  .obtain⟨r,e,ok,es⟩:=iq wf (show 2<=k by lia) v;intro o b;rw[es] at b;obtain⟨d,hd,b⟩:=RP.mp b;obtain⟨g,m,rfl⟩:=P6.mp b;have A:=ok.ahead d hd;obtain⟨w,y,p,l⟩:=mk _ _ e d hd;obtain⟨s,j⟩:=nr wf mk n d.2.toNat (by lia) (by lia) (by lia) g m;rw[show k-2+2=k by lia] at l;have u:d.1∉g:=λz=>by
    have:=((j d.1).mp z).2;rw[p] at this;cases this
   refine⟨Td.mpr ⟨u,s⟩,λx=>?_⟩;rw[<-l,PN,j x,YQ,ZK];constructor
   .rintro(rfl|⟨f,xb⟩)
    .exact⟨w,by simp⟩
    .exact⟨f,by rw[xb];simp⟩
   .rintro⟨f,xb⟩;rcases aft.mp xb with xb|xb
    .have:=UL xb;exact .inl (by lia)
    .exact .inr ⟨f,xb⟩
theorem wI (wf:WF rs)(mk:SQ rs)(h1:1<=k)(hk:k<rs.length+2)(hm:QG rs k=2 ^ many-1):∀o∈P9 rs k,o.Perm (aw many):=λo d=>by
 obtain⟨c,e⟩:=nr wf mk k k (Po _) h1 hk o d;refine(aad c (gM _)).mpr λx=>?_;rw[e x,hm,br,acL];constructor
 .rintro⟨a,b⟩;have:=UL b;exact⟨a,by lia⟩
 .rintro⟨a,b⟩;exact⟨a,by simp;lia⟩
theorem gf (rs)(r):rs <+: (keep rs r).2:=let ⟨_,_,_,_,h⟩:=fD rs r;h
theorem wJ {a b:List O5}(h:a <+: b)(hr:r∈a):b.idxOf r=a.idxOf r:=by
 obtain⟨c,rfl⟩:=h;rw[adk,Pf hr]
theorem yu (h:(keep rs r).2 <+: P1):keep P1 r=((keep rs r).1,P1):=by
 unfold keep at h ⊢
 by_cases m:r∈rs
 .rw[Pf m] at h ⊢;have b:r∈P1:=h.subset m;rw[Pf b,wJ h m]
 .rw[O9 m] at h ⊢;have c:r∈rs++[r]:=by simp
  have b:r∈P1:=h.subset c;rw[Pf b,wJ h c,adk,O9 m];simp
theorem nu (hf:∀os rs,rs <+: (f os rs).2):∀ts rs,rs <+: (aO f os ts rs).2
 | [],_=>SE
 | t::ts,rs=>(hf _ rs).trans (nu hf ts _)
theorem wK:∀(n:Nat) (os:ak) (rs:List O5),rs <+: (lay n os rs).2
 | 0,_,_=>SE
 | n+1,os,rs=>(nu (wK n) (heads os) rs).trans (gf _ _)
theorem oW (hp:∀os rs,rs <+: (f os rs).2)(hf:∀os rs P1,(f os rs).2 <+: P1->f os P1=((f os rs).1,P1)):
  ∀ts rs P1,(aO f os ts rs).2 <+: P1->aO f os ts P1=((aO f os ts rs).1,P1)
 | [],_,_,_=>rfl
 | t::ts,rs,P1,h=>by
  have b:(aO f os ts (f (rests t os) rs).2).2 <+: P1:=h;have d:=hf (rests t os) rs P1 ((nu hp ts _).trans b);have c:=oW hp hf ts _ _ b;unfold aO;rw[d];dsimp only;rw[c]
theorem lh:∀(n:Nat) (os:ak) (rs P1:List O5),(lay n os rs).2 <+: P1->lay n os P1=((lay n os rs).1,P1)
 | 0,_,_,_,_=>rfl
 | n+1,os,rs,P1,h=>by
  have b:(keep (aO (lay n) os (heads os) rs).2 (aO (lay n) os (heads os) rs).1).2 <+: P1:=h;have e:=oW (wK n) (lh n) (heads os) rs P1 ((gf _ _).trans b);unfold lay;rw[e];exact yu b
theorem E6:∀(n:Nat) (os:ak) (rs:List O5),1<=(lay n os rs).1
 | 0,_,_=>Po _
 | n+1,os,rs=>by
  obtain⟨i,h,_⟩:=fD (aO (lay n) os (heads os) rs).2 (aO (lay n) os (heads os) rs).1;show 1<=(keep _ _).1;lia
section
variable {S:Type} [DecidableEq S]
noncomputable def cm (kn:List (S×Nat))(s:S):Option Nat:=(kn.find? λe=>decide (e.1=s)).map (·.2)
theorem CK {a b:List (S×Nat)}(h:a <+: b)(e:cm a s=some k):cm b s=some k:=by
 obtain⟨c,rfl⟩:=h;unfold cm at e ⊢;rw[abu];cases q:a.find? λe=>decide (e.1=s) with
 | none=>rw[q] at e;cases e
 | some x=>rw[q] at e;exact e
theorem AF {a:List (S×Nat)}(e:cm (a++[(s,k)]) s'=some k'):cm a s'=some k'\/(cm a s'=none/\s'=s/\k'=k):=by
 unfold cm at e ⊢;rw[abu] at e;cases q:a.find? λe=>decide (e.1=s') with
 | some x=>rw[q] at e;exact .inl e
 | none=>
  rw[q] at e
  by_cases z:s=s'
  .subst z;simp at e;exact .inr ⟨rfl,rfl,e.symm⟩
  .simp[z] at e
theorem nv {a:List (S×Nat)}(h:cm a s=none):cm (a++[(s,k)]) s=some k:=by
 unfold cm at h ⊢;rw[abu];cases q:a.find? λe=>decide (e.1=s) with
 | some x=>rw[q] at h;cases h
 | none=>simp
theorem rD {a b:List (S×Nat)}(h:cm a s=none)(hb:∀e∈b,e.1≠s):cm (a++b) s=none:=by
 unfold cm at h ⊢;rw[abu];cases q:a.find? λe=>decide (e.1=s) with
 | some x=>rw[q] at h;cases h
 | none=>
  have:b.find? (λe=>decide (e.1=s))=none:=aam.mpr λe c=>by simpa using hb e c
  rw[this];rfl
abbrev GP (S:Type):=List O5×List (S×Nat)
noncomputable def aD (g:S->GP S->Nat×GP S):List (Int×S)->GP S->O5×GP S
 | [],p=>([],p)
 | d::ds,p=>(if (g d.2 p).1=0 then (aD g ds (g d.2 p).2).1 else (d.1,((g d.2 p).1:Int))::(aD g ds (g d.2 p).2).1,(aD g ds (g d.2 p).2).2)
noncomputable def aL (Pe:S->List (Int×S)):Nat->S->GP S->Nat×GP S
 | 0,s,p=>((cm p.2 s).getD 0,p)
 | n+1,s,p=>match cm p.2 s with
  | some k=>(k,p)
  | none=>if (aD (aL Pe n) (Pe s) p).1=[] then (0,((aD (aL Pe n) (Pe s) p).2.1,(aD (aL Pe n) (Pe s) p).2.2++[(s,0)]))
   else ((keep (aD (aL Pe n) (Pe s) p).2.1 (aD (aL Pe n) (Pe s) p).1).1,
    ((keep (aD (aL Pe n) (Pe s) p).2.1 (aD (aL Pe n) (Pe s) p).1).2,(aD (aL Pe n) (Pe s) p).2.2++[(s,(keep (aD (aL Pe n) (Pe s) p).2.1 (aD (aL Pe n) (Pe s) p).1).1)]))
structure Way (Pe:S->List (Int×S))(os:S->ak)(QD:S->Nat)(tm good:S->Prop):Prop where
 pos:∀s,good s->¬tm s->1<=QD s
 len:∀s,good s->¬tm s->∀o∈os s,o.length=QD s
 down:∀s,good s->¬tm s->∀d∈Pe s,good d.2/\(tm d.2\/QD d.2+1=QD s)
 rise:∀s,good s->¬tm s->((Pe s).map (·.1)).Pairwise (· < ·)
 UG:∀s,good s->¬tm s->∀d∈Pe s,0<=d.1/\d.1<8
 rest:∀s,good s->¬tm s->∀d∈Pe s,et (rests d.1 (os s)) (os d.2)
 all:∀s,good s->¬tm s->∀t r,t::r∈os s->∃s',(t,s')∈Pe s
structure Uf (os:S->ak)(tm good:S->Prop)(rs)(kn):Prop where
 ends:∀s,good s->tm s->(cm kn s).isSome=true
 so:∀s k,cm kn s=some k->(os s=[]/\k=0)\/(os s≠[]/\∀n,(∀o∈os s,o.length=n)->lay n (os s) rs=(k,rs))
theorem Uf.more {os:S->ak}(M:Uf os tm good rs kn)(h:rs <+: P1):Uf os tm good P1 kn:=
 ⟨M.ends,λs k e=>(M.so s k e).imp id λ⟨c,b⟩=>⟨c,λn d=>by
  have:=b n d;have q:=lh n (os s) rs P1 (by rw[this];exact h);rw[q,this]⟩⟩
structure aaS (os:S->ak)(QD:S->Nat)(tm good:S->Prop)(top:Nat)(p:GP S)(q:GP S):Prop where
 pre:p.1 <+: q.1
 memo:Uf os tm good q.1 q.2
 add:∃more,q.2=p.2++more/\∀e∈more,¬tm e.1/\QD e.1<=top/\good e.1
structure acf (os:S->ak)(s:S)(p:GP S)(r:Nat×GP S):Prop where
 val:cm r.2.2 s=some r.1
 Qt:os s=[]->r.1=0/\r.2.1=p.1
 some:os s≠[]->∀n,(∀o∈os s,o.length=n)->lay n (os s) p.1=(r.1,r.2.1)
theorem uX (h:et a b):a=[]↔b=[]:=by
 constructor
 .intro e;subst e;exact Wj.mpr λo c=>Pp ((h o).mpr c) (by simp)
 .intro e;subst e;exact Wj.mpr λo c=>Pp ((h o).mp c) (by simp)
theorem ny (W:Way Pe os QD tm good)(hs:good s)(ht:¬tm s)(hm:QD s=m+1)(hg:∀d∈Pe s,∀p:GP S,Uf os tm good p.1 p.2->aaS os QD tm good m p (g d.2 p).2/\acf os d.2 p (g d.2 p)):
  ∀(ds:List (Int×S)) (p:GP S),(∀d∈ds,d∈Pe s)->Uf os tm good p.1 p.2->aaS os QD tm good m p (aD g ds p).2/\
   ((aD g ds p).1,(aD g ds p).2.1)=aO (lay m) (os s) ((ds.filter λd=>!(os d.2).isEmpty).map (·.1)) p.1
 | [],p,_,M=>⟨⟨SE,M,[],by simp[aD],λe c=>nomatch c⟩,rfl⟩
 | d::ds,p,hd,M=>by
  obtain⟨b,l⟩:=hg d (hd d Px) p M;obtain⟨h,j⟩:=ny W hs ht hm hg ds (g d.2 p).2 (λd' h'=>hd d' (PU _ h')) b.memo;have n:=W.rest s hs ht d (hd d Px);refine⟨⟨b.pre.trans h.pre,h.memo,?_⟩,?_⟩
  .obtain⟨E,w,A⟩:=b.add;obtain⟨C,v,t⟩:=h.add;refine⟨E++C,?_,λe c=>(QJ.mp c).elim (A e) (t e)⟩;show(aD g ds (g d.2 p).2).2.2=_;rw[v,w,XE]
  .unfold aD
   by_cases z:os d.2=[]
   .obtain⟨k0,u⟩:=l.Qt z;have f:(d::ds).filter (λd=>!(os d.2).isEmpty)=ds.filter λd=>!(os d.2).isEmpty:=by
     rw[abz,O9 (by simp[z])]
    rw[f,Pf k0];dsimp only;rw[j,u]
   .have f:(d::ds).filter (λd=>!(os d.2).isEmpty)=d::ds.filter λd=>!(os d.2).isEmpty:=by
     rw[abz,Pf (by simp[z])]
    have x:∀o∈os d.2,o.length=m:=λo y=>by
     have:=W.len s hs ht _ (bb.mp ((n o).mpr y));rw[hm,Q0] at this;lia
    have L:=l.some z m x;have D:lay m (rests d.1 (os s)) p.1=((g d.2 p).1,(g d.2 p).2.1):=by rw[fY m p.1 n];exact L
    have pos:=E6 m (os d.2) p.1;rw[L] at pos;have pos:1<=(g d.2 p).1:=pos;rw[f,O9 (by lia),Qr];unfold aO;rw[D];dsimp only;rw[<-j]
theorem AG {Pe:S->List (Int×S)}(W:Way Pe os QD tm good)(hs:good s)(ht:¬tm s):heads (os s)=((Pe s).filter λd=>!(os d.2).isEmpty).map (·.1):=by
 have rise:∀{a b:List Int},a.Pairwise (· < ·)->b.Pairwise (· < ·)->(∀x,x∈a↔x∈b)->a=b:=by
  intro a b g c h;have m:∀{l:List Int},l.Pairwise (· < ·)->l.Nodup:=λh=>h.imp λh e=>by lia
  have p:a.Perm b:=(aad (m g) (m c)).mpr h;exact p.eq_of_pairwise (le:=(· < ·)) (λx y _ _ o n=>by lia) g c
 refine rise (cC _) ?_ λt=>?_
 .exact(W.rise s hs ht).sublist (Wv.map _)
 .rw[bE,P6];constructor
  .rintro⟨c,r,j⟩;obtain⟨f,h'⟩:=W.all s hs ht t r j;refine⟨(t,f),So.mpr ⟨h',?_⟩,rfl⟩;have:=(W.rest s hs ht _ h' r).mp (bb.mpr j);cases e:os f with
   | nil=>rw[e] at this;cases this
   | cons a b=>simp[e]
  .rintro⟨d,hd,rfl⟩;obtain⟨hd,ne⟩:=So.mp hd;refine⟨W.UG s hs ht d hd,?_⟩;cases e:os d.2 with
   | nil=>rw[e] at ne;cases ne
   | cons r l=>exact⟨r,bb.mp ((W.rest s hs ht d hd r).mpr (by rw[e];exact Px))⟩
theorem wL (W:Way Pe os QD tm good):∀(n:Nat) (s:S) (p:GP S) (top:Nat),good s->(tm s\/QD s<=n)->(tm s\/QD s<=top)->Uf os tm good p.1 p.2->aaS os QD tm good top p (aL Pe n s p).2/\acf os s p (aL Pe n s p):=by
 have known:∀{s:S}{p:GP S}{k:Nat}{n:Nat},Uf os tm good p.1 p.2->cm p.2 s=some k->aaS os QD tm good n p p/\acf os s p (k,p):=λ{s p k n} M e=>
  ⟨⟨SE,M,[],by simp,λe he=>nomatch he⟩,⟨e,λz=>⟨((M.so s k e).resolve_right λq=>q.1 z).2,rfl⟩,λz n hn=>((M.so s k e).resolve_left λq=>z q.1).2 n hn⟩⟩
 intro n
 induction n with
 | zero=>
  intro s p top c T _ M;have b:tm s:=T.elim id λh=>Wm λb=>by have:=W.pos s c b;lia
  obtain⟨k,e⟩:=Xy.mp (M.ends s c b);have r:=known (n:=top) M e;unfold aL;rw[e];exact r
 | succ n X=>
  intro s p top c T QM M;unfold aL;cases e:cm p.2 s with
  | some k=>exact known M e
  | none=>
   have b:¬tm s:=λb=>by
    have:=M.ends s c b;rw[e] at this;cases this
   have hle:QD s<=n+1:=T.resolve_left b;have Y:QD s<=top:=QM.resolve_left b;have UW:=W.pos s c b;obtain⟨m,hm⟩:∃m,QD s=m+1:=⟨QD s-1,by lia⟩
   obtain⟨G,y⟩:=ny W c b hm (g:=aL Pe n) (λd hd p M=>by
    obtain⟨g',l'⟩:=W.down s c b d hd;exact X d.2 p m g' (l'.imp id λh=>by lia) (l'.imp id λh=>by lia) M) (Pe s) p (λd hd=>hd) M
   rw[<-AG W c b] at y;dsimp only;generalize aD (aL Pe n) (Pe s) p=q at G y ⊢;obtain⟨ds,v,j⟩:=q;dsimp only at G y ⊢;have E:ds=(aO (lay m) (os s) (heads (os s)) p.1).1:=congrArg (·.1) y;have N:v=(aO (lay m) (os s) (heads (os s)) p.1).2:=congrArg (·.2) y;obtain⟨more,U,R⟩:=G.add;dsimp only at U;have kn:cm j s=none:=by
    rw[U];exact rD e λx F z=>by
     have:=(R x F).2.1;rw[z] at this;lia
   have O:∀k,∃Z,j++[(s,k)]=p.2++Z/\∀x∈Z,¬tm x.1/\QD x.1<=top/\good x.1:=λk=>
    ⟨more++[(s,k)],by rw[U,XE],λx F=>(QJ.mp F).elim (λh=>⟨(R x h).1,by have:=(R x h).2.1;lia,(R x h).2.2⟩) λh=>by
     obtain rfl:x=(s,k):=by simpa using h
     exact⟨b,Y,c⟩⟩
   have J:∀(k:Nat) (A:List O5),v <+: A->((os s=[]/\k=0)\/(os s≠[]/\∀n,(∀o∈os s,o.length=n)->lay n (os s) A=(k,A)))->Uf os tm good A (j++[(s,k)]):=λk A hp so=>by
    have M2:=G.memo.more hp;refine⟨λx F tx=>?_,λx kx ex=>?_⟩
    .obtain⟨k',e'⟩:=Xy.mp (M2.ends x F tx);rw[CK (ZO _ _) e'];rfl
    .rcases AF ex with h|⟨_,rfl,rfl⟩
     .exact M2.so x kx h
     .exact so
   have D:ds=[]↔os s=[]:=by
    have P:ds.length=(heads (os s)).length:=by
     rw[E];generalize heads (os s)=ts;generalize p.1=rs
     induction ts generalizing rs with
     | nil=>rfl
     | cons t ts X=>unfold aO;simp[X]
    constructor
    .intro z;rw[z] at P;have I:heads (os s)=[]:=U9.mp P.symm;refine Wj.mpr λo C=>?_;have f:=W.len s c b o C
     match o,C,f with
     | [],_,f=>rw[hm] at f;simp at f
     | t::r,C,_=>
      obtain⟨s',h'⟩:=W.all s c b t r C;have:t∈heads (os s):=bE.mpr ⟨W.UG s c b _ h',r,C⟩;rw[I] at this;cases this
    .intro z;have I:heads (os s)=[]:=Wj.mpr λt Sz=>by
      obtain⟨_,r,Q⟩:=bE.mp Sz;rw[z] at Q;cases Q
     rw[I] at P;exact U9.mp P
   by_cases z:ds=[]
   .have u:=D.mp z;have Q:v=p.1:=by
     have I:heads (os s)=[]:=by rw[u];decide
     rw[N,I];rfl
    rw[Pf z];exact⟨⟨G.pre,J 0 v SE (.inl ⟨u,rfl⟩),O 0⟩,⟨nv kn,λ_=>⟨rfl,Q⟩,λh=>Pp u h⟩⟩
   .have u:os s≠[]:=λh=>z (D.mpr h);rw[O9 z];have L:∀k,(∀o∈os s,o.length=k)->lay k (os s) p.1=keep v ds:=λk w=>by
     obtain⟨o,l,eo⟩:=List.exists_cons_of_ne_nil u;have h1:=w o (by rw[eo];exact Px);have h2:=W.len s c b o (by rw[eo];exact Px);obtain rfl:k=m+1:=by lia
     unfold lay;rw[<-E,<-N]
    refine⟨⟨G.pre.trans (gf _ _),J _ _ (gf _ _) (.inr ⟨u,λk w=>?_⟩),O _⟩,⟨nv kn,λh=>Pp h u,λ_ k w=>L k w⟩⟩;have q:=lh k (os s) p.1 (keep v ds).2 (by rw[L k w];exact SE);rw[q,L k w]
end
abbrev Sk:=Sum Int (List Int)
noncomputable def eY (rs:List O5)(k:Int):ak:=P9 rs k.toNat
def SB:Sk->Prop
 | .inl _=>True
 | _=>False
def Rn (rs:List O5)(k:Int):Prop:=k=0\/(1<=k/\k<(rs.length:Int)+2)
theorem uY (rs):eY rs 1=[[]]:=dC rs
theorem E7 (wf:WF rs)(h:1<=k)(hk:k<(rs.length:Int)+2):eY rs k≠[]:=oJ wf k.toNat k.toNat (Po _) (by lia) (by lia)
theorem Ky (t:Int):dL [] t=0:=rfl
theorem wM (wf:WF rs)(h:2<=k)(hk:k<(rs.length:Int)+2):O5.Ok (k.toNat-2) (aU rs k)/\eY rs k=(aU rs k).flatMap λd=>(eY rs d.2).map (d.1::·):=by
 obtain⟨r,e,ok,es⟩:=iq wf (k:=k.toNat) (by lia) (by lia);have b:aU rs k=r:=by
  have:=kO e (by lia);rwa[show((k.toNat:Nat):Int)=k by lia] at this
 rw[b];exact⟨ok,es⟩
theorem CL (w:WF P1)(hb:Rn P1 b)(h:∀o∈eY P1 b,o.length=0):b=0\/b=1:=by
 rcases hb with h0|⟨j,f⟩
 .exact .inl h0
 .by_cases hb:b=1
  .exact .inr hb
  .exfalso;obtain⟨ok,es⟩:=wM w (k:=b) (by lia) f;obtain⟨o,c⟩:=T3 _ (E7 w j f);have:=h o c;rw[es] at c;obtain⟨d,_,g⟩:=RP.mp c;obtain⟨r,_,e⟩:=P6.mp g;rw[<-e] at this;simp at this
noncomputable def QO (l:List Nat):Nat:=l.foldr (· ||| ·) 0
theorem qk:∀(a b:List Nat),QO (a++b)=QO a ||| QO b
 | [],b=>by simp[QO]
 | x::a,b=>by
  show x ||| QO (a++b)=(x ||| QO a) ||| QO b;rw[qk a b,Te]
theorem li:∀(a b:ak),aF many (a++b)=aF many a ||| aF many b
 | [],b=>by simp[aF]
 | x::a,b=>by
  show gr many x ||| aF many (a++b)=(gr many x ||| aF many a) ||| aF many b;rw[li a b,Te]
theorem oX {α:Type}{f:α->ak}:∀(l:List α),aF many (l.flatMap f)=QO (l.map λx=>aF many (f x))
 | []=>rfl
 | x::l=>by
  rw[aar,li,oX l];rfl
theorem GJ (a b c d:Nat):(a ||| b) ||| (c ||| d)=(a ||| c) ||| (b ||| d):=by
 rw[Te,Te,<-Te b c d,ab1 b c,Te]
theorem AH {α:Type}{f g:α->Nat}:∀(l:List α),QO (l.map λx=>f x ||| g x)=QO (l.map f) ||| QO (l.map g)
 | []=>by simp[QO]
 | x::l=>by
  show(f x ||| g x) ||| QO (l.map λx=>f x ||| g x)=(f x ||| QO (l.map f)) ||| (g x ||| QO (l.map g))
  rw[AH l,GJ]
noncomputable def aQ (rs:List O5)(k:Int):List Int:=(aw 8).filter λt=>(QG rs k.toNat).testBit t.toNat
noncomputable def gh (rs:List O5)(many:Nat):Nat->Int->Nat->Nat
 | 0,_,m=>m
 | n+1,k,m=>QO ((aU rs k).map λd=>gh rs many n d.2 (cQ many (many-(n+1)) ((aQ rs k).idxOf d.1) m))
theorem AI:∀(n:Nat) (k:Int) (a b:Nat),gh rs many n k (a ||| b)=gh rs many n k a ||| gh rs many n k b
 | 0,_,_,_=>rfl
 | n+1,k,a,b=>by
  unfold gh;rw[<-AH]
  congr 1
  refine Tb λd _=>?_;rw[uW,AI n]
theorem uZ:∀(n:Nat) (k:Int),gh rs many n k 0=0
 | 0,_=>rfl
 | n+1,k=>by
  unfold gh;have:∀l:O5,QO (l.map λd=>gh rs many n d.2 (cQ many (many-(n+1)) ((aQ rs k).idxOf d.1) 0))=0:=λl=>by
   induction l with
   | nil=>rfl
   | cons d l ih=>
    show _ ||| QO (l.map _)=0;rw[ih];dsimp only;rw[nq,uZ n];rfl
  exact this _
noncomputable def run:Nat->List Int->List Int->List Int->List Int
 | _,_,[],c=>c
 | p,l,t::r,c=>run (p+1) (l.erase t) r (Up p (l.idxOf t) c)
theorem E8:∀many∈[1,2,3,4],∀a∈aK many,∀b∈aK many,run 0 (aw many) a b=a.map λt=>b.getD t.toNat 0:=by decide +kernel
theorem rE {many:Nat}(wf:WF rs)(mk:SQ rs)(m1:1<=many)(m4:many<=4)(less:∀r∈rs,∀d∈r,d.1<(many:Int)):∀(n:Nat) (k:Int) (S:ak),1<=k->k<(rs.length:Int)+2->n<=many->(aQ rs k).length=n->(∀o∈eY rs k,o.length=n)->(∀o∈S,o∈aK many)->
  gh rs many n k (aF many S)=aF many ((eY rs k).flatMap λr=>S.map (run (many-n) (aQ rs k) r))/\∀o∈(eY rs k).flatMap λr=>S.map (run (many-n) (aQ rs k) r),o∈aK many
 | 0,k,S,w,l,G,m,len,j=>by
  have k1:k=1:=by
   rcases CL wf (.inr ⟨w,l⟩) len with h|h <;> lia
  subst k1;rw[uY];have e:([[]]:ak).flatMap (λr=>S.map (run (many-0) (aQ rs 1) r))=S:=by
   show S.map (λc=>c)++[]=S;simp
  rw[e];exact⟨rfl,j⟩
 | n+1,k,S,w,l,G,m,len,j=>by
  have k2:2<=k:=by
   by_cases h:k=1
   .subst h;have:=len [] (by rw[uY];exact Qw.mpr rfl);simp at this
   .omega
  obtain⟨ok,es⟩:=wM wf (k:=k) k2 l;have u:rs[k.toNat-2]?=some (aU rs k):=by
   have:=fF (rs:=rs) (k:=k) (by lia);rwa[show(k-2).toNat=k.toNat-2 by lia] at this
  have mem:aU rs k∈rs:=QF u;have fact:∀d∈aU rs k,0<=d.1/\aQ rs d.2=(aQ rs k).erase d.1/\d.1∈aQ rs k:=λd hd=>by
   obtain⟨g,N,F,x⟩:=mk _ _ u d hd;rw[show k.toNat-2+2=k.toNat by lia] at x;have bit:∀i:Nat,(QG rs k.toNat).testBit i=(decide (d.1.toNat=i)||(QG rs d.2.toNat).testBit i):=λi=>by
    rw[<-x,YQ,ZK]
   have f:d.1∈aQ rs k:=So.mpr ⟨br.mpr ⟨g,by lia⟩,by rw[bit];simp⟩;refine⟨g,?_,f⟩;have J:(aQ rs k).Nodup:=(gM 8).sublist Wv;rw[J.erase_eq_filter];unfold aQ;rw[afB];refine List.filter_congr λt E=>?_;have P:=(br.mp E).1;rw[bit]
   by_cases e:t=d.1
   .subst e;simp[F]
   .have C:d.1.toNat≠t.toNat:=λh=>e (by lia);simp[e,C]
  have step:∀d∈aU rs k,gh rs many n d.2 (cQ many (many-(n+1)) ((aQ rs k).idxOf d.1) (aF many S))=aF many ((eY rs d.2).flatMap λr=>S.map (run (many-(n+1)) (aQ rs k) (d.1::r)))/\∀o∈(eY rs d.2).flatMap λr=>S.map (run (many-(n+1)) (aQ rs k) (d.1::r)),o∈aK many:=λd hd=>by
   obtain⟨g,s,f⟩:=fact d hd;have I:=ok.ahead d hd;have O:=Yy f;obtain⟨L,A⟩:=iT (p:=many-(n+1)) (k:=(aQ rs k).idxOf d.1) m1 m4 (by lia) j;have M:(aQ rs d.2).length=n:=by
    rw[s,U8 f,m];rfl
   have D:∀o∈eY rs d.2,o.length=n:=λo b=>by
    have:=len (d.1::o) (by rw[es];exact RP.mpr ⟨d,hd,P6.mpr ⟨o,b,rfl⟩⟩);simpa using this
   obtain⟨y,v⟩:=rE wf mk m1 m4 less n d.2 (S.map (Up (many-(n+1)) ((aQ rs k).idxOf d.1))) I.1 (by lia) (by lia) M D A;have same:((eY rs d.2).flatMap λr=>(S.map (Up (many-(n+1)) ((aQ rs k).idxOf d.1))).map (run (many-n) (aQ rs d.2) r))=(eY rs d.2).flatMap λr=>S.map (run (many-(n+1)) (aQ rs k) (d.1::r)):=by
    congr 1
    funext r
    rw[TC];refine Tb λc _=>?_;show run (many-n) (aQ rs d.2) r (Up _ _ c)=run (many-(n+1)+1) ((aQ rs k).erase d.1) r (Up _ _ c);rw[s,show many-(n+1)+1=many-n by lia]
   rw[same] at y v;exact⟨by rw[L,y],v⟩
  have flat:((eY rs k).flatMap λr=>S.map (run (many-(n+1)) (aQ rs k) r))=(aU rs k).flatMap λd=>(eY rs d.2).flatMap λr=>S.map (run (many-(n+1)) (aQ rs k) (d.1::r)):=by
   rw[es,List.flatMap_assoc]
   congr 1
   funext d
   rw[List.flatMap_map]
  rw[flat];refine⟨?_,λo b=>?_⟩
  .rw[oX];unfold gh
   congr 1
   exact Tb λd hd=>(step d hd).1
  .obtain⟨d,hd,b⟩:=RP.mp b;exact(step d hd).2 o b
noncomputable def Uq:List Int->List Int->Nat
 | _,[]=>0
 | ts,t::r=>ts.idxOf t*Pt r.length+Uq (ts.erase t) r
noncomputable def UH (ts:List Int)(os:ak):Nat:=QO (os.map λr=>2 ^ Uq ts r)
theorem u3:∀many∈[1,2,3,4],∀o∈aK many,Uq (aw many) o=(aK many).idxOf o:=by decide +kernel
theorem nz (m1:1<=many)(m4:many<=4):∀{os:ak},(∀o∈os,o∈aK many)->aF many os=UH (aw many) os
 | [],_=>rfl
 | o::os,h=>by
  show gr many o ||| aF many os=2 ^ Uq (aw many) o ||| UH (aw many) os;rw[nz m1 m4 λb h'=>h b (PU _ h'),u3 many (in4 m1 m4) o (h o Px)];rfl
def fO (ts r:List Int):Prop:=r.Perm ts
theorem yw:∀(r ts:List Int),fO ts r->Uq ts r<Pt r.length
 | [],_,_=>by simp[Uq,Pt]
 | t::r,ts,h=>by
  have mem:t∈ts:=h.subset Px;have e:=Yy mem;have b:=h.length_eq;have c:fO (ts.erase t) r:=by
   have:=h.erase t;rwa[ac7] at this
  have d:=yw r _ c;rw[Q0] at b;have:ts.idxOf t*Pt r.length<=r.length*Pt r.length:=U' _ (by lia);show ts.idxOf t*Pt r.length+Uq (ts.erase t) r<(r.length+1)*Pt r.length;rw[ab0];lia
theorem AJ:∀{l:List Nat},(∀x∈l,x<2 ^ b)->QO l<2 ^ b
 | [],_=>aaw _
 | x::l,h=>Nat.or_lt_two_pow (h x Px) (AJ λy c=>h y (PU _ c))
theorem yz (hn:ts.length=n)(h:∀r∈os,fO ts r):UH ts os<2 ^ Pt n:=by
 refine AJ λx c=>?_;obtain⟨r,b,rfl⟩:=P6.mp c;have:=yw r ts (h r b);rw[(h r b).length_eq,hn] at this;exact Nat.pow_lt_pow_right (by decide) this
theorem rF (s:Nat):∀l:List Nat,QO l <<< s=QO (l.map (· <<< s))
 | []=>by simp[QO]
 | x::l=>by
  show(x ||| QO l) <<< s=x <<< s ||| QO (l.map (· <<< s));rw[<-rF s l];refine ZJ λi=>?_;simp only[YQ,afg];cases decide (i >= s) <;> simp
theorem E9 (hn:ts.length=n+1)(mem:t∈ts)(h:∀r∈os,fO (ts.erase t) r):UH (ts.erase t) os <<< (ts.idxOf t*Pt n)=UH ts (os.map (t::·)):=by
 unfold UH;rw[rF,TC,TC]
 congr 1
 refine Tb λr c=>?_;have b:r.length=n:=by rw[(h r c).length_eq,U8 mem,hn];rfl
 show 2 ^ Uq (ts.erase t) r <<< (ts.idxOf t*Pt n)=2 ^ (ts.idxOf t*Pt r.length+Uq (ts.erase t) r);rw[aat,<-Nat.pow_add,b,adT]
theorem AK (R:Nat):∀(l:List (Nat×Nat)) (a lo:Nat),(∀e∈l,e.2<2 ^ R)->(l.map (·.1)).Pairwise (· < ·)->(∀e∈l,lo<=e.1)->a<2 ^ (lo*R)->a+(l.map λe=>e.2 <<< (e.1*R)).sum=a ||| QO (l.map λe=>e.2 <<< (e.1*R))
 | [],a,_,_,_,_,_=>by simp[QO]
 | e::l,a,lo,c,n,g,f=>by
  have le:=g e Px;have d:a<2 ^ (e.1*R):=QP f (ZI (by decide) (U' _ le));have o:a+e.2 <<< (e.1*R)=a ||| e.2 <<< (e.1*R):=by
   rw[aat,abQ,adT,Nat.two_pow_add_eq_or_of_lt d,ab1]
  have p:a ||| e.2 <<< (e.1*R)<2 ^ ((e.1+1)*R):=by
   refine Nat.or_lt_two_pow (QP d (ZI (by decide) (U' _ (by lia)))) ?_;rw[aat,ab0,Nat.one_mul,Nat.pow_add,abQ];exact(Nat.mul_lt_mul_left (aaw _)).mpr (c e Px)
  obtain⟨h,m⟩:=Ww.mp n;have j:=AK R l (a ||| e.2 <<< (e.1*R)) (e.1+1) (λx b=>c x (PU _ b)) m (λx b=>h _ (P6.mpr ⟨x,b,rfl⟩)) p;show a+(e.2 <<< (e.1*R)+(l.map _).sum)=a ||| (e.2 <<< (e.1*R) ||| QO (l.map _))
  rw[<-aaB,o,j,Te]
section
variable {S:Type} [DecidableEq S] {Pe:S->List (Int×S)}
theorem iU {g:S->GP S->Nat×GP S}(hg:∀s p,p.1 <+: (g s p).2.1/\p.2 <+: (g s p).2.2):∀ds p,p.1 <+: (aD g ds p).2.1/\p.2 <+: (aD g ds p).2.2
 | [],_=>⟨SE,SE⟩
 | d::ds,p=>⟨(hg d.2 p).1.trans (iU hg ds _).1,(hg d.2 p).2.trans (iU hg ds _).2⟩
theorem u4:∀(n:Nat) (s:S) (p:GP S),p.1 <+: (aL Pe n s p).2.1/\p.2 <+: (aL Pe n s p).2.2
 | 0,_,_=>⟨SE,SE⟩
 | n+1,s,p=>by
  have h:=iU (u4 n) (Pe s) p;unfold aL
  split
  .exact⟨SE,SE⟩
  .split
   .exact⟨h.1,h.2.trans (ZO _ _)⟩
   .exact⟨h.1.trans (gf _ _),h.2.trans (ZO _ _)⟩
theorem CM (rs)(r):(keep rs r).2.length<=rs.length+1:=by
 rcases dh rs r with e|⟨_,e,_⟩
 .rw[e];lia
 .rw[e];simp
theorem rG {g:S->GP S->Nat×GP S}(hg:∀s p,(g s p).2.1.length<=p.1.length+b/\(g s p).2.2.length<=p.2.length+b):∀ds p,(aD g ds p).2.1.length<=p.1.length+ds.length*b/\(aD g ds p).2.2.length<=p.2.length+ds.length*b
 | [],p=>⟨by show p.1.length<=_;lia,by show p.2.length<=_;lia⟩
 | d::ds,p=>by
  have f:=hg d.2 p;have c:=rG hg ds (g d.2 p).2;have e:(d::ds).length*b=ds.length*b+b:=by rw[Q0,ab0];lia
  rw[e];exact⟨by show(aD g ds (g d.2 p).2).2.1.length<=_;lia,by show(aD g ds (g d.2 p).2).2.2.length<=_;lia⟩
theorem u6 (hd:∀s,(Pe s).length<=8):∀(n:Nat) (s:S) (p:GP S),(aL Pe n s p).2.1.length<=p.1.length+9 ^ n/\(aL Pe n s p).2.2.length<=p.2.length+9 ^ n
 | 0,_,p=>⟨by show p.1.length<=_;lia,by show p.2.length<=_;lia⟩
 | n+1,s,p=>by
  have h:=rG (u6 hd n) (Pe s) p;have b:=hd s;have c:(Pe s).length*9 ^ n<=8*9 ^ n:=U' _ b;have d:9 ^ (n+1)=9*9 ^ n:=by rw[Nat.pow_succ,abQ]
  have e:1<=9 ^ n:=Nat.one_le_pow _ _ (by lia);unfold aL
  split
  .exact⟨by show p.1.length<=_;lia,by show p.2.length<=_;lia⟩
  .split
   .refine⟨by dsimp only;lia,?_⟩;dsimp only;rw[QI];simp only[Q0,WE];lia
   .have k:=CM (aD (aL Pe n) (Pe s) p).2.1 (aD (aL Pe n) (Pe s) p).1;refine⟨by dsimp only;lia,?_⟩;dsimp only;rw[QI];simp only[Q0,WE];lia
end
noncomputable def Vv:List (Sk×Nat):=[(.inl 0,0),(.inl 1,1)]
theorem Dz (h0:os (.inl 0)=[])(h1:os (.inl 1)=[[]])(hg:∀k,good (.inl k)->k=0\/k=1):Uf os SB good [] Vv where
 ends:=λs b g=>by
  match s,b,g with
  | .inl k,b,_=>
   rcases hg k b with rfl|rfl <;> rfl
 so:=λs k e=>by
  unfold cm Vv at e
  by_cases d:s=.inl 0
  .subst d;simp at e;exact .inl ⟨h0,e.symm⟩
  .by_cases c:s=.inl 1
   .subst c;simp at e;subst e;rw[h1];refine .inr ⟨by simp,λn l=>?_⟩;have:n=0:=(l [] (by simp)).symm;subst this;rfl
   .have f:decide ((Ru 0:Sk)=s)=false:=P8 λh=>d h.symm;have j:decide ((Ru 1:Sk)=s)=false:=P8 λh=>c h.symm;rw[YC (by simp[f]),YC (by simp[j])] at e;cases e
noncomputable def jW (Pe:Sk->List (Int×Sk))(n:Nat)(s:Sk):List O5×Nat:=((aL Pe n s ([],Vv)).2.1,(aL Pe n s ([],Vv)).1)
theorem AL (W:Way Pe os QD SB good)(h0:os (.inl 0)=[])(h1:os (.inl 1)=[[]])(hg:∀k,good (.inl k)->k=0\/k=1)(hs:good s)(hl:SB s\/QD s<=n)(TL:et (os s) os')(len:∀o∈os',o.length=many):jW Pe n s=if os'=[] then ([],0) else ((lay many os' []).2,(lay many os' []).1):=by
 obtain⟨_,A⟩:=wL W n s ([],Vv) n hs hl hl (Dz h0 h1 hg);unfold jW
 by_cases z:os'=[]
 .obtain⟨d,b⟩:=A.Qt ((uX TL).mpr z);rw[Pf z,d,b]
 .have e:=A.some (λq=>z ((uX TL).mp q)) many λo c=>len o ((TL o).mp c);have e:lay many (os s) []=_:=e;rw[O9 z,<-fY many [] TL,e]
noncomputable def sJ:Nat->List Int->ak
 | 0,_=>[[]]
 | n+1,ts=>ts.flatMap λt=>(sJ n (ts.erase t)).map (t::·)
theorem lj:∀(n:Nat) (ts:List Int),ts.length=n->∀r,r∈sJ n ts↔fO ts r
 | 0,ts,h,r=>by
  obtain rfl:=U9.mp h;show r∈[[]]↔r.Perm [];rw[Qw,List.perm_nil]
 | n+1,ts,h,r=>by
  unfold sJ;rw[RP];constructor
  .rintro⟨t,b,d⟩;obtain⟨c,e,rfl⟩:=P6.mp d;have p:=(lj n _ (by rw[U8 b,h];rfl) c).mp e;exact(p.cons t).trans (afm b).symm
  .intro p;cases r with
   | nil=>have:=p.length_eq;rw[h] at this;simp at this
   | cons t c=>
    have b:t∈ts:=p.subset Px;have q:=p.erase t;rw[ac7] at q;exact⟨t,b,P6.mpr ⟨c,(lj n _ (by rw[U8 b,h];rfl) c).mpr q,rfl⟩⟩
noncomputable def Xq (ts:List Int)(m:Nat):ak:=(sJ ts.length ts).filter λr=>m.testBit (Uq ts r)
theorem gj:r∈Xq ts m↔fO ts r/\m.testBit (Uq ts r)=true:=by
 unfold Xq;rw[So,lj _ _ rfl]
noncomputable def U3 (ts:List Int)(m:Nat):Sk:=if m=0 then .inl 0 else if ts=[] then .inl 1 else .inr ((m:Int)::ts)
noncomputable def jX (ts:List Int)(m:Nat)(t:Int):Nat:=m >>> (ts.idxOf t*Pt (ts.length-1)) &&& (2 ^ Pt (ts.length-1)-1)
noncomputable def iw:Sk->List (Int×Sk)
 | .inr (m::ts)=>ts.map λt=>(t,U3 (ts.erase t) (jX ts m.toNat t))
 | _=>[]
noncomputable def osK:Sk->ak
 | .inl k=>if k=1 then [[]] else []
 | .inr (m::ts)=>Xq ts m.toNat
 | _=>[]
noncomputable def yA:Sk->Nat
 | .inr (_::ts)=>ts.length
 | _=>0
structure XW (ts:List Int)(m:Nat):Prop where
 Rs:ts.Pairwise (· < ·)
 UG:∀t∈ts,0<=t/\t<8
 lt:m<2 ^ Pt ts.length
def gN:Sk->Prop
 | .inl k=>k=0\/k=1
 | .inr s=>∃(m:Nat) (ts:List Int),s=(m:Int)::ts/\ts≠[]/\XW ts m
theorem Fa (hi:i<Pt (ts.length-1)):(jX ts m t).testBit i=m.testBit (ts.idxOf t*Pt (ts.length-1)+i):=by
 unfold jX;rw[adB,afc,acL,P7 hi,Bool.and_true]
theorem oY (g:XW ts m):gN (U3 ts m)/\et (Xq ts m) (osK (U3 ts m))/\(SB (U3 ts m)\/yA (U3 ts m)=ts.length):=by
 unfold U3
 by_cases h0:m=0
 .subst h0;rw[Pf rfl];refine⟨.inl rfl,λr=>?_,.inl trivial⟩;rw[gj];show _↔r∈[];simp
 rw[O9 h0]
 by_cases b:ts=[]
 .subst b;rw[Pf rfl];have c:m=1:=by have:m<2 ^ 1:=g.lt;lia
  subst c;refine⟨.inr rfl,λr=>?_,.inl trivial⟩;rw[gj];show _↔r∈[[]];rw[Qw];constructor
  .rintro⟨p,_⟩;exact List.perm_nil.mp p
  .rintro rfl;exact⟨aaA _,by decide⟩
 rw[O9 b];refine⟨⟨m,ts,rfl,b,g⟩,λr=>?_,.inr rfl⟩;show r∈Xq ts m↔r∈Xq ts ((m:Int)).toNat;rw[Rb]
theorem u7 (g:XW ts m)(ht:t∈ts):XW (ts.erase t) (jX ts m t) where
 Rs:=g.Rs.sublist List.erase_sublist
 UG:=λx b=>g.UG x (List.mem_of_mem_erase b)
 lt:=by
  rw[U8 ht];unfold jX;exact XD Nat.and_le_right (by have:=aaw (Pt (ts.length-1));lia)
theorem CP:∀s,gN s->(iw s).length<=8
 | .inl _,_=>by simp[iw]
 | .inr _,⟨m,ts,rfl,_,g⟩=>by
  show(ts.map _).length<=8;rw[PP];have:=kT (r:=ts.map λt=>(t,(0:Int))) (by rw[TC,show((λx:Int×Int=>x.1)∘λt:Int=>(t,(0:Int)))=id from rfl,ad2];exact g.Rs) (λd hd=>by
   obtain⟨t,b,rfl⟩:=P6.mp hd;exact g.UG t b)
  rwa[PP] at this
theorem eC:Way iw osK yA SB gN:=by
 have cases:∀s,gN s->¬SB s->∃(m:Nat) (ts:List Int),s=.inr ((m:Int)::ts)/\ts≠[]/\XW ts m:=by
  intro s f b
  match s,f,b with
  | .inl k,_,b=>exact Pp trivial b
  | .inr _,⟨m,ts,rfl,h⟩,_=>exact⟨m,ts,rfl,h⟩
 have pos:∀{ts:List Int},ts≠[]->1<=ts.length:=λh=>Wu.mpr h;refine⟨λs f b=>?_,λs f b o v=>?_,λs f b d hd=>?_,λs f b=>?_,λs f b d hd=>?_,λs f b d hd=>?_,λs f b t r w=>?_⟩
 .obtain⟨m,ts,rfl,ne,g⟩:=cases s f b;exact pos ne
 .obtain⟨m,ts,rfl,ne,g⟩:=cases s f b;exact(gj.mp v).1.length_eq
 .obtain⟨m,ts,rfl,ne,g⟩:=cases s f b;obtain⟨t,j,rfl⟩:=P6.mp hd;rw[Rb];obtain⟨a,_,c⟩:=oY (u7 g j);refine⟨a,c.imp id λe=>?_⟩;have:=pos ne;show _+1=ts.length;rw[e,U8 j];lia
 .obtain⟨m,ts,rfl,ne,g⟩:=cases s f b;show((ts.map _).map _).Pairwise _;rw[TC];exact(ad2 ts).symm▸g.Rs
 .obtain⟨m,ts,rfl,ne,g⟩:=cases s f b;obtain⟨t,j,rfl⟩:=P6.mp hd;exact g.UG t j
 .obtain⟨m,ts,rfl,ne,g⟩:=cases s f b;obtain⟨t,j,rfl⟩:=P6.mp hd;obtain⟨_,n,_⟩:=oY (u7 g j);intro r;rw[Rb];dsimp only;rw[<-n r,bb];show t::r∈Xq ts ((m:Int)).toNat↔_;rw[Rb,gj,gj];have u:fO ts (t::r)↔fO (ts.erase t) r:=by
   constructor
   .intro p;have q:=p.erase t;rwa[ac7] at q
   .intro p;exact(p.cons t).trans (afm j).symm
  rw[u];refine and_congr_right λp=>?_;have l:r.length=ts.length-1:=by rw[p.length_eq,U8 j]
  have lt:=yw r _ p;rw[l] at lt;rw[Fa lt];show m.testBit (ts.idxOf t*Pt r.length+Uq (ts.erase t) r)=true↔_;rw[l]
 .obtain⟨m,ts,rfl,ne,g⟩:=cases s f b;have mem:t∈ts:=(gj.mp w).1.subset Px;exact⟨_,P6.mpr ⟨t,mem,rfl⟩⟩
end Bk
namespace Ord
open PySem L2 Mx
noncomputable abbrev yB:Pc:=top 37
noncomputable abbrev yC:Pc:=top 38
theorem wN:∀n,1<=Bk.Pt n
 | 0=>Po 1
 | n+1=>by unfold Bk.Pt;exact Nat.mul_pos (adV n) (wN n)
theorem fI:∀n,n<=8->Bk.Pt n<=40320:=by decide
def jz:Sp:=λvs H Q _=>∃n:Nat,vs=[.int n]/\n<=8/\Q (.int (Bk.Pt n:Nat)) H
theorem oZ:Qc ["many","found","count"] ["many"] (ap yB):={}
theorem Fb (F:PR K "ways" "ways" yB f fd)(T:Qj K mg CO):Py P w K mg base Ph 1 f fd ["many"] jz:=by
 refine F.ok oZ (λvs H Q E h=>?_) (λg A outer s H vs Q E j h=>?_)
 .obtain⟨n,rfl,_⟩:=h;rfl
 obtain⟨n,rfl,m,q⟩:=h;refine⟨_,ae (ay (i:=1) oZ.nd rfl (PB rfl) ao)
  (ae (bL RB rfl (zb rfl T.t.range (ac ao (ac (av bT (pv 0) ao) ad))) (bw (i:=2) oZ.nd rfl (PB rfl))
   (ai (sW (i:=1) oZ.nd rfl (PB rfl) (pv 2) GI)))
  (ai (aH (pv 1)))),?_⟩
 refine⟨_,rfl,_,_,rfl,rfl,2,(n:Int)+1,rfl,⟨by lia,by lia,by lia,by lia⟩,iH (lo:=2) (n:=((n:Int)+1-2).toNat) (λk b d=>∃c,b=[some (.int (n:Int)),some (.int (Bk.Pt (k+1):Nat)),c]/\d=H) ⟨none,rfl,rfl⟩ ?_ ?_⟩
 .rintro k b d l ⟨c,rfl,rfl⟩;refine⟨_,rfl,_,rfl,_,_,rfl,rfl,?_,some (.int (2+(k:Int))),?_,rfl⟩
  .exact .inr (by lia)
  .show [some (V.int (n:Int)),some (V.int ((Bk.Pt (k+1):Nat)*(2+(k:Int)))),_]=[some (V.int (n:Int)),some (V.int ((Bk.Pt (k+1+1):Nat):Int)),_];rw[show((Bk.Pt (k+1+1):Nat):Int)=(Bk.Pt (k+1):Nat)*(2+(k:Int)) by
    rw[show Bk.Pt (k+1+1)=(k+1+1)*Bk.Pt (k+1) from rfl,VI,Int.mul_comm];congr 1;lia]
 .rintro b d ⟨c,rfl,rfl⟩;refine⟨_,rfl,?_⟩;have e:Bk.Pt (((n:Int)+1-2).toNat+1)=Bk.Pt n:=by
   cases n with
   | zero=>rfl
   | succ n=>congr 1;lia
  rw[e];exact q
def AM:Sp:=λvs H Q _=>∃n:Nat,vs=[.int n]/\n<=8/\Q (.int (Bk.cD n:Nat)) H
theorem GK:Qc ["many"] ["many"] (ap yC):={}
theorem Fc (F:PR K "all_marks" "all_marks" yC f fd)(WW:Df P w K mg base Ph 1 "ways" ["many"] jz):Py P w K mg base Ph 2 f fd ["many"] AM:=by
 refine F.ok GK (λvs H Q E h=>?_) (λg A outer s H vs Q E c h=>?_)
 .obtain⟨n,rfl,_⟩:=h;rfl
 obtain⟨n,rfl,b,q⟩:=h;refine⟨_,ai (aH (av bM (av gY ao (az WW c rfl pS (ac (pv 0) ad))) ao)),?_⟩;have d:=fI n b;refine⟨_,rfl,n,rfl,b,_,_,rfl,rfl,⟨by lia,by lia,by decide⟩,_,_,rfl,rfl,?_⟩;have e:((Bk.cD n:Nat):Int)=1*2 ^ ((Bk.Pt n:Nat):Int).toNat-1:=by
  have:=ade (n:=Bk.Pt n);unfold Bk.cD;rw[Rb,ad1,abC this];simp
 rw[e] at q;exact q
end Ord
namespace Bk
open Mx
noncomputable def iy (m k:Nat):List Int:=((QK k).filter m.testBit).map λt:Nat=>(t:Int)
theorem AN (m k:Nat):iy m (k+1)=iy m k++if m.testBit k=true then [(k:Int)] else []:=by
 unfold iy;rw[YM,YE,Rm]
 congr 1
 by_cases h:m.testBit k=true
 .rw[Pf h,UJ h];rfl
 .rw[O9 h,Wo h];rfl
theorem CQ (m k:Nat):(iy m k).length<=k:=by
 unfold iy;rw[PP];exact RC (aai _ _) (by simp)
theorem rH (rs)(k:Nat):iy (QG rs k) 8=aQ rs (k:Int):=by
 unfold iy aQ aw;rw[List.filter_map]
 congr 1
noncomputable def jY (ms:List Nat)(ts:List Int)(d:Int×Int):Nat:=ms.getD d.2.toNat 0 <<< (ts.idxOf d.1*Pt (ts.length-1))
noncomputable def sK (ms:List Nat)(ts:List Int)(r:O5):Nat:=(r.map (jY ms ts)).sum
noncomputable def dQ (rs:List O5)(k:Nat):Nat:=UH (aQ rs (k:Int)) (P9 rs k)
noncomputable def dR (rs:List O5)(n:Nat):List Nat:=(QK n).map (dQ rs)
theorem rJ (rs)(n:Nat):(dR rs n).length=n:=by simp[dR]
theorem u8 (h:k<n):(dR rs n).getD k 0=dQ rs k:=by simp[dR,h]
theorem yD (rs)(n:Nat):dR rs (n+1)=dR rs n++[dQ rs n]:=by simp[dR,YM]
theorem lq (rs)(k:Int):(aQ rs k).Pairwise (· < ·):=by
 refine List.Pairwise.sublist Wv ?_;decide
theorem o4 (rs)(k:Int):(aQ rs k).Nodup:=(lq rs k).imp λh e=>by lia
theorem nA {many:Nat}(wf:WF rs)(less:∀r∈rs,∀d∈r,d.1<(many:Int)):∀(n k:Nat),k<=n->1<=k->k<rs.length+2->∀o∈P9 rs k,∀x∈o,x<(many:Int)
 | 0,k,h,j,_=>by lia
 | n+1,k,h,j,l=>by
  by_cases c:k=1
  .subst c;intro o b;rw[dC] at b;rw[Qw.mp b];exact λx hx=>nomatch hx
  .obtain⟨r,e,ok,es⟩:=iq wf (show 2<=k by lia) l;intro o b;rw[es] at b;obtain⟨d,hd,b⟩:=RP.mp b;obtain⟨f,g,rfl⟩:=P6.mp b;have m:=ok.ahead d hd;intro x hx;rcases PN.mp hx with rfl|hx
   .exact less _ (QF e) d hd
   .exact nA wf less n d.2.toNat (by lia) (by lia) (by lia) f g x hx
theorem nB:∀{l:List Int}{lo:Int}{n:Nat},l.Pairwise (· < ·)->(∀x∈l,lo<=x/\x<lo+n)->l.length<=n
 | [],_,_,_,_=>QN _
 | x::l,lo,n,p,h=>by
  obtain⟨c,d⟩:=Ww.mp p;have e:=h x Px;obtain⟨n,rfl⟩:∃k,n=k+1:=⟨n-1,by lia⟩
  exact Nat.succ_le_succ (nB (lo:=lo+1) d λy b=>by
   have:=c y b;have:=h y (PU _ b);lia)
theorem o5 {ts:List Int}(h:t≠a):(t::ts).idxOf a=ts.idxOf a+1:=by
 rw[adC,show(t==a)=false from by simpa using h];rfl
theorem iz {k:Nat}:t∈aQ rs (k:Int)↔0<=t/\t<8/\(QG rs k).testBit t.toNat=true:=by
 unfold aQ;rw[So,br,Rb,and_assoc];rfl
theorem nC {many:Nat}(wf:WF rs)(mk:SQ rs)(m8:many<=8)(less:∀r∈rs,∀d∈r,d.1<(many:Int))(h1:1<=k)(hk:k<rs.length+2):∀o∈P9 rs k,fO (aQ rs (k:Int)) o:=λo b=>by
 obtain⟨e,c⟩:=nr wf mk k k (Po _) h1 hk o b;refine(aad e (o4 _ _)).mpr λx=>?_;rw[iz,c x];constructor
 .intro h;have:=nA wf less k k (Po _) h1 hk o b x ((c x).mpr h);exact⟨h.1,by lia,h.2⟩
 .exact λh=>⟨h.1,h.2.2⟩
theorem nE {many:Nat}(wf:WF rs)(mk:SQ rs)(m8:many<=8)(less:∀r∈rs,∀d∈r,d.1<(many:Int))(hk:k<rs.length+2):(aQ rs (k:Int)).length<=many:=by
 by_cases c:1<=k
 .obtain⟨o,e⟩:=T3 _ (oJ wf k k (Po _) c hk);have p:=nC wf mk m8 less c hk o e;have sub:∀x∈aQ rs (k:Int),x∈aw many:=λx b=>by
   have:=nA wf less k k (Po _) c hk o e x (p.symm.subset b);exact br.mpr ⟨(iz.mp b).1,this⟩
  have:=nB (lq rs (k:Int)) (lo:=0) (n:=many) λx b=>by have:=br.mp (sub x b);lia
  exact this
 .have:k=0:=by lia
  subst this;have:aQ rs ((0:Nat):Int)=[]:=Wj.mpr λt f=>by
   have:=(iz.mp f).2.2;rw[Cr,ZT] at this;cases this
  rw[this];exact QN _
theorem Fe {many:Nat}(wf:WF rs)(mk:SQ rs)(m4:many<=4)(less:∀r∈rs,∀d∈r,d.1<(many:Int))(hk:k<rs.length+2):dQ rs k<2 ^ 24:=by
 by_cases b:1<=k
 .have c:=nE wf mk (by lia) less hk;refine QP (yz rfl (nC wf mk (by lia) less b hk)) (ZI (by decide) ?_);have:∀n,n<=4->Pt n<=24:=by decide
  exact this _ (by lia)
 .have:k=0:=by lia
  subst this;unfold dQ;rw[ip];exact aaw _
theorem gC (mk:SQ rs)(hr:rs[i]?=some r)(hd:d∈r)(d2:0<=d.2):d.1∈aQ rs ((i+2:Nat):Int)/\aQ rs d.2=(aQ rs ((i+2:Nat):Int)).erase d.1:=by
 obtain⟨c,g,l,m⟩:=mk _ _ hr d hd;have bit:∀j:Nat,(QG rs (i+2)).testBit j=(decide (d.1.toNat=j)||(QG rs d.2.toNat).testBit j):=λj=>by
  rw[<-m,YQ,ZK]
 refine⟨iz.mpr ⟨c,g,by rw[bit];simp⟩,?_⟩;rw[(o4 _ _).erase_eq_filter];unfold aQ;rw[afB];refine List.filter_congr λt f=>?_;have n:=(br.mp f).1;rw[Rb,bit]
 by_cases e:t=d.1
 .subst e;simp[l]
 .have b:d.1.toNat≠t.toNat:=λh=>e (by lia);simp[e,b]
theorem wO {α:Type}{f:α->ak}:∀(l:List α),UH ts (l.flatMap f)=QO (l.map λx=>UH ts (f x))
 | []=>rfl
 | x::l=>by
  have b:=wO (ts:=ts) (f:=f) l;unfold UH at b ⊢;rw[aar,Rm,qk,b];rfl
theorem AO:∀{ts:List Int}{a b:Int},ts.Pairwise (· < ·)->a∈ts->b∈ts->a<b->ts.idxOf a<ts.idxOf b
 | [],a,b,_,c,_,_=>nomatch c
 | t::ts,a,b,p,c,j,lt=>by
  obtain⟨g,l⟩:=Ww.mp p
  by_cases d:t=a
  .subst d;rw[ac6,o5 (show t≠b by lia)];lia
  have f:a∈ts:=(PN.mp c).resolve_left λh=>d h.symm;have:=g a f;have e:t≠b:=by lia
  have m:b∈ts:=(PN.mp j).resolve_left λh=>e h.symm;rw[o5 d,o5 e];exact Nat.succ_lt_succ (AO l f m lt)
theorem CS {many:Nat}(wf:WF rs)(mk:SQ rs)(m8:many<=8)(less:∀r∈rs,∀d∈r,d.1<(many:Int))(hr:rs[i]?=some r):sK (dR rs (i+2)) (aQ rs ((i+2:Nat):Int)) r=dQ rs (i+2):=by
 have u:=(QE.mp hr).1;have ok:=wf i r hr;have es:=io hr λd hd=>by have:=ok.ahead d hd;lia
 generalize c:aQ rs ((i+2:Nat):Int)=ts;have tr:ts.Pairwise (· < ·):=c▸lq _ _;have fact:∀d∈r,d.1∈ts/\aQ rs d.2=ts.erase d.1:=λd hd=>c▸gC mk hr hd (by have:=ok.ahead d hd;lia);obtain⟨l,g⟩:=T3 _ ok.ne;have v:1<=ts.length:=YB (fact l g).1;have rows:∀d∈r,∀o∈P9 rs d.2.toNat,fO (ts.erase d.1) o:=λd hd o f=>by
  have m:=ok.ahead d hd;have:=nC wf mk m8 less (k:=d.2.toNat) (by lia) (by lia) o f;rwa[show((d.2.toNat:Nat):Int)=d.2 by lia,(fact d hd).2] at this
 have val:∀d∈r,(dR rs (i+2)).getD d.2.toNat 0=UH (ts.erase d.1) (P9 rs d.2.toNat):=λd hd=>by
  have m:=ok.ahead d hd;rw[u8 (by lia)];unfold dQ;rw[show((d.2.toNat:Nat):Int)=d.2 by lia,(fact d hd).2]
 have s:=AK (Pt (ts.length-1)) (r.map λd=>(ts.idxOf d.1,(dR rs (i+2)).getD d.2.toNat 0)) 0 0 (λe j=>by
   obtain⟨d,hd,rfl⟩:=P6.mp j;dsimp only;rw[val d hd];exact yz (U8 (fact d hd).1) (rows d hd)) (by
   rw[TC];have p:=ok.rise;rw[VE] at p ⊢;exact p.imp_of_mem λ{a b} h t lt=>AO tr (fact a h).1 (fact b t).1 lt) (λe _=>QN _) (aaw _)
 rw[TC,aaE,Z5] at s;unfold sK dQ;rw[c,es,wO];refine Eq.trans s ?_
 congr 1
 refine Tb λd hd=>?_;show(dR rs (i+2)).getD d.2.toNat 0 <<< _=_;rw[val d hd];obtain⟨n,hn⟩:∃n,ts.length=n+1:=⟨ts.length-1,by lia⟩
 rw[show ts.length-1=n by lia];exact E9 hn (fact d hd).1 (rows d hd)
noncomputable def jZ (s:Sk):List (Int×Sk):=(iw s).take 8
theorem u9 (s):(jZ s).length<=8:=by
 unfold jZ;rw[RW];lia
theorem gW (g:gN s):jZ s=iw s:=Wp (CP s g)
theorem GL:Way jZ osK yA SB gN where
 pos:=eC.pos
 len:=eC.len
 down:=λs g t=>by rw[gW g];exact eC.down s g t
 rise:=λs g t=>by rw[gW g];exact eC.rise s g t
 UG:=λs g t=>by rw[gW g];exact eC.UG s g t
 rest:=λs g t=>by rw[gW g];exact eC.rest s g t
 all:=λs g t=>by rw[gW g];exact eC.all s g t
theorem rK:∀{ts:List Int}{i:Nat}{t:Int},ts.Nodup->ts[i]?=some t->ts.take i++ts.drop (i+1)=ts.erase t/\ts.idxOf t=i
 | [],i,t,_,b=>by simp at b
 | x::ts,0,t,_,b=>by
  cases b;exact⟨by simp,ac6⟩
 | x::ts,i+1,t,f,b=>by
  obtain⟨h,g⟩:=Td.mp f;have c:ts[i]?=some t:=b;obtain⟨j,d⟩:=rK g c;have ne:x≠t:=λe=>h (e▸QF c);refine⟨?_,by rw[o5 ne,d]⟩;rw[List.erase_cons_tail (by simpa using ne),<-j];rfl
end Bk
namespace Ord
open PySem L2 Mx
noncomputable abbrev yE:Pc:=top 39
def yF (K:O6):Sp:=λvs H Q _=>∃m:Nat,vs=[.int m]/\∀(l:f') (H':Hp),ar H H'->H l=none->H' l=some (.lst ((Bk.iy m 8).map V.int))->Q (.ref l) H'
theorem DA:Qc ["bits"] ["bits"] (ap yE):={}
theorem wP (m i:Nat):UO ((m:Int) / 2 ^ (i:Int).toNat) 1=if m.testBit i=true then 1 else 0:=by
 have e:(m:Int) / 2 ^ (i:Int).toNat=((m >>> i:Nat):Int):=by
  rw[Rb,abc];simp
 rw[e];show((m >>> i &&& 1:Nat):Int)=_;rw[Nat.testBit_eq_decide_div_mod_eq,abc,Nat.and_one_is_mod]
 by_cases h:m / 2 ^ i % 2=1
 .simp[h]
 .have:m / 2 ^ i % 2=0:=by lia
  simp[this]
theorem GN (F:PR K "things_in" "things_in" yE f fd)(T:Qj K mg CO):Py P w K mg base Ph 1 f fd ["bits"] (yF K):=by
 refine F.ok DA (λvs H Q E h=>?_) (λx A outer s H vs Q E D h=>?_)
 .obtain⟨m,rfl,_⟩:=h;rfl
 obtain⟨m,rfl,z⟩:=h;obtain⟨g,o⟩:=T.t.most;refine⟨_,ai (aH (dB rfl (show Sc false (ap yE) ["bits"] _ _ from by constructor <;> decide +kernel) (dF rfl T.t.range (ac (aR (v:=.int 8) rfl o ⟨g,rfl⟩) ad))
    (λ_ _ _ _ _ _=>gR (aP cY (av kb (av sZ (pv 1) (pv 0)) ao) ao (aW _)))
    (λcl C I y G aa=>pv 0) DA.nd)),?_⟩
 refine⟨8,rfl,by lia,by lia,h9 (lo:=0) (n:=8) (λi c b=>b=H/\c=(Bk.iy m i).map V.int) ⟨rfl,rfl⟩ ?_ (by rw[PY];lia) ?_ ?_⟩
 .rintro i c b _ ⟨_,rfl⟩;rw[PP];exact Bk.CQ m i
 .rintro i c b u ⟨rfl,rfl⟩;have l:(0:Int)+(i:Int)=(i:Int):=by lia
  refine⟨_,rfl,_,rfl,_,_,rfl,rfl,?_,_,_,rfl,rfl,?_⟩
  .show(0:Int)<=0+(i:Int);lia
  rw[l];refine⟨rfl,_,rfl,?_⟩;rw[Bk.AN]
  by_cases h:m.testBit i=true
  .rw[P7 (show(λi j=>V.int (UO i j)) ((m:Int) / 2 ^ (i:Int).toNat) 1=V.int 1 from by show V.int (UO _ _)=_;rw[wP,Pf h]),Pf h];refine bn ⟨_,rfl,rfl,?_⟩;rw[Rm];rfl
  .rw[P8 (show ¬(λi j=>V.int (UO i j)) ((m:Int) / 2 ^ (i:Int).toNat) 1=V.int 1 from by show ¬V.int (UO _ _)=_;rw[wP,O9 h];exact λe=>by cases e),O9 h,SV];exact ba ⟨rfl,rfl⟩
 .rintro c b p ⟨rfl,rfl⟩ d;exact z p _ (af d _) d ag
end Ord
namespace L2
open PySem PySem.Spec PyProof.Rows
theorem CT (hc:X.calm=true):cR X (.builtin "sum") (λxs H Q=>∃(p:f') (ns:List Int),xs=[.ref p]/\Pg X.K H p (ns.map V.int)/\Q (.int ns.sum) H):=by
 intro aa s n H xs us Q I r h;obtain⟨p,ns,rfl,j,q⟩:=h;obtain⟨u,rfl,l⟩:=dH r;cases l;obtain⟨its,e,pl,hz⟩:=I.list j;have d:VO its ns:=nV e;obtain⟨as,g⟩:=d.allInts.items;have b:numsOf its.toArray.toList=ns:=by rw[show its.toArray.toList=its from rfl,d.numsOf]
 have c:=pl.isList;rw[g] at c b;rw[nums_intItems] at b;refine sum_intListG (I.ok.hd hc) c λh' f t' m=>?_;rw[preSum_eq,Wp (by simp),b];exact⟨.int ns.sum,H,I.kept (t':=f) m,⟨t',rfl⟩,q⟩
theorem wQ {K:O6}(hK:X.K=K)(ho:PE X o to)(ha:PA X [e] t)(ach:attributeBase o "index" X.env (eval o X.env)=eval o X.env:=by rfl)(acr:((backTo Sf (Qz [e] X.env)).all (λx=>!x.1)&&(backToKw Sf (keywordEach [] X.env)).all (λx=>x.1.isSome)
   && decide ([e].length+([]:List Keyword).length+(if ([]:List Keyword).isEmpty then 0 else 1)<30))=true:=by rfl)(aci:(apos.endLine==Sf.line)=true:=by rfl)(hs:Qz [e] X.env=(false,eval e X.env)::Qz [] X.env:=by rfl)(acb:(backTo Sf (Qz [] X.env)).any (·.1)=false:=by rfl):
  PE X (.Call (.Attribute o "index" apos) [e] [] Sf) (tBM K "list" (zD K) to t):=by
 subst hK;exact dJ T4 aaf acU tK ho ha ach acr aci hs acb
end L2
namespace Ord
open PySem L2 Mx
noncomputable abbrev mj:Pc:=top 41
theorem Kz:Sr "sum"=some (.builtin "sum"):=by decide +kernel
theorem CU (l:List Nat):(l.map λn:Nat=>(n:Int)).sum=((l.sum:Nat):Int):=by
 induction l with
 | nil=>rfl
 | cons x l b=>simp only[Qr,XG,b];lia
theorem AQ {α:Type}(l:List α)(g:α->Nat):aZ (l.map g)=(l.map λd=>((g d:Nat):Int)).map V.int:=by
 unfold aZ;rw[TC,TC];rfl
def wR (K:O6):Sp:=λvs H Q _=>∃(x:V) (r:Bk.O5) (l c:f') (ts:List Int) (ms:List Nat),vs=[x,.ref l,.ref c]/\bH K H x r/\Pg K H l (ts.map V.int)/\Pg K H c (aZ ms)/\
 (∀d∈r,d.1∈ts/\0<=d.2/\d.2<(ms.length:Int))/\r.length<=8/\1<=ts.length/\ts.length<=8/\(∀m∈ms,m<2 ^ 64)/\
 ∀H',ar H H'->Q (.int ((Bk.sK ms ts r:Nat):Int)) H'
theorem qm:Qc ["room","things","marks","rows"] ["room","things","marks"] (ap mj):={}
theorem CV (F:PR K "marks_of_room" "marks_of_room" mj f fd)(T:Qj K mg CO)(zs:mg "sum"=none)(WW:Df P w K mg base Ph 1 "ways" ["many"] jz):Py P w K mg base Ph 2 f fd ["room","things","marks"] (wR K):=by
 refine F.ok qm (λvs H Q E h=>?_) (λPi A outer s H vs Q E W h=>?_)
 .obtain⟨x,r,l,c,ts,b,rfl,_⟩:=h;rfl
 obtain⟨x,r,l,c,ts,b,rfl,⟨a,ds,rfl,v,G⟩,n,N,Z,r8,t1,t8,m,z⟩:=h;have S:=G.length;refine⟨_,ae (ay (i:=3) qm.nd rfl (Ve rfl) (az WW W rfl pS (ac (av bM (aB aN rfl T.t.len bN (ac (pv 1) ad)) ao) ad)))
  (ai (aH (aB (CT rfl) rfl zs Kz (ac
    (dB rfl (show Sc false (ap mj) ["room","things","marks","rows"] _ _ from by constructor <;> decide +kernel) (fK (pv 0)) (λ_ _ _ _ _ _=>eJ)
     (λcl C PZ QT X aa=>av gY (bj (show SY _ (fL K) from bB) (pv 3) (Rq K (pv 0) ao) (λ_ _=>rfl))
      (av e8 (wQ (K:=K) rfl (pv 2) (ac (Rq K (pv 0) ao) ad)) (pv 4))) qm.nd) ad)))),?_⟩
 have o:ts.length-1<=8:=by lia
 have R:((ts.map V.int).length:Int)-1=((ts.length-1:Nat):Int):=by rw[PP];lia
 have M:=fI _ o;refine⟨_,rfl,l,_,rfl,.inl n,_,_,rfl,rfl,ts.length-1,congrArg (λi=>[V.int i]) R,o,_,rfl,a,rfl,⟨_,v⟩,
  jE (K:=K) (a:=a) (xs:=ds) (λj e g=>g=H/\e=aZ ((r.take j).map (Bk.jY b ts))) ⟨rfl,rfl⟩ ?_ (by rw[PY];lia) ?_ ?_⟩
 .rintro j e g _ ⟨rfl,rfl⟩;exact⟨v,by unfold aZ;rw[PP,PP,RW];lia⟩
 .rintro j y e g hy ⟨rfl,rfl⟩;obtain⟨d,hd,U⟩:=bS G hy;obtain⟨p,rfl,D⟩:=U;obtain⟨O,b1,b2⟩:=Z d (QF hd);obtain⟨k,hk⟩:∃k:Nat,d.2=(k:Int):=⟨d.2.toNat,by lia⟩
  have I:=Yy O;have kl:k<b.length:=by lia
  refine V4 (bn ⟨_,rfl,_,rfl,p,_,1,.int d.2,rfl,rfl,D,jb,c,_,d.2,_,rfl,rfl,N,(by rw[hk];exact eA kl),_,rfl,.inl ⟨rfl,_,n⟩,_,rfl,p,_,0,.int d.1,rfl,rfl,D,gJ,?_⟩);refine⟨l,_,.int d.1,ts.idxOf d.1,rfl,rfl,n,rfl,?_,?_,?_,?_⟩
  .rw[aaG];simp[cp]
  .refine⟨.int d.1,?_,by simp[Re]⟩;rw[Q6,Qu I,aan];rfl
  .intro i y u L;rw[Q6,Qu (aaF u I)] at L;cases L;have:=afd (xs:=ts) (p:=λx=>x==d.1) u;simpa [Re] using this
  have X:=wN (ts.length-1);have bm:ts.idxOf d.1*Bk.Pt (ts.length-1)<=8*40320:=WN (by lia) M;have km:b.getD k 0<2 ^ 64:=by
   rw[SC,Qu kl];exact m _ (Wy kl)
  have J:((ts.idxOf d.1:Nat):Int)*((Bk.Pt (ts.length-1):Nat):Int)=((ts.idxOf d.1*Bk.Pt (ts.length-1):Nat):Int):=(VI _ _).symm;refine⟨_,rfl,_,_,rfl,rfl,.inl ⟨by lia,by lia⟩,_,_,rfl,rfl,?_,rfl,?_⟩
  .show xt _ (((ts.idxOf d.1:Nat):Int)*((Bk.Pt (ts.length-1):Nat):Int));rw[J];exact⟨by lia,by lia,by lia⟩
  rw[bC hd,Rm];unfold aZ;rw[Rm]
  congr 1
  show [V.int (((b.getD k 0:Nat):Int)*2 ^ (((ts.idxOf d.1:Nat):Int)*((Bk.Pt (ts.length-1):Nat):Int)).toNat)]=[V.int ((Bk.jY b ts d:Nat):Int)]
  congr 2
  rw[J,Rb];unfold Bk.jY;rw[hk,Rb,aat,VI];simp
 rintro e g p ⟨rfl,rfl⟩ Y;rw[S,SD];refine⟨p,r.map λd=>((Bk.jY b ts d:Nat):Int),rfl,Pg.of (by rw[ag,AQ]),?_⟩;have:=CU (r.map (Bk.jY b ts));rw[TC] at this;rw[show((r.map λd=>((Bk.jY b ts d:Nat):Int)).sum)=((Bk.sK b ts r:Nat):Int) from this];exact z _ (af Y _)
noncomputable abbrev nF:Pc:=top 40
def wS (K:O6):Sp:=λvs H Q _=>∃(x:V) (rs:List Bk.O5) (many first:Nat),vs=[x]/\Se K H x many rs first/\acn many rs/\many<=4/\first<rs.length+2/\
 ∀H',ar H H'->Q (.int ((Bk.dQ rs first:Nat):Int)) H'
theorem mn:Qc ["book","things","marks","room"] ["book"] (ap nF):={}
theorem CW (F:PR K "marks_of" "marks_of" nF f fd)(T:Qj K mg CO)(WF:Df P w K mg base Ph 4 "things_from" ["many","rooms"] (oK K))(WR:Df P w K mg base Ph 2 "marks_of_room" ["room","things","marks"] (wR K))(WI:Df P w K mg base Ph 1 "things_in" ["bits"] (yF K)):Py P w K mg base Ph 5 f fd ["book"] (wS K):=by
 refine F.ok mn (λvs H Q E h=>?_) (λPi A outer s H vs Q E D h=>?_)
 .obtain⟨x,rs,many,first,rfl,_⟩:=h;rfl
 obtain⟨x,rs,many,first,rfl,⟨b,l,xs,rfl,y,L,J⟩,W,m4,fl,z⟩:=h;have hlen:=J.length;refine⟨_,ae (ay (i:=1) mn.nd rfl (PB rfl) (az WF D rfl pS (ac (bj cZ (pv 0) ao (λ_ _=>rfl)) (ac (bj cZ (pv 0) ao (λ_ _=>rfl)) ad))))
  (ae (ay (i:=2) mn.nd rfl (PB rfl) (bf (ac ao (ac ao ad))))
  (ae (bL RB rfl (cf (bj cZ (pv 0) ao (λ_ _=>rfl))) (bw (i:=3) mn.nd rfl (PB rfl))
   (ai (bA (dJ T4 VC VD cN (pv 2) (ac
    (az WR (D.mono (by decide)) rfl pS (ac (pv 3) (ac
     (az WI (D.mono (by decide)) rfl pS (ac (bj bB (pv 1) (aB aN rfl T.t.len bN (ac (pv 2) ad)) (λ_ _=>rfl)) ad)) (ac (pv 2) ad)))) ad)))))
  (ai (aH (bj bB (pv 2) (bj cZ (pv 0) ao (λ_ _=>rfl)) (λ_ _=>rfl)))))),?_⟩
 refine⟨_,rfl,b,_,0,.int many,rfl,rfl,y,rfl,_,rfl,b,_,1,.ref l,rfl,rfl,y,rfl,many,l,xs,rs,rfl,L,J,W,λt O s1 N=>?_⟩;refine⟨by show 2<=Pj;decide,λm C=>?_⟩;have s2:ar O (upd O m (.lst [V.int 0,V.int 1])):=af C _;have tm:t≠m:=au N C;have Qk:=W.Qk;refine⟨_,rfl,b,_,1,.ref l,rfl,rfl,s2.Qh (s1.Qh y),rfl,l,rfl,⟨_,s2.RS (s1.RS L)⟩,cP (K:=K) (a:=l) (xs:=xs) (λi v g=>∃p,v=[some (.ref b),some (.ref t),some (.ref m),p]/\ar H g/\g t=some (.lst (aZ (Bk.bz rs)))/\g m=some (.lst (aZ (Bk.dR rs (i+2))))) ⟨none,rfl,s1.trans s2,s2 _ _ N,?_⟩ ?_ ?_ ?_⟩
 .rw[ag];have e0:Bk.dQ rs 0=0:=by unfold Bk.dQ;rw[Bk.ip];rfl
  have e1:Bk.dQ rs 1=1:=by unfold Bk.dQ;rw[Bk.dC];simp[Bk.UH,Bk.QO,Bk.Uq]
  show some (HO.lst [V.int 0,V.int 1])=some (.lst (aZ [Bk.dQ rs 0,Bk.dQ rs 1]));rw[e0,e1];rfl
 .rintro i v g _ ⟨p,rfl,s3,_⟩;exact s3.RS L
 .rintro i x v g hx ⟨p,rfl,s3,G,c⟩;obtain⟨r,j,I⟩:=bS J hx;have I:=I.same s3;have il:=(QE.mp j).1;have ok:=W.wf i r j;have Z:r.length<=8:=Bk.kT ok.rise λd hd=>by
   obtain⟨a1,a2,_⟩:=W.mask i r j d hd;exact⟨a1,a2⟩
  have cl:=Bk.rJ rs (i+2);have M:(aZ (Bk.dR rs (i+2))).length=i+2:=by unfold aZ;rw[PP,cl]
  refine⟨_,rfl,.inl ⟨rfl,_,Pg.of c⟩,_,rfl,_,rfl,_,rfl,m,_,rfl,.inl (Pg.of c),t,_,((i+2:Nat):Int),_,rfl,by rw[M],Pg.of G,eA (by rw[Bk.dj];lia),_,rfl,λa H3 s4 ha S=>?_⟩;have e5:Bk.iy ((Bk.bz rs).getD (i+2) 0) 8=Bk.aQ rs ((i+2:Nat):Int):=Bk.rH rs (i+2);rw[e5] at S;have fact:∀d∈r,d.1∈Bk.aQ rs ((i+2:Nat):Int):=λd hd=>(Bk.gC W.mask j hd (by have:=ok.ahead d hd;lia)).1;obtain⟨U,V'⟩:=T3 _ ok.ne;have X:1<=(Bk.aQ rs ((i+2:Nat):Int)).length:=YB (fact U V');have t8:=Bk.nE W.wf W.mask (by lia) W.less (k:=i+2) (by lia);refine⟨_,rfl,x,r,a,m,_,_,rfl,I.same s4,Pg.of S,Pg.of (s4 _ _ c),λd hd=>?_,Z,X,by lia,λn R=>?_,λH4 s5=>?_⟩
  .have:=ok.ahead d hd;rw[cl];exact⟨fact d hd,by lia,by lia⟩
  .unfold Bk.dR at R;obtain⟨k,Y,rfl⟩:=P6.mp R;have:=Sq.mp Y;exact aaF (Bk.Fe W.wf W.mask m4 W.less (by lia)) (by decide)
  have s6:=s4.trans s5;refine⟨m,_,_,rfl,rfl,s6 _ _ c,by rw[M,PY];lia,?_⟩;have nm:H m=none:=by
   cases e:H m with
   | none=>rfl
   | some o=>have:=s1 _ _ e;rw[C] at this;cases this
  refine⟨_,rfl,λb u q=>?_,?_,?_⟩
  .rw[aq (au q nm)];exact s6 _ _ (s3 _ _ q)
  .rw[aq tm];exact s6 _ _ G
  .rw[ag,Bk.CS W.wf W.mask (by lia) W.less j,show i+1+2=i+2+1 by lia,Bk.yD rs (i+2)];unfold aZ;rw[Rm];rfl
 .rintro v g ⟨p,rfl,s3,G,c⟩;rw[hlen] at c;refine⟨_,rfl,_,rfl,b,_,2,.int first,rfl,rfl,s3.Qh y,rfl,m,_,(first:Int),_,rfl,rfl,Pg.of c,eA (by rw[Bk.rJ];lia),?_⟩;rw[Bk.u8 (by lia)];exact z _ s3
end Ord
namespace HT
open PySem PySem.Spec PyProof.Rows
theorem AR {lo hi:Option Int}(g:XT s.heap t its)(gs:s.heap.IsSliceOf sl vl vu .none)(pl:VQ vl lo)(pu:VQ vu hi)(wl:P3 its.size 0 lo=0)(wh:P3 its.size its.size hi=its.size)(h:Q (.ref t) s):O7 (Pb prog w) A (getItem (.ref t) (.ref sl)) Q E s:=by
 obtain⟨os,b,c,_⟩:=id gs;have ty:s.TypeIs (.ref sl) "slice":=⟨os,b,c⟩
 unfold getItem
 try with_reducible refine RY ?_
 first|refine O4 (Pa ?_)|skip
 refine O4 (abr g.typeIs (by decide) ?_);refine O4 (Xz (name:=TB "__getitem__") g.typeIs ZD (Tc ZD g.typeIs entry_tuple_getitem ?_ (args_tuple_getitem _ _)));show O7 _ _ (aa7 (.ref t) >>= _) _ _ s;refine O4 (tupleItemsOf_ g ?_);refine O4 (XM ty ?_);rw[Pf (by decide)];refine O4 (hJ gs pl pu ?_);show O7 _ _ (if (((P3 its.size 0 lo:Nat):Int)==0&&(1:Int)==1&&(P3 its.size its.size hi-P3 its.size 0 lo)==its.size)=true then _ else _) _ _ s;rw[Pf (by rw[wl,wh];simp)];unfold Tf.Tuple.tupleIsExact;refine O4 (O4 (XM g.typeIs (Pa ?_)));rw[Pf (by decide)];exact O4 (Ss (Pa ⟨_,rfl,Pa h⟩))
end HT
namespace L2
open PySem PySem.Spec PyProof.Rows
def LJ (K:O6):V->Option Int->Option Int->Hp->VK->Prop:=λx lo hi H Q=>∃a xs,x=.ref a/\Pw K H a xs/\∀p H',ar H H'->Pw K H' p (cj xs lo hi)->Q (.ref p) H'
theorem wT:SlR X (LJ X.K):=by
 intro aa s t H x v w y lo d n Q I m g pl l h;obtain⟨a,xs,rfl,f,q⟩:=h
 by_cases c:HT.P3 xs.length 0 lo=0/\HT.P3 xs.length xs.length d=xs.length
 .cases m;obtain⟨its,r,j,hz⟩:=I.tuple f;have hlen:its.toArray.size=xs.length:=by rw[Qv];exact r.length.symm
  refine⟨"tuple",_,ZD.lookup,j.typeIs,?_⟩;refine HT.AR j g pl l (by rw[hlen];exact c.1) (by rw[hlen];exact c.2) ⟨.ref a,H,I,rfl,q a H (ar.refl H) ?_⟩;have e:cj xs lo d=xs:=by
   unfold cj;rw[c.1,c.2,ZW,adU,SD]
  rw[e];exact f
 .exact zm aa s t H (.ref a) v w y lo d n Q I m g pl l ⟨a,xs,rfl,f,c,λp u=>q p _ (λb o e=>by rw[aq (au e u)];exact e) (.inl (.inl ag))⟩
theorem CY {k i:Nat}(F:Py X.prog X.w X.K X.mg X.base CX k f fd ps sp)(hr:O5 k X.A)(ho:X.base.get? f=some o)(Xs:o.data=.func fd)(hN:X.N[i]?=some x)(hv:Y9 X.env.scope x)(hb:∀us:List D',us.length=ps.length->bindArgs fd ⟨us,[]⟩=pure (ps.zip us))(hx:dA CX X E)(ha:PA X (e::es) t)(UZ:(x==("__debug__":N'))=false:=by decide)(SL:(x==("__classdict__":N'))=false:=by decide)(he:Qz (e::es) X.env=(false,eval e X.env)::Qz es X.env:=by rfl)(Sw:(backTo pos (Qz es X.env)).any (·.1)=false:=by rfl):
  PE X (.Call (.Name x p) (e::es) [] pos) (λσ H Q=>σ[i]?=some (some (.ref f))/\t σ H λvs H1=>sp vs H1 Q (E σ)):=by
 intro aa s σ H Q I ⟨h0,h⟩;refine aaj (Pm (y8 hN hv UZ SL aa s σ H (λv n=>v=.ref f/\t σ n λvs H1=>sp vs H1 Q (E σ)) I ⟨_,h0,rfl,h⟩) λu s1 ⟨v,H1,j,m,ev,C⟩=>?_);subst ev;cases m;show O7 _ _ (callWith pos (.ref f) [] (backTo pos (Qz (e::es) X.env)) []) _ _ _;rw[he];refine W.callWith_of (P:=λh=>h.get? f=some o) (by show((false||(backTo pos (Qz es X.env)).any (·.1))||false)=false;rw[Sw];rfl) (λh g=>⟨.frame,.inl rfl,?_⟩) (PySem.Calls.evalArgs_plain ?_)
 .obtain⟨G,od,dd,D⟩:=o;dsimp only at Xs;subst Xs;exact(ad5 (part:=none) g).andThen .now
 .have c:=ha pos aa s1 σ H1 _ j C;rw[he] at c;refine Pm c λus s2 ⟨vs,l,d,r,y⟩=>⟨d.bk f o ho,?_⟩
  have b:sp (vs++[]) l Q (E σ):=by rw[SV];exact y
  exact vT (Rk:=[]) (ds:=[]) F hr (bK.all hb) .nil hx d r b
structure VKd (prog)(w)(κ:Type)[DecidableEq κ]where
 is:O8->κ->D'->Prop
 hash:κ->Int
 draws:κ->Nat
 room:Pz->Prop
 one:∀{h:O8}{v:D'}{k k':κ},is h k v->is h k' v->k=k'
 aa4:∀{h:O8}{v:D'}{k:κ},is h k v->(∃i t,v=.int i t)\/∃a,v=.ref a
 keeps:∀{h h':O8}{k:κ}{v:D'}{d:f'}{o:G'}{es ep},is h k v->h.get? d=some o->o.data=.dict es ep->Tz d h h'->is h' k v
 hashes:∀{A:Pz}{E:D'->J'->Prop}{s:J'}{k:κ}{v:D'}{Q:Int->J'->Prop},room A->is s.heap k v->Q (hash k) { s with toks:=s.toks+draws k }->O7 (Pb prog w) A (pyHash v) Q E s
 Zu:∀{A:Pz}{E:D'->J'->Prop}{s:J'}{k k':κ}{u v:D'}{Q:Bool->J'->Prop},room A->is s.heap k u->is s.heap k' v->Q (decide (k=k')) s->O7 (Pb prog w) A (eqBool u v) Q E s
 quiet:∀{A:Pz}{E:D'->J'->Prop}{s:J'}{k:κ}{v:D'}{Q:Bool->J'->Prop},is s.heap k v->Q true s->O7 (Pb prog w) A (eqIsQuiet 8 v) Q E s
section
variable {prog:Pk}{w:Pd}{κ:Type} [DecidableEq κ] (kd:VKd prog w κ)
noncomputable def iA (x:κ×D'×D'):Rc:=⟨kd.hash x.1,x.2.1,x.2.2⟩
structure Vh (h:O8)(es:Array Rc)(xs:List (κ×D'×D')):Prop where
 all:es.toList=xs.map (iA kd)
 keys:∀x∈xs,kd.is h x.1 x.2.1
 nd:(xs.map (·.1)).Nodup
noncomputable def SU (xs:List (κ×D'×D'))(k:κ):Option D':=(xs.find? λx=>decide (x.1=k)).map (·.2.2)
variable {kd}{A:Pz}{E:D'->J'->Prop}{s:J'}
theorem Vh.get (e:Vh kd h es xs)(i:Nat):es[i]?=(xs[i]?).map (iA kd):=by rw[<-Wq,e.all,Q6]
theorem Vh.size (e:Vh kd h es xs):es.size=xs.length:=by rw[<-Ri,e.all,PP]
theorem Vh.uniq (e:Vh kd h es xs){i j:Nat}(hi:xs[i]?=some x)(hj:xs[j]?=some y)(q:x.1=y.1):i=j:=by
 have a:(xs.map (·.1))[i]?=some x.1:=by rw[Q6,hi];rfl
 have b:(xs.map (·.1))[j]?=some x.1:=by rw[Q6,hj,q];rfl
 exact(List.getElem?_inj (QE.mp a).1 e.nd).mp (a.trans b.symm)
def jA (xs:List (κ×D'×D'))(k:κ)(l:List Nat):Prop:=∀i∈l,∀x,xs[i]?=some x->x.1≠k
theorem o7 {d:f'}{o:G'}{es:Array Rc}{ep:Nat}{xs:List (κ×D'×D')}{k:κ}{v:D'}{Q:Option Nat->J'->Prop}(hu:kd.room A)(RH:kd.is s.heap k v)(ho:s.heap.get? d=some o)(hd:o.data=.dict es ep)(en:Vh kd s.heap es xs)(q0:(∀x∈xs,x.1≠k)->Q none s)(q1:∀j x,xs[j]?=some x->x.1=k->Q (some j) s):O7 (Pb prog w) A (dictFind d v (kd.hash k)) Q E s:=by
 have at_:=en.get
 have sz:=en.size
 have R:∀{j x},xs[j]?=some x->x.1=k->j∈placesWithHash es.size (λi=>es[i]?.map (·.hash)) (kd.hash k):=λ{j x} p e=>by
  unfold placesWithHash
  refine So.mpr ⟨Sq.mpr (by rw[sz];exact(QE.mp p).1),?_⟩
  dsimp only
  rw[at_ j,p]
  simp[iA,e]
 have P:∀{j},j∈placesWithHash es.size (λi=>es[i]?.map (·.hash)) (kd.hash k)->∃x,xs[j]?=some x/\kd.hash x.1=kd.hash k:=λ{j} p=>by
  unfold placesWithHash at p
  obtain⟨I,F⟩:=So.mp p
  have U:j<xs.length:=by rw[<-sz];exact Sq.mp I
  refine⟨xs[j],Qu U,?_⟩
  dsimp only at F
  rw[at_ j,Qu U] at F
  simpa [iA] using F
 have keyed:∀x∈es,∃G,kd.is s.heap G x.key/\x.hash=kd.hash G:=λx c=>by
  have:x∈xs.map (iA kd):=en.all▸ac3.mpr c
  obtain⟨y,g,rfl⟩:=P6.mp this
  exact⟨y.1,en.keys y g,rfl⟩
 have stored:∀u∈(placesWithHash es.size (λi=>es[i]?.map (·.hash)) (kd.hash k)).filterMap (λi=>es[i]?.map (·.key)),∃G,kd.is s.heap G u:=λu hu=>by
  obtain⟨i,_,e⟩:=Us.mp hu
  obtain⟨x,c,rfl⟩:=ZF.mp e
  obtain⟨G,h,_⟩:=keyed x (Array.mem_of_getElem? c)
  exact⟨G,h⟩
 have same:∀e∈es,¬(e.key==v&&e.hash != kd.hash k)=true:=λe he h=>by
  obtain⟨G,I,F⟩:=keyed e he
  simp only[Tyq,beq_iff_eq,bne_iff_ne,ne_eq] at h
  rw[h.1] at I
  exact h.2 (by rw[F,kd.one I RH])
 generalize Y:placesWithHash es.size (λi=>es[i]?.map (·.hash)) (kd.hash k)=pl at R P stored
 have S:jA xs k pl->∀x∈xs,x.1≠k:=λh x c hk=>by
  obtain⟨j,p⟩:=aah.mp c
  exact h j (R p hk) x p hk
 have plain:O7 (Pb prog w) A (dictWalkPlain d v (kd.hash k) es pl) Q E s:=by
  unfold dictWalkPlain
  refine O4 ?_
  refine Uv _ (λrest b t=>t=s/\b=(none,())/\∃done,pl=done++rest/\jA xs k done) _ ?_ ?_ _ _ ⟨rfl,rfl,[],rfl,λi J=>nomatch J⟩
  .rintro i rest b t ⟨rfl,rfl,done,f,W⟩
   obtain⟨x,c,M⟩:=P (j:=i) (by rw[f];simp)
   rw[at_ i,c]
   simp only[aax,iA]
   rw[Pf (by rw[M];simp)]
   refine O4 (VJ ho hd (O4 (kd.Zu hu (en.keys x (QF c)) RH (O4 (VJ ho hd ?_)))))
   rw[O9 (by simp)]
   by_cases z:x.1=k
   .rw[P7 z]
    simp only[if_true]
    first
     | exact O4 (Ss (Pa (Pa (q1 i x c z))))
     | exact O4 (Pa (O4 (Ss (Pa (Pa (q1 i x c z))))))
   .rw[P8 z]
    simp only[QY,if_false]
    first
     | exact O4 (Ss (Pa ⟨rfl,rfl,done++[i],by rw[f];simp,λj p y g=>(QJ.mp p).elim (λh=>W j h y g) λh=>by
       obtain rfl:j=i:=by simpa using h
       rw[c] at g;cases g;exact z⟩))
     | skip
  .rintro b t ⟨rfl,rfl,done,f,W⟩
   rw[SV] at f
   exact Pa (q0 (S (by rw[f];exact W)))
 have tell:∀{l:List D'}{Q:Bool->J'->Prop},(∀u∈l,∃G,kd.is s.heap G u)->Q false s->O7 (Pb prog w) A (tableMayTell v l) Q E s:=λ{l Q} U Z=>by
  unfold tableMayTell
  split
  .exact Pa Z
  .refine O4 (kd.quiet RH ?_)
   simp only[T',QY,if_false]
   refine O4 (Uv _ (λrest r t=>t=s/\r=(none,())/\∀u∈rest,∃G,kd.is s.heap G u) _ ?_ ?_ _ _ ⟨rfl,rfl,U⟩)
   .rintro u rest r t ⟨rfl,rfl,hr⟩
    obtain⟨G,Xk⟩:=hr u Px
    refine O4 (kd.quiet Xk ?_)
    simp only[T',QY,if_false]
    exact Pa ⟨rfl,rfl,λz hz=>hr z (PU _ hz)⟩
   .rintro r t ⟨rfl,rfl,_⟩
    exact Pa Z
 have X:¬(es.any λe=>e.key==v&&e.hash != kd.hash k)=true:=λh=>by
  obtain⟨i,J,h⟩:=Array.any_eq_true.mp h
  exact same es[i] (Array.getElem_mem J) h
 have N:pl.Nodup:=by
  rw[<-Y]
  exact(abw (n:=es.size)).sublist Wv
 rcases kd.aa4 RH with⟨i0,t0,rfl⟩|⟨a0,rfl⟩
 .unfold dictFind
  try with_reducible refine RY ?_
  refine O4 (adl ho hd ?_)
  dsimp only
  rw[Y]
  by_cases T:((R0 i0 t0::pl.filterMap λi=>es[i]?.map (·.key)).all carriedByValue)=true
  .rw[Pf T]
   exact plain
  rw[O9 T]
  by_cases L:((pl.filterMap λi=>es[i]?.map (·.key))==[R0 i0 t0])=true
  .rw[Pf L]
   refine O4 (Pa ?_)
   rw[O9 (by simp)]
   refine O4 (Uv _ (λrest b t=>t=s/\∃hit done,b=(none,hit)/\pl=done++rest/\((hit=none/\jA xs k done)\/∃j x,hit=some j/\j∈done/\xs[j]?=some x/\x.1=k)) _ ?_ ?_ _ _ ⟨rfl,none,[],rfl,rfl,.inl ⟨rfl,λi J=>nomatch J⟩⟩)
   .rintro i rest b t ⟨rfl,hit,done,rfl,f,C⟩
    obtain⟨x,c,M⟩:=P (j:=i) (by rw[f];simp)
    rw[at_ i,c]
    simp only[aax,iA]
    rw[Pf (by rw[M];simp)]
    refine O4 (VJ ho hd (O4 (kd.Zu hu (en.keys x (QF c)) RH (O4 (VJ ho hd ?_)))))
    rw[O9 (by simp)]
    by_cases z:x.1=k
    .rw[P7 z,Pf rfl]
     rcases C with⟨rfl,_⟩|⟨j,y,_,p,g,D⟩
     .rw[O9 (by simp)]
      refine O4 (Ss ?_)
      split
      .exact Pa (Pa (q1 i x c z))
      .exact Pa ⟨rfl,some i,done++[i],rfl,by rw[f];simp,.inr ⟨i,x,rfl,by simp,c,z⟩⟩
     .have e:=en.uniq g c (by rw[D,z])
      subst e
      rw[f] at N
      exact Pp rfl ((VH.mp N).2.2 j p j Px)
    .rw[P8 z,O9 (by simp)]
     refine O4 (Ss ?_)
     rw[O9 (by simp)]
     refine Pa ⟨rfl,hit,done++[i],rfl,by rw[f];simp,C.imp (λh=>⟨h.1,λj p y g=>(QJ.mp p).elim (λm=>h.2 j m y g) λm=>?_⟩) λ⟨j,y,I,F,O⟩=>⟨j,y,I,R8 _ F,O⟩⟩
     obtain rfl:j=i:=by simpa using m
     rw[c] at g
     cases g
     exact z
   .rintro b t ⟨rfl,hit,done,rfl,f,C⟩
    rw[SV] at f
    rcases C with⟨rfl,h⟩|⟨j,y,rfl,_,g,D⟩
    .exact Pa (q0 (S (by rw[f];exact h)))
    .exact Pa (q1 j y g D)
  .rw[O9 L]
   refine O4 (tell stored ?_)
   rw[O9 (by simp)]
   refine O4 (Uv _ (λrest b t=>t=s/\∃hit done,b=(none,hit)/\pl=done++rest/\((hit=none/\jA xs k done)\/∃j x,hit=some j/\j∈done/\xs[j]?=some x/\x.1=k)) _ ?_ ?_ _ _ ⟨rfl,none,[],rfl,rfl,.inl ⟨rfl,λi J=>nomatch J⟩⟩)
   .rintro i rest b t ⟨rfl,hit,done,rfl,f,C⟩
    obtain⟨x,c,M⟩:=P (j:=i) (by rw[f];simp)
    rw[at_ i,c]
    simp only[aax,iA]
    rw[Pf (by rw[M];simp)]
    refine O4 (VJ ho hd (O4 (kd.Zu hu (en.keys x (QF c)) RH (O4 (VJ ho hd ?_)))))
    rw[O9 (by simp)]
    by_cases z:x.1=k
    .rw[P7 z,Pf rfl]
     rcases C with⟨rfl,_⟩|⟨j,y,_,p,g,D⟩
     .rw[O9 (by simp)]
      refine O4 (Ss ?_)
      split
      .exact Pa (Pa (q1 i x c z))
      .exact Pa ⟨rfl,some i,done++[i],rfl,by rw[f];simp,.inr ⟨i,x,rfl,by simp,c,z⟩⟩
     .have e:=en.uniq g c (by rw[D,z])
      subst e
      rw[f] at N
      exact Pp rfl ((VH.mp N).2.2 j p j Px)
    .rw[P8 z,O9 (by simp)]
     refine O4 (Ss ?_)
     rw[O9 (by simp)]
     refine Pa ⟨rfl,hit,done++[i],rfl,by rw[f];simp,C.imp (λh=>⟨h.1,λj p y g=>(QJ.mp p).elim (λm=>h.2 j m y g) λm=>?_⟩) λ⟨j,y,I,F,O⟩=>⟨j,y,I,R8 _ F,O⟩⟩
     obtain rfl:j=i:=by simpa using m
     rw[c] at g
     cases g
     exact z
   .rintro b t ⟨rfl,hit,done,rfl,f,C⟩
    rw[SV] at f
    rcases C with⟨rfl,h⟩|⟨j,y,rfl,_,g,D⟩
    .exact Pa (q0 (S (by rw[f];exact h)))
    .exact Pa (q1 j y g D)
 .unfold dictFind
  try with_reducible refine RY ?_
  refine O4 (adl ho hd ?_)
  dsimp only
  rw[Y]
  by_cases T:((Qg a0::pl.filterMap λi=>es[i]?.map (·.key)).all carriedByValue)=true
  .rw[Pf T]
   exact plain
  rw[O9 T]
  rw[O9 X]
  by_cases L:((pl.filterMap λi=>es[i]?.map (·.key))==[Qg a0])=true
  .rw[Pf L]
   refine O4 (Pa ?_)
   rw[O9 (by simp)]
   refine O4 (Uv _ (λrest b t=>t=s/\∃hit done,b=(none,hit)/\pl=done++rest/\((hit=none/\jA xs k done)\/∃j x,hit=some j/\j∈done/\xs[j]?=some x/\x.1=k)) _ ?_ ?_ _ _ ⟨rfl,none,[],rfl,rfl,.inl ⟨rfl,λi J=>nomatch J⟩⟩)
   .rintro i rest b t ⟨rfl,hit,done,rfl,f,C⟩
    obtain⟨x,c,M⟩:=P (j:=i) (by rw[f];simp)
    rw[at_ i,c]
    simp only[aax,iA]
    rw[Pf (by rw[M];simp)]
    refine O4 (VJ ho hd (O4 (kd.Zu hu (en.keys x (QF c)) RH (O4 (VJ ho hd ?_)))))
    rw[O9 (by simp)]
    by_cases z:x.1=k
    .rw[P7 z,Pf rfl]
     rcases C with⟨rfl,_⟩|⟨j,y,_,p,g,D⟩
     .rw[O9 (by simp)]
      refine O4 (Ss ?_)
      split
      .exact Pa (Pa (q1 i x c z))
      .exact Pa ⟨rfl,some i,done++[i],rfl,by rw[f];simp,.inr ⟨i,x,rfl,by simp,c,z⟩⟩
     .have e:=en.uniq g c (by rw[D,z])
      subst e
      rw[f] at N
      exact Pp rfl ((VH.mp N).2.2 j p j Px)
    .rw[P8 z,O9 (by simp)]
     refine O4 (Ss ?_)
     rw[O9 (by simp)]
     refine Pa ⟨rfl,hit,done++[i],rfl,by rw[f];simp,C.imp (λh=>⟨h.1,λj p y g=>(QJ.mp p).elim (λm=>h.2 j m y g) λm=>?_⟩) λ⟨j,y,I,F,O⟩=>⟨j,y,I,R8 _ F,O⟩⟩
     obtain rfl:j=i:=by simpa using m
     rw[c] at g
     cases g
     exact z
   .rintro b t ⟨rfl,hit,done,rfl,f,C⟩
    rw[SV] at f
    rcases C with⟨rfl,h⟩|⟨j,y,rfl,_,g,D⟩
    .exact Pa (q0 (S (by rw[f];exact h)))
    .exact Pa (q1 j y g D)
  .rw[O9 L]
   refine O4 (tell stored ?_)
   rw[O9 (by simp)]
   refine O4 (Uv _ (λrest b t=>t=s/\∃hit done,b=(none,hit)/\pl=done++rest/\((hit=none/\jA xs k done)\/∃j x,hit=some j/\j∈done/\xs[j]?=some x/\x.1=k)) _ ?_ ?_ _ _ ⟨rfl,none,[],rfl,rfl,.inl ⟨rfl,λi J=>nomatch J⟩⟩)
   .rintro i rest b t ⟨rfl,hit,done,rfl,f,C⟩
    obtain⟨x,c,M⟩:=P (j:=i) (by rw[f];simp)
    rw[at_ i,c]
    simp only[aax,iA]
    rw[Pf (by rw[M];simp)]
    refine O4 (VJ ho hd (O4 (kd.Zu hu (en.keys x (QF c)) RH (O4 (VJ ho hd ?_)))))
    rw[O9 (by simp)]
    by_cases z:x.1=k
    .rw[P7 z,Pf rfl]
     rcases C with⟨rfl,_⟩|⟨j,y,_,p,g,D⟩
     .rw[O9 (by simp)]
      refine O4 (Ss ?_)
      split
      .exact Pa (Pa (q1 i x c z))
      .exact Pa ⟨rfl,some i,done++[i],rfl,by rw[f];simp,.inr ⟨i,x,rfl,by simp,c,z⟩⟩
     .have e:=en.uniq g c (by rw[D,z])
      subst e
      rw[f] at N
      exact Pp rfl ((VH.mp N).2.2 j p j Px)
    .rw[P8 z,O9 (by simp)]
     refine O4 (Ss ?_)
     rw[O9 (by simp)]
     refine Pa ⟨rfl,hit,done++[i],rfl,by rw[f];simp,C.imp (λh=>⟨h.1,λj p y g=>(QJ.mp p).elim (λm=>h.2 j m y g) λm=>?_⟩) λ⟨j,y,I,F,O⟩=>⟨j,y,I,R8 _ F,O⟩⟩
     obtain rfl:j=i:=by simpa using m
     rw[c] at g
     cases g
     exact z
   .rintro b t ⟨rfl,hit,done,rfl,f,C⟩
    rw[SV] at f
    rcases C with⟨rfl,h⟩|⟨j,y,rfl,_,g,D⟩
    .exact Pa (q0 (S (by rw[f];exact h)))
    .exact Pa (q1 j y g D)
theorem CZ {xs:List (κ×D'×D')}(h:∀x∈xs,x.1≠k):SU xs k=none:=by
 unfold SU;rw[aam.mpr λx b=>by simpa using h x b];rfl
theorem Vh.SU (e:Vh kd h es xs){j:Nat}(hj:xs[j]?=some x):L2.SU xs x.1=some x.2.2:=by
 unfold L2.SU;cases q:xs.find? λy=>decide (y.1=x.1) with
 | none=>exact Pp (aam.mp q x (QF hj)) (by simp)
 | some y=>
  obtain⟨i,b⟩:=aah.mp (abb q);have c:y.1=x.1:=by simpa using ady q
  have:=e.uniq b hj c;subst this;rw[b] at hj;cases hj;rfl
def iV (kd:VKd prog w κ)(h:O8)(d:f')(xs:List (κ×D'×D')):Prop:=∃o es ep,h.get? d=some o/\o.ExactDict/\o.data=.dict es ep/\Vh kd h es xs
theorem iV.type (m:iV kd s.heap d xs):s.TypeIs (.ref d) "dict":=let ⟨o,_,_,ho,hc,_⟩:=m;⟨o,ho,hc.1⟩
theorem rL (hu:kd.room A)(RH:kd.is s.heap k v)(m:iV kd s.heap d xs)(h:Q (SU xs k) { s with toks:=s.toks+kd.draws k }):
  O7 (Pb prog w) A (dictGet d v) Q E s:=by
 obtain⟨o,es,ep,c,_,hd,b⟩:=m;unfold dictGet
 try with_reducible refine RY ?_
 refine O4 (kd.hashes hu RH (O4 (o7 (s:={ s with toks:=s.toks+kd.draws k }) hu RH c hd b (λq=>?_) λj x e f=>?_)))
 .rw[CZ q] at h;exact Pa h
 .subst f;rw[b.SU e] at h;refine O4 (adl (s:={ s with toks:=s.toks+kd.draws x.1 }) c hd ?_);rw[b.get j,e];exact Pa h
theorem Ff (hu:kd.room A.in1)(RH:kd.is s.heap k v)(hd:(d==SW)=false)(m:iV kd s.heap d xs)(h:Q (.bool (!(SU xs k).isSome)) { s with toks:=s.toks+kd.draws k }):O7 (Pb prog w) A (RD .NotIn v (.ref d)) Q E s:=by
 show O7 _ _ (contains (.ref d) v >>= λb=>pure (UP (!b))) Q E s;refine O4 ?_;unfold contains
 try with_reducible refine RY ?_
 refine O4 (WJ m.type adf.lookup ?_);rw[show(some (YS "dict.__contains__")==some Ua)=false from rfl];refine O4 (wpAny_callSpecialUnlessNone?_slot (name:=TB "__contains__") m.type adf (Tc adf m.type entry_dict_contains ?_ (args_dict_contains _ _)));refine O4 (m:=dictGet d v) (rL hu RH m ?_);cases hf:SU xs k with
 | some p=>
  rw[hf] at h;exact Pa ⟨.bool true,rfl,Ut (Pa h)⟩
 | none=>
  rw[hf] at h;exact O4 (m:=Tf.Dict.pendingKey? d v) (wpAny_pendingKey_other hd (Pa ⟨.bool false,rfl,Ut (Pa h)⟩))
theorem AS (hu:kd.room A.in1)(RH:kd.is s.heap k v)(m:iV kd s.heap d xs)(hp:SU xs k=some u)(h:Q u { s with toks:=s.toks+kd.draws k }):
  O7 (Pb prog w) A (getItem (.ref d) v) Q E s:=by
 unfold getItem
 try with_reducible refine RY ?_
 refine O4 (abr m.type (by decide) (O4 (Xz (name:=TB "__getitem__") m.type slot_dict_getitem (Tc slot_dict_getitem m.type entry_dict_getitem ?_ (args_dict_getitem _ _)))));refine O4 (m:=dictGet d v) (rL hu RH m ?_);rw[hp];exact Pa ⟨u,rfl,Pa h⟩
theorem AU (hu:kd.room A.in1)(RH:kd.is s.heap k v)(m:iV kd s.heap d xs)(new:∀x∈xs,x.1≠k)(hsz:xs.length<=Pj)(hQ:∀h',iV kd h' d (xs++[(k,v,u)])->Tz d s.heap h'->Q () { s with heap:=h',toks:=s.toks+kd.draws k }):O7 (Pb prog w) A (setItem (.ref d) v u) Q E s:=by
 have ty:=m.type;obtain⟨o,es,ep,c,g,hd,f⟩:=m;have sz:=f.size;unfold setItem
 try with_reducible refine RY ?_
 refine O4 (abr ty (by decide) (O4 (Xz (name:=TB "__setitem__") ty slot_dict_setitem (Tc slot_dict_setitem ty entry_dict_setitem ?_ (args_dict_setitem _ _ _)))));refine O4 (m:=Tf.Dict.notOrdered "__setitem__" ⟨[.ref d,v,u],[]⟩) (wpAny_notOrdered_dict ty ?_);refine O4 (m:=dictSet d v u) ?_;unfold dictSet
 try with_reducible refine RY ?_
 refine O4 (kd.hashes hu RH ?_);unfold dictSetHashed
 try with_reducible refine RY ?_
 refine O4 (o7 (s:={ s with toks:=s.toks+kd.draws k }) hu RH c hd f (λ_=>?_) λj x p n=>Pp n (new x (QF p)));refine O4 (Ss (wpAny_updateDictKeys (hz:=by lia) (s:={ s with toks:=s.toks+kd.draws k }) c hd (Pa ⟨.none,rfl,Pa (hQ _ ⟨_,_,ep+1,ZG _ c (G'.isFreed_of_dict (afn hd _)),g.mapDictKeys _,afn hd _,?_,?_,?_⟩ (XB ..))⟩)))
 .simp[f.all,iA]
 .intro x hx;rcases QJ.mp hx with hx|hx
  .exact kd.keeps (f.keys x hx) c hd (XB ..)
  .obtain rfl:x=(k,v,u):=by simpa using hx
   exact kd.keeps RH c hd (XB ..)
 .rw[Rm,VH];refine⟨f.nd,by simp,λa h b l e=>?_⟩;obtain⟨x,hx,rfl⟩:=P6.mp h;obtain rfl:b=k:=by simpa using l
  exact new x hx e
end
abbrev SK:=Sum Int (List Int)
def je (h:O8)(l:List Int)(a:f'):Prop:=∃(m:Int) (ts:List Int) (b:f') (t:Tok),l=m::ts/\h.IsTuple a #[.ref b,.int m t]/\bJ h ts b
theorem je.inj (p:je h x a)(q:je h y a):x=y:=by
 obtain⟨m,ts,b,t,rfl,f,it⟩:=p;obtain⟨g,j,l,t',rfl,c,d⟩:=q;have e:=congrArg adR (pP f c);simp only[abD,Qg.injEq,R0.injEq] at e;obtain⟨rfl,⟨rfl,_⟩,_⟩:=e;rw[it.inj d]
theorem je.keeps {es ep}(p:je h x a)(ho:h.get? d=some o)(hd:o.data=.dict es ep)(hs:Tz d h h'):je h' x a:=by
 obtain⟨m,ts,b,t,e,c,it⟩:=p;exact⟨m,ts,b,t,e,kA c ho hd hs,it.keeps ho hd hs⟩
def S8 (h:O8):SK->D'->Prop
 | .inl i,v=>∃t,v=R0 i t
 | .inr l,v=>∃a,v=Qg a/\je h l a
noncomputable def AV:List Int->Int
 | []=>0
 | m::ts=>reduceHash (T2 [cM ts,hashInt m])
noncomputable def sL:SK->Int
 | .inl i=>hashInt i
 | .inr l=>AV l
noncomputable def DB:SK->Nat
 | .inl _=>1
 | .inr l=>l.length+2
theorem S8.keeps {es ep}(ho:h.get? d=some o)(hd:o.data=.dict es ep)(hs:Tz d h h'):∀{k:SK}{v:D'},S8 h k v->S8 h' k v
 | .inl _,_,p=>p
 | .inr _,_,⟨a,e,q⟩=>⟨a,e,q.keeps ho hd hs⟩
theorem S8.one:∀{k k':SK},S8 h k v->S8 h k' v->k=k'
 | .inl _,.inl _,⟨_,e⟩,⟨_,b⟩=>by subst e;cases b;rfl
 | .inl _,.inr _,⟨_,e⟩,⟨_,b,_⟩=>by subst e;cases b
 | .inr _,.inl _,⟨_,e,_⟩,⟨_,b⟩=>by subst e;cases b
 | .inr _,.inr _,⟨_,e,p⟩,⟨_,b,c⟩=>by subst e;cases b;rw[p.inj c]
theorem S8.aa4:∀{k:SK},S8 h k v->(∃i t,v=.int i t)\/∃a,v=.ref a
 | .inl i,⟨t,e⟩=>.inl ⟨i,t,e⟩
 | .inr _,⟨a,e,_⟩=>.inr ⟨a,e⟩
theorem KB (hu:A.units+1<PK)(p:je s.heap x a)(q:je s.heap y b):Uy A s (.ref a) (.ref b) (decide (x=y)):=by
 by_cases e:a=b
 .subst e;rw[p.inj q,P7 rfl];exact YJ _
 .obtain⟨m,ts,c,t,rfl,w,it⟩:=p;obtain⟨f,d,C,t',rfl,g,l⟩:=q;refine ZN e ?_;have h:=YF (A:=A) (e:=λk=>if k=0 then decide (ts=d) else decide (m=f)) w g (by lia) (λj u o=>by
   match j,u,o with
   | 0,_,_=>exact xS (A:=A.in1) hu it l
   | 1,_,_=>
    rw[O9 (by decide),<-fV];exact aak _ _ _ _
   | n+2,h,_=>exact Pp h (by simp))
  have v:((QK (min 2 2)).all (λk=>if k=0 then decide (ts=d) else decide (m=f))&&2==2)=decide (m::ts=f::d):=by
   by_cases u:ts=d <;> by_cases o:m=f <;> simp[QK,afI,u,o]
  exact v▸h
theorem eqK (hu:A.units+1<PK):∀{k k':SK},S8 s.heap k u->S8 s.heap k' v->Uy A s u v (decide (k=k'))
 | .inl i,.inl j,⟨_,e⟩,⟨_,c⟩=>by
  subst e c;have z:decide ((Ru i:SK)=Ru j)=(i==j):=by
   rw[fV]
   by_cases h:i=j
   .subst h;simp
   .simp[h]
  rw[z];exact aak _ _ _ _
 | .inl i,.inr l,⟨t,e⟩,⟨a,c,p⟩=>by
  subst e c;obtain⟨m,ts,b,t',rfl,d,_⟩:=p;exact Uy.int_tuple i t d (by lia)
 | .inr l,.inl i,⟨a,c,p⟩,⟨t,e⟩=>by
  subst e c;obtain⟨m,ts,b,t',rfl,d,_⟩:=p;exact Uy.tuple_int i t d (by lia)
 | .inr l,.inr m,⟨a,e,p⟩,⟨b,c,q⟩=>by
  subst e c;have z:decide ((WY l:SK)=WY m)=decide (l=m):=by
   by_cases h:l=m
   .subst h;simp
   .simp[h]
  rw[z];exact KB hu p q
theorem AW (hu:A.units+1<PK)(hk:je s.heap l a)(h:Q (AV l) { s with toks:=s.toks+(l.length+2) }):O7 (Pb prog w) A (pyHash (.ref a)) Q E s:=by
 obtain⟨m,ts,c,t,rfl,j,it⟩:=hk;have g:=eK j;obtain⟨o,u,v,n,hd⟩:=j;unfold pyHash
 first|unfold pyHashByItsType|skip
 first|refine O4 (wpAny_cRoomFor_or (.inr (by lia)) ?_)|skip
 refine O4 (WJ g Wx.lookup ?_);show O7 _ _ (if (some (YS "tuple.__hash__")==some Ua)=true then _ else _) Q E s;rw[O9 (by rw[beq_builtin_none];exact Rt)];refine O4 (WJ g Wx.lookup ?_);show O7 _ _ (callSpecialIfBoundUnlessNone? (.ref a) "__hash__" _ >>= _) Q E s;refine O4 (aeH g Wx (Tc Wx g F.entry_tuple_hash ?_ (F.args_tuple_hash_1 _)));show O7 _ _ (aa7 (.ref a) >>= _) _ _ s;refine O4 (wpAny_tupleItemsOf u hd ?_);refine O4 ?_;rw[<-aal];refine Uv _
  (λrest (b:Array Int) e=>(rest=[Qg c,R0 m t]/\b.toList=[]/\e=s)\/(rest=[R0 m t]/\b.toList=[cM ts]/\e={ s with toks:=s.toks+(ts.length+1) })\/(rest=[]/\b.toList=[cM ts,hashInt m]/\e={ s with toks:=s.toks+(ts.length+1)+1 }))
  _ ?_ ?_ _ _ (.inl ⟨rfl,rfl,rfl⟩)
 .rintro x rest b e (⟨hz,d,rfl⟩|⟨hz,d,rfl⟩|⟨hz,_⟩)
  .injection hz with h1 h2
   subst h1 h2;refine O4 (kB (A:=A.in1) hu it ?_)
   first
    | exact Pa (.inr (.inl ⟨rfl,by simp[d],rfl⟩))
    | exact O4 (Pa (Pa (.inr (.inl ⟨rfl,by simp[d],rfl⟩))))
  .injection hz with h1 h2
   subst h1 h2;refine O4 (adm ?_)
   first
    | exact Pa (.inr (.inr ⟨rfl,by simp[d],rfl⟩))
    | exact O4 (Pa (Pa (.inr (.inr ⟨rfl,by simp[d],rfl⟩))))
  .cases hz
 .rintro b e (⟨hz,_⟩|⟨hz,_⟩|⟨_,d,rfl⟩)
  .cases hz
  .cases hz
  .show O7 _ _ (retInt (T2 b.toList)) _ _ _;rw[d];refine wpAny_ret_mkInt ?_;show O7 _ _ (if (decide (-(2:Int) ^ 63<=T2 [cM ts,hashInt m])&&decide (T2 [cM ts,hashInt m]<2 ^ 63))=true then _ else _) Q E _;have h:Q (reduceHash (T2 [cM ts,hashInt m])) _:=h;unfold reduceHash at h;have p:s.toks+((m::ts).length+2)=s.toks+(ts.length+1)+1+1:=by rw[Q0];lia
   rw[p] at h
   by_cases f:(decide (-(2:Int) ^ 63<=T2 [cM ts,hashInt m])&&decide (T2 [cM ts,hashInt m]<2 ^ 63))=true
   .rw[Pf f];rw[Pf f] at h;exact Pa h
   .rw[O9 f];rw[O9 f] at h;exact O4 (Ss (Pa h))
theorem C0 (hu:A.units+1<PK):∀{k:SK},S8 s.heap k v->Q (sL k) { s with toks:=s.toks+DB k }->O7 (Pb prog w) A (pyHash v) Q E s
 | .inl _,⟨_,e⟩,h=>by subst e;exact adm h
 | .inr _,⟨_,e,p⟩,h=>by subst e;exact AW hu p h
theorem KC (h:Q true s):∀{k:SK},S8 s.heap k v->O7 (Pb prog w) A (eqIsQuiet 8 v) Q E s
 | .inl _,⟨_,e⟩=>by subst e;rw[adj 8 rfl];exact Pa h
 | .inr _,⟨_,e,p⟩=>by
  subst e;obtain⟨m,ts,c,t,rfl,d,it⟩:=p;refine mU 7 d (λv b f q=>?_) h;simp only[PN,UM,or_false] at b;rcases b with rfl|rfl
  .exact mV 6 it q
  .rw[adj 7 rfl];exact Pa q
noncomputable def o9 (prog)(w):VKd prog w SK where
 is:=S8
 hash:=sL
 draws:=DB
 room:=λA=>A.units+1<PK
 one:=S8.one
 aa4:=S8.aa4
 keeps:=λp ho hd hs=>p.keeps ho hd hs
 hashes:=λhu p h=>C0 hu p h
 Zu:=λhu p q h=>eqK hu p q _ _ _ _ h
 quiet:=λp h=>KC h p
def cH (K:O6)(H:Hp)(x:V):SK->Prop
 | .inl i=>x=.int i
 | .inr l=>∃(m:Int) (ts:List Int) (p b:f'),l=m::ts/\x=.ref p/\Pw K H p [.ref b,.int m]/\Pw K H b (ts.map V.int)
theorem cH.mono {K:O6}(h:ar H H'):∀{k:SK},cH K H x k->cH K H' x k
 | .inl _,p=>p
 | .inr _,⟨m,ts,p,b,e,c,q,r⟩=>⟨m,ts,p,b,e,c,(by
  rcases q with(z|⟨o,z⟩)|z
  .exact .inl (.inl (h _ _ z))
  .exact .inl (.inr ⟨o,h _ _ z⟩)
  .exact .inr z),by
  rcases r with(z|⟨o,z⟩)|z
  .exact .inl (.inl (h _ _ z))
  .exact .inl (.inr ⟨o,h _ _ z⟩)
  .exact .inr z⟩
abbrev KL:=List (SK×V×Int)
def PKL (L:KL)(xs:List (SK×D'×D')):Prop:=Pl (λ(p:SK×V×Int) (q:SK×D'×D')=>p.1=q.1/\aG p.2.1 q.2.1/\∃t,q.2.2=R0 p.2.2 t) L xs
def GO (d:f')(L:KL)(h:O8):Prop:=(d==SW)=false/\∃xs,PKL L xs/\∃o es ep,h.get? d=some o/\o.ExactDict/\o.data=.dict es ep/\es.toList=xs.map (λx=>(⟨sL x.1,x.2.1,x.2.2⟩:Rc))/\(xs.map (·.1)).Nodup
noncomputable def RL (d:f')(L:KL):HO:=.ext (GO d L)
theorem AX (x:GO d L h):bq P w H h d (RL d L):=by
 refine⟨x,?_,λc b ⟨y,xs,p,o,es,ep,e,r⟩ k=>⟨y,xs,p,o,es,ep,k _ e,r⟩⟩;obtain⟨_,_,_,o,_,_,e,_⟩:=x;exact⟨o,e⟩
noncomputable def fu (L:KL)(k:SK):Option Int:=(L.find? λe=>decide (e.1=k)).map (·.2.2)
theorem pc:∀{L:KL}{xs:List (SK×D'×D')},PKL L xs->(fu L k=none/\SU xs k=none)\/∃n t,fu L k=some n/\SU xs k=some (.int n t)
 | _,_,.nil=>.inl ⟨rfl,rfl⟩
 | e::L,x::xs,.cons r t=>by
  obtain⟨k1,j,b⟩:=e;obtain⟨k2,h,p⟩:=x;obtain⟨d,l,c,f⟩:=r;dsimp only at d l f;subst d f
  by_cases z:k1=k
  .subst z;exact .inr ⟨b,c,by simp[fu],by simp[SU]⟩
  .have m:=pc (k:=k) t;have o:fu ((k1,j,b)::L) k=fu L k:=by simp[fu,z]
   have g:SU ((k1,h,R0 b c)::xs) k=SU xs k:=by simp[SU,z]
   rw[o,g];exact m
def iW (K:O6)(H:Hp)(L:KL):Prop:=∀e∈L,cH K H e.2.1 e.1
theorem pe {σ:St}(I:Inv X aa σ H s)(r:aG x u):∀{k:SK},cH X.K H x k->S8 s.heap k u
 | .inl _,p=>by
  have p:x=_:=p;subst p;exact r
 | .inr _,p=>by
  obtain⟨m,ts,p,b,rfl,e,q,d⟩:=p;subst e;cases r;obtain⟨its,c,f,_⟩:=I.tuple q;obtain⟨n,l,rfl,j,g⟩:=c.two;cases j;obtain⟨t,rfl⟩:=g;have h:aA.rep X.K H (.ref b) ts:=⟨b,_,rfl,d,by
   clear d q f c
   induction ts with
   | nil=>exact .nil
   | cons x ts ih=>exact .cons rfl ih⟩
  exact⟨p,rfl,m,ts,b,t,rfl,f,lS I h⟩
theorem yG {σ:St}(I:Inv X aa σ H s)(e:H d=some (RL d L))(hk:iW X.K H L):(d==SW)=false/\∃xs,PKL L xs/\iV (o9 X.prog X.w) s.heap d xs:=by
 obtain⟨⟨y,xs,p,o,es,ep,v,b,f,g,u⟩,_⟩:=(show bq X.prog X.w H s.heap d (RL d L) from I.Pn d _ e)
 refine⟨y,xs,p,o,es,ep,v,b,f,g,?_,u⟩;intro x m;obtain⟨j,A⟩:=aah.mp m;obtain⟨l,c,n,h,_⟩:=fc (F:=λ(p:SK×V×Int) (q:SK×D'×D')=>p.1=q.1/\aG p.2.1 q.2.1/\∃t,q.2.2=R0 p.2.2 t) p A;have:=pe I h (hk l (QF c));rw[n] at this;exact this
def qo (K:O6):R2:=λx y H Q=>∃d L k,y=.ref d/\H d=some (RL d L)/\iW K H L/\cH K H x k/\Q (.bl (!(fu L k).isSome)) H
theorem rM (hu:X.A.units+2<PK):Qy X (RD .NotIn) (qo X.K):=by
 intro aa s m H x y v u Q I g f h;obtain⟨d,L,k,rfl,e,l,j,q⟩:=h;cases f;obtain⟨hd,xs,p,dd⟩:=yG I e l;refine Ff (kd:=o9 X.prog X.w) (by show X.A.units+1+1<PK;lia) (pe I g j) hd dd ⟨.bl (!(fu L k).isSome),H,I.tok _,?_,q⟩;show _=UP _;rcases pc (k:=k) p with⟨c,b⟩|⟨n,t,c,b⟩
 .rw[c,b];rfl
 .rw[c,b];rfl
def KD (K:O6)(td ty:TE):TE:=λσ H Q=>td σ H λx H1=>ty σ H1 λy H2=>∃d L k n,x=.ref d/\H2 d=some (RL d L)/\iW K H2 L/\cH K H2 y k/\fu L k=some n/\Q (.int n) H2
theorem wU (hu:X.A.units+2<PK)(ho:PE X o td)(hi:PE X i ty)(hs:xR i):PE X (.Subscript o i pos) (KD X.K td ty):=by
 intro aa s g H Q I h;refine pO acP.lookup hs (Pm (ho aa s g H _ I h) λu s1 ⟨x,E,l,F,D⟩=>Pm (hi aa s1 g E _ l D) λM s2 ⟨y,m,c,C,d,L,k,n,ex,e,J,G,b,v⟩=>?_);subst ex;cases F;obtain⟨hd,xs,p,dd⟩:=yG c e J;refine⟨dd.type,?_⟩;rcases pc (k:=k) p with⟨f,j⟩|⟨N,t,f,j⟩
 .rw[f] at b;cases b
 .rw[f] at b;cases b;exact AS (kd:=o9 X.prog X.w) (by show X.A.units+1+1<PK;lia) (pe c C G) dd j ⟨.int n,m,c.tok _,⟨t,rfl⟩,v⟩
def KF (K:O6)(td ty tv:TE):TS:=λD σ H=>tv σ H λv H1=>td σ H1 λx H2=>ty σ H2 λy H3=>∃d L k n,v=.int n/\x=.ref d/\H3 d=some (RL d L)/\iW K H3 L/\cH K H3 y k/\fu L k=none/\L.length<Pj/\
 D.nx σ (upd H3 d (RL d (L++[(k,y,n)])))
theorem Fh (hu:X.A.units+2<PK)(ho:PE X o td)(hi:PE X i ty)(hv:PE X value tv)(hs:swapsWith value (some (.Subscript o i pos')) pos.line X.env=pure false):
  PS X (.Assign [.Subscript o i pos'] value pos) (KF X.K td ty tv):=by
 intro aa s c H D I h;refine acX (Pm (hv aa s c H _ I h) λr s1 ⟨v,H1,N,R,Y⟩=>Pm (ho aa s1 c H1 _ N Y) λu s2 ⟨x,P,S,rx,T⟩=>Pm (hi aa s2 c P _ S T) λiv s3 ⟨y,H3,m,C,d,L,k,n,ev,ex,e,hk,l,E,hl,W⟩=>?_) hs;subst ev ex;obtain⟨t,rfl⟩:=R;cases rx;obtain⟨hd,xs,p,dd⟩:=yG m e hk;have new:∀x∈xs,x.1≠k:=λx hx z=>by
  obtain⟨j,J⟩:=aah.mp hx;obtain⟨_,_,_,_,_,_,U⟩:=dd;have f:=U.SU J;rw[z] at f;rcases pc (k:=k) p with⟨_,z3⟩|⟨n',t',z1,_⟩
  .rw[z3] at f;cases f
  .rw[z1] at E;cases E
 refine AU (kd:=o9 X.prog X.w) (by show X.A.units+1+1<PK;lia) (pe m C l) dd new (by rw[<-ZX p];lia) λh' O g=>⟨c,_,?_,W⟩
 obtain⟨M,es,ep,F,G,Q,Z,_,e5⟩:=O;refine m.write (x:=d) (e:=d) (by rw[e];exact SG) (.inl rfl) (λb q l z=>(g.2 b l).trans z) ⟨_,F⟩ (AX ⟨hd,_,ck p (.cons ⟨rfl,C,t,rfl⟩ .nil),M,es,ep,F,G,Q,Z,e5⟩)
end L2
namespace Bk
theorem pf {S:Type}[DecidableEq S]{g:S->GP S->Nat×GP S}{d:Int×S}:∀(ds:List (Int×S)) (p:GP S),aD g (ds++[d]) p=(if (g d.2 (aD g ds p).2).1=0 then (aD g ds p).1 else (aD g ds p).1++[(d.1,((g d.2 (aD g ds p).2).1:Int))],(g d.2 (aD g ds p).2).2)
 | [],p=>by
  show aD g [d] p=_;unfold aD aD;dsimp only
  by_cases h:(g d.2 p).1=0
  .rw[Pf h];simp[aD,h]
  .rw[O9 h];simp[aD,h]
 | e::ds,p=>by
  rw[List.cons_append];unfold aD;rw[pf ds];dsimp only
  by_cases h:(g d.2 (aD g ds (g e.2 p).2).2).1=0 <;> by_cases b:(g e.2 p).1=0 <;> simp[h,b]
theorem rN {S:Type}[DecidableEq S]{g:S->GP S->Nat×GP S}:∀(a b:List (Int×S)) (p:GP S),(aD g (a++b) p).2=(aD g b (aD g a p).2).2
 | [],_,_=>rfl
 | d::a,b,p=>rN a b (g d.2 p).2
theorem yH {S:Type}[DecidableEq S]{Pe:S->List (Int×S)}{n:Nat}{ds:List (Int×S)}{p:GP S}(i:Nat):(aD (aL Pe n) (ds.take i) p).2.1.length<=(aD (aL Pe n) ds p).2.1.length/\(aD (aL Pe n) (ds.take i) p).2.2.length<=(aD (aL Pe n) ds p).2.2.length:=by
 have e:=rN (g:=aL Pe n) (ds.take i) (ds.drop i) p;rw[Wr] at e;rw[e];have h:=iU (u4 (Pe:=Pe) n) (ds.drop i) (aD (aL Pe n) (ds.take i) p).2;exact⟨h.1.length_le,h.2.length_le⟩
theorem rO {S:Type}[DecidableEq S]{g:S->GP S->Nat×GP S}:∀(ds:List (Int×S)) (p:GP S),(aD g ds p).1.length<=ds.length
 | [],_=>Po _
 | d::ds,p=>by
  have:=rO (g:=g) ds (g d.2 p).2;unfold aD;dsimp only
  split
  .simp;lia
  .simp;lia
end Bk
namespace Ord
open PySem L2 Mx
noncomputable abbrev mv:Pc:=top 33
noncomputable abbrev ph:Pc:=top 32
def bF (as:List f')(H H':Hp):Prop:=∀b o,b∉as->H b=some o->H' b=some o
def dD (H:Hp)(as:List f'):Prop:=∀a∈as,∃o,H a=some o/\fq o
theorem bF.refl:bF as H H:=λ_ _ _ e=>e
theorem bF.trans (s:bF as H H')(s':bF as H' SM):bF as H SM:=λb o h e=>s' b o h (s b o h e)
theorem bF.wide (s:bF as H H')(h:∀a∈as,a∈bs):bF bs H H':=λb o n e=>s b o (λz=>n (h b z)) e
theorem bF.ofS (s:du lr dn H H'):bF [lr,dn] H H':=λb o n e=>s b o (λz=>n (by simp[z])) (λz=>n (by simp[z])) e
theorem bF.RR (s:bF as H H')(so:dD H as)(h:Pw K H a xs):Pw K H' a xs:=by
 rcases h with(h|⟨o,h⟩)|h
 .exact .inl (.inl (s _ _ (λz=>by obtain⟨u,e,f⟩:=so _ z;rw[h] at e;cases e;exact f) h))
 .exact .inl (.inr ⟨o,s _ _ (λz=>by obtain⟨u,e,f⟩:=so _ z;rw[h] at e;cases e;exact f) h⟩)
 .exact .inr h
theorem bF.sk (s:bF as H H')(so:dD H as):∀{k:SK},cH K H y k->cH K H' y k
 | .inl _,h=>h
 | .inr _,h=>by
  obtain⟨m,ts,p,b,e,c,q,r⟩:=h;exact⟨m,ts,p,b,e,c,s.RR so q,s.RR so r⟩
theorem bF.door (s:bF as H H')(so:dD H as)(h:cy K H y d):cy K H' y d:=let ⟨p,e,q⟩:=h;⟨p,e,s.RR so q⟩
theorem bF.base (s:bF as H H')(s0:ar H0 H)(h:∀a∈as,H0 a=none):ar H0 H':=λb o e=>s b o (λz=>by rw[h b z] at e;cases e) (s0 b o e)
structure TX (K)(H)(dk:f')(kn):Prop where
 ex:∃L:KL,H dk=some (RL dk L)/\iW K H L/\Pl (λ(e:SK×V×Int) (p:SK×Nat)=>e.1=p.1/\e.2.2=(p.2:Int)) L kn
theorem lw:∀{L:KL}{kn:List (SK×Nat)},Pl (λ(e:SK×V×Int) (p:SK×Nat)=>e.1=p.1/\e.2.2=(p.2:Int)) L kn->fu L s=(Bk.cm kn s).map λn=>(n:Int)
 | _,_,.nil=>rfl
 | e::L,p::kn,.cons r t=>by
  obtain⟨k1,f,h⟩:=e;obtain⟨k2,g⟩:=p;obtain⟨d,b⟩:=r;dsimp only at d b;subst d b
  by_cases z:k1=s
  .subst z;simp[fu,Bk.cm]
  .have c:=lw (s:=s) t;simp only[fu,Bk.cm] at c ⊢;rw[YC (by simpa using z),YC (by simpa using z)];exact c
def ly (K:O6)(H:Hp)(y:V)(d:Int×SK):Prop:=∃p lv,y=.ref p/\Pw K H p [.int d.1,lv]/\cH K H lv d.2
theorem ly.same (s:ar H H')(h:ly K H y d):ly K H' y d:=let ⟨p,lv,e,q,r⟩:=h;⟨p,lv,e,s.Qh q,r.mono s⟩
theorem TX.same (s:ar H H')(h:TX K H dk kn):TX K H' dk kn:=let ⟨L,e,k,p⟩:=h.ex;⟨L,s _ _ e,λx b=>(k x b).mono s,p⟩
theorem TX.aej (s:bF as H H')(so:dD H as)(n:dk∉as)(h:TX K H dk kn):TX K H' dk kn:=let ⟨L,e,k,p⟩:=h.ex;⟨L,s _ _ n e,λx b=>s.sk so (k x b),p⟩
theorem R5.aco (h:R5 K C H x lr dn rs):dD H [lr,dn]:=by
 obtain⟨j,xs,L,g,b,f,c,d,e⟩:=h.ex;intro a ha;rcases PN.mp ha with rfl|ha
 .exact⟨_,b,trivial⟩
 .obtain rfl:a=dn:=by simpa using ha
  exact⟨_,c,trivial⟩
theorem TX.af4 (h:TX K H dk kn):∃o,H dk=some o/\fq o:=let ⟨_,e,_⟩:=h.ex;⟨_,e,trivial⟩
def mw (K:O6)(H0:Hp)(Pe:SK->List (Int×SK))(good:SK->Prop):Sp:=λvs H Q _=>∃(v:V) (s:SK),vs=[v]/\ar H0 H/\cH K H v s/\good s/\¬Bk.SB s/\∀(l:f') (ys:List V) (H':Hp),ar H H'->H l=none->H' l=some (.lst ys)->Pl (ly K H') ys (Pe s)->Q (.ref l) H'
def pi (K:O6)(C:f')(H0:Hp)(fl:f')(Pe:SK->List (Int×SK))(os:SK->Bk.ak)(QD:SK->Nat)(good:SK->Prop)(n:Nat):Sp:=λvs H Q _=>∃(x lr dn dk:f') (v:V) (s:SK) (rs:List Bk.O5) (kn:List (SK×Nat)),
 vs=[.ref x,v,.ref fl,.ref dk]/\R5 K C H x lr dn rs/\TX K H dk kn/\cH K H v s/\ar H0 H/\H0 lr=none/\H0 dn=none/\H0 dk=none/\dk≠dn/\good s/\(Bk.SB s\/QD s<=n)/\Bk.Uf os Bk.SB good rs kn/\
 (Bk.aL Pe n s (rs,kn)).2.1.length<1000/\(Bk.aL Pe n s (rs,kn)).2.2.length<100000/\
 ∀H',bF [lr,dn,dk] H H'->R5 K C H' x lr dn (Bk.aL Pe n s (rs,kn)).2.1->TX K H' dk (Bk.aL Pe n s (rs,kn)).2.2->Q (.int ((Bk.aL Pe n s (rs,kn)).1:Nat)) H'
noncomputable abbrev DC:List N':=["shelf","state","doors_from","known","doors","thing","later","number"]
theorem lz:Qc DC ["shelf","state","doors_from","known"] (ap mv):={}
theorem rP {os:SK->Bk.ak}(W:Bk.Way Pe os QD Bk.SB good)(hs:good s)(ht:¬Bk.SB s)(hl:QD s<=n+1)(M:Bk.Uf os Bk.SB good p.1 p.2)(ds:List (Int×SK))(hd:∀d∈ds,d∈Pe s):
  Bk.Uf os Bk.SB good (Bk.aD (Bk.aL Pe n) ds p).2.1 (Bk.aD (Bk.aL Pe n) ds p).2.2/\(Bk.cm p.2 s=none->Bk.cm (Bk.aD (Bk.aL Pe n) ds p).2.2 s=none):=by
 have l:=W.pos s hs ht;obtain⟨m,hm⟩:∃m,QD s=m+1:=⟨QD s-1,by lia⟩
 obtain⟨G,_⟩:=Bk.ny W hs ht hm (g:=Bk.aL Pe n) (λd hd p M=>by
  obtain⟨g',b⟩:=W.down s hs ht d hd;exact Bk.wL W n d.2 p m g' (b.imp id λh=>by lia) (b.imp id λh=>by lia) M) ds p hd M
 refine⟨G.memo,λe=>?_⟩;obtain⟨more,c,f⟩:=G.add;rw[c];exact Bk.rD e λx j z=>by
  have:=(f x j).2.1;rw[z] at this;lia
theorem va {P:Pk}{w:Pd}{K:O6}{mg:N'->Option D'}{base:O8}{CO:f'}{C:f'}{Pe:SK->List (Int×SK)}{os:SK->Bk.ak}{QD:SK->Nat}{good:SK->Prop}{f fk fl:f'}{fd TV U4:PD}{ol:G'}{H0:Hp}{kl:Nat}{xl:N'}(W:Bk.Way Pe os QD Bk.SB good)(X3:∀s,(Pe s).length<=8)(F:PR K "grow" "grow" mv f fd)(T:Qj K mg CO)(c:Vr K C)(mk:W' K C "keep" fk)(Fk:Py P w K mg base Ph 1 fk TV ["self","room"] (jw K C))(bk:bK K TV ["self","room"] [])(FL:Py P w K mg base Ph kl fl U4 [xl] (mw K H0 Pe good))(Vp:base.get? fl=some ol)(Xs:ol.data=.func U4)(bl:∀us:List D',us.length=[xl].length->bindArgs U4 ⟨us,[]⟩=pure ([xl].zip us))(n:Nat)(WS:∀m,n=m+1->Df P w K mg base Ph (m+kl+2) "grow" ["shelf","state","doors_from","known"] (pi K C H0 fl Pe os QD good m)):Py P w K mg base Ph (n+kl+2) f fd ["shelf","state","doors_from","known"] (pi K C H0 fl Pe os QD good n):=by
 refine F.ok lz (λvs H Q E h=>?_) (λPi A outer s H vs Q E hr h=>?_)
 .obtain⟨x,G,I,dk,v,st,rs,j,rfl,_⟩:=h;rfl
 obtain⟨x,G,I,dk,v,st,rs,j,rfl,S,KA,rv,s0,f1,f2,f3,kdn,gd,lv,M,R,X4,z⟩:=h;obtain⟨t0,m0⟩:=T.no;obtain⟨L,Tu,Zm,pk⟩:=KA.ex;have vk:=lw (s:=st) pk;have hu:(dI Ph P w K mg base DC "grow" (ap mv) f Pi A outer s H E).Sg.A.units+2<PK:=by have:=hr.un;show(A.deeper _).units+2<PK;lia
 cases ek:Bk.cm j st with
 | some k=>
  have eg:Bk.aL Pe n st (rs,j)=(k,(rs,j)):=by
   cases n with
   | zero=>unfold Bk.aL;dsimp only;rw[ek];rfl
   | succ n=>unfold Bk.aL;dsimp only;rw[ek]
  rw[eg] at z;refine⟨_,ae (aY (aP (show Qy _ _ (qo K) from rM hu) (pv 1) (pv 3) rfl) (ae aM (ae aM (ai aM))) aI) (ai (aH (wU hu (pv 3) (pv 1) (λ_ _=>rfl)))),?_⟩;refine⟨_,rfl,_,rfl,dk,L,st,rfl,Tu,Zm,rv,_,rfl,?_⟩;rw[vk,ek];exact ba ⟨_,rfl,_,rfl,dk,L,st,_,rfl,Tu,Zm,rv,by rw[vk,ek];rfl,z H bF.refl S KA⟩
 | none=>
  have ht:¬Bk.SB st:=λt=>by
   have:=M.ends st gd t;rw[ek] at this;cases this
  have hle:=lv.resolve_left ht;have UW:=W.pos st gd ht;cases n with
  | zero=>lia
  | succ n=>
  have D:=WS n rfl;have eg:Bk.aL Pe (n+1) st (rs,j)=if (Bk.aD (Bk.aL Pe n) (Pe st) (rs,j)).1=[] then (0,((Bk.aD (Bk.aL Pe n) (Pe st) (rs,j)).2.1,(Bk.aD (Bk.aL Pe n) (Pe st) (rs,j)).2.2++[(st,0)]))
    else ((Bk.keep (Bk.aD (Bk.aL Pe n) (Pe st) (rs,j)).2.1 (Bk.aD (Bk.aL Pe n) (Pe st) (rs,j)).1).1,((Bk.keep (Bk.aD (Bk.aL Pe n) (Pe st) (rs,j)).2.1 (Bk.aD (Bk.aL Pe n) (Pe st) (rs,j)).1).2,(Bk.aD (Bk.aL Pe n) (Pe st) (rs,j)).2.2++[(st,(Bk.keep (Bk.aD (Bk.aL Pe n) (Pe st) (rs,j)).2.1 (Bk.aD (Bk.aL Pe n) (Pe st) (rs,j)).1).1)])):=by
   rw[Bk.aL];dsimp only;rw[ek]
  have b12:(Bk.aD (Bk.aL Pe n) (Pe st) (rs,j)).2.1.length<1000/\(Bk.aD (Bk.aL Pe n) (Pe st) (rs,j)).2.2.length<100000:=by
   rw[eg] at R X4
   split at R
   .rename_i hz;rw[Pf hz] at X4;dsimp only at R X4;rw[QI] at X4;exact⟨R,by lia⟩
   .rename_i hz;rw[O9 hz] at X4;dsimp only at R X4;rw[QI] at X4;have:=(Bk.gf (Bk.aD (Bk.aL Pe n) (Pe st) (rs,j)).2.1 (Bk.aD (Bk.aL Pe n) (Pe st) (rs,j)).1).length_le;exact⟨by lia,by lia⟩
  refine⟨_,ae (aY (aP (show Qy _ _ (qo K) from rM hu) (pv 1) (pv 3) rfl)
   (ae (ay (i:=4) lz.nd rfl (lc rfl) (bf ad))
   (ae (bL RB rfl (cf (CY (i:=2) FL (hr.mono (by lia)) Vp Xs rfl (by first|exact PB rfl|exact Ve (PB rfl)) bl pS (ac (pv 1) ad)))
     (sV rfl (fR (bw (i:=5) lz.nd rfl (lc rfl)) (fR (bw (i:=6) lz.nd rfl (lc rfl)) pE)))
    (ae (ay (i:=7) lz.nd rfl (lc rfl) (az D (hr.mono (by lia)) rfl pS (ac (pv 0) (ac (pv 6) (ac (pv 2) (ac (pv 3) ad))))))
    (ai (aY (aP iI (pv 7) (aR (v:=.int 0) rfl m0 ⟨t0,rfl⟩) (aW _))
     (ai (bA (dJ T4 VC VD cN (pv 4) (ac (cz (ac (pv 5) (ac (pv 7) ad))) ad)))) aI))))
   (ai (Fh hu (pv 3) (pv 1) (sS (aP xy (aB aN rfl T.t.len bN (ac (pv 4) ad)) ao (aW _))
    (vN (pv 0) c.cls mk Fk (hr.mono (by lia)) bk .nil sr (ac (aV cW rfl T.t.tuple cw (ac (pv 4) ad)) ad)) (aR (v:=.int 0) rfl m0 ⟨t0,rfl⟩)) rfl)))) aI)
   (ai (aH (wU hu (pv 3) (pv 1) (λ_ _=>rfl)))),?_⟩
  refine⟨_,rfl,_,rfl,dk,L,st,rfl,Tu,Zm,rv,_,rfl,?_⟩;rw[vk,ek];refine bn ⟨by show 0<=Pj;decide,λg hg=>?_⟩;have s1:=af hg (.lst []);refine⟨rfl,_,rfl,v,st,rfl,s0.trans s1,rv.mono s1,gd,ht,λl ys Hd sd hl hly pd=>?_⟩;have U:=s1.trans sd;obtain⟨dx,rx,NL,hx,QC,prs,QR,ag0,nl⟩:=S.ex;have ng:∀a o,H a=some o->a≠g:=λa o e=>au e hg;have Zl:∀a o,H a=some o->a≠l:=λa o e=>au (s1 _ _ e) hl;have gl:g≠l:=au ag hl;have hgd:Hd g=some (.lst []):=sd _ _ ag;have dl:=pd.length;have d8:=X3 st;refine⟨l,rfl,⟨_,Pg.of hly⟩,cP (K:=K) (a:=l) (xs:=ys) (λi σ O=>∃v5 v6 v7 ds,σ=[some (.ref x),some v,some (.ref fl),some (.ref dk),some (.ref g),v5,v6,v7]/\bF [G,I,dk,g] Hd O/\O g=some (.lst ds)/\Pl (cy K O) ds (Bk.aD (Bk.aL Pe n) ((Pe st).take i) (rs,j)).1/\
   R5 K C O x G I (Bk.aD (Bk.aL Pe n) ((Pe st).take i) (rs,j)).2.1/\TX K O dk (Bk.aD (Bk.aL Pe n) ((Pe st).take i) (rs,j)).2.2) ⟨none,none,none,[],rfl,bF.refl,hgd,.nil,S.same U,KA.same U⟩ ?_ ?_ ?_⟩
  .rintro i σ O _ ⟨v5,v6,v7,ds,rfl,s2,_⟩;refine Pg.of (s2 _ _ ?_ hly);intro z;simp only[PN,UM,or_false] at z;rcases z with z|z|z|z
   .exact Zl G _ QC z.symm
   .exact Zl I _ QR z.symm
   .exact Zl dk _ Tu z.symm
   .exact gl z.symm
  .rintro i y σ O hy ⟨v5,v6,v7,ds,rfl,s2,hg2,Zw,S2,K2⟩;obtain⟨⟨t,X⟩,hd,p,lvv,rfl,qd,rl⟩:=bS pd hy;have mem:=QF hd;obtain⟨g',l'⟩:=W.down st gd ht _ mem;have aa5:dD Hd [G,I,dk,g]:=λa N=>by
    simp only[PN,UM,or_false] at N;rcases N with rfl|rfl|rfl|rfl
    .exact⟨_,U _ _ QC,trivial⟩
    .exact⟨_,U _ _ QR,trivial⟩
    .exact⟨_,U _ _ Tu,trivial⟩
    .exact⟨_,hgd,trivial⟩
   have qd2:Pw K O p [.int t,lvv]:=s2.RR aa5 qd;have rl2:cH K O lvv X:=s2.sk aa5 rl;obtain⟨M2,_⟩:=rP W (n:=n) (p:=(rs,j)) gd ht hle M ((Pe st).take i) (λd hd=>ac5 hd);have sn:=Bk.pf (g:=Bk.aL Pe n) (d:=(t,X)) ((Pe st).take i) (rs,j);rw[<-bC hd] at sn;have tk:=Bk.yH (Pe:=Pe) (n:=n) (ds:=Pe st) (p:=(rs,j)) (i+1);rw[sn] at tk;dsimp only at tk;have s02:ar H0 O:=s2.base (s0.trans U) λa N=>by
    simp only[PN,UM,or_false] at N;rcases N with rfl|rfl|rfl|rfl
    .exact f1
    .exact f2
    .exact f3
    .exact s0.free hg
   refine⟨p,_,rfl,qd2,rfl,_,_,rfl,_,_,rfl,rfl,?_⟩;refine⟨_,rfl,_,rfl,_,rfl,_,rfl,x,G,I,dk,lvv,X,_,_,rfl,S2,K2,rl2,s02,f1,f2,f3,kdn,g',l'.imp id (λh=>by dsimp only at h;lia),M2,(show(Bk.aL Pe n X (Bk.aD (Bk.aL Pe n) ((Pe st).take i) (rs,j)).2).2.1.length<1000 by lia),(show(Bk.aL Pe n X (Bk.aD (Bk.aL Pe n) ((Pe st).take i) (rs,j)).2).2.2.length<100000 by lia),λH5 s5 S5 K5=>?_⟩;have so2:dD O [G,I,dk]:=λa N=>by
    simp only[PN,UM,or_false] at N;rcases N with rfl|rfl|rfl
    .exact S2.aco _ (by simp)
    .exact S2.aco _ (by simp)
    .exact K2.af4
   have ngs:g∉[G,I,dk]:=λz=>by
    simp only[PN,UM,or_false] at z;rcases z with z|z|z
    .exact ng G _ QC z.symm
    .exact ng I _ QR z.symm
    .exact ng dk _ Tu z.symm
   have Zx:H5 g=some (.lst ds):=s5 _ _ ngs hg2;have aeF:=aJ (λ_ _ z=>s5.door so2 z) Zw;refine⟨_,rfl,rfl,_,rfl,?_⟩
   by_cases zr:(Bk.aL Pe n X (Bk.aD (Bk.aL Pe n) ((Pe st).take i) (rs,j)).2).1=0
   .rw[zr];refine ba ⟨_,_,_,ds,rfl,s2.trans (s5.wide (by simp)),Zx,?_,?_,?_⟩
    .rw[sn,Pf zr];exact aeF
    .rw[sn];exact S5
    .rw[sn];exact K5
   .rw[P8 (λh=>zr (by have e:((Bk.aL Pe n X (Bk.aD (Bk.aL Pe n) ((Pe st).take i) (rs,j)).2).1:Int)=0:=V.int.inj h;lia))];refine bn ⟨_,rfl,.inl ⟨rfl,_,.inl (.inl Zx)⟩,_,rfl,_,rfl,by show 2<=Pj;decide,λtq Zn=>?_⟩;have s6:=af Zn (.tup [V.int t,V.int ((Bk.aL Pe n X (Bk.aD (Bk.aL Pe n) ((Pe st).take i) (rs,j)).2).1:Nat)]);have lds:ds.length<=8:=by
     have h1:=Zw.length;have h2:=Bk.rO (g:=Bk.aL Pe n) ((Pe st).take i) (rs,j);rw[RW] at h2;lia
    refine⟨g,ds,.ref tq,rfl,rfl,s6 _ _ Zx,by rw[PY];lia,_,_,_,ds++[.ref tq],rfl,?_,ag,?_,?_,?_⟩
    .intro b o u e;rw[aq (λz=>u (by simp[z]))];exact s6 _ _ (s5 _ _ (λz=>u (by simp only[PN] at z ⊢;rcases z with z|z|z|z <;> simp_all)) (s2 b o u e))
    .have s7:bF [g] (upd H5 tq (.tup [V.int t,V.int ((Bk.aL Pe n X (Bk.aD (Bk.aL Pe n) ((Pe st).take i) (rs,j)).2).1:Nat)])) (upd (upd H5 tq (.tup [V.int t,V.int ((Bk.aL Pe n X (Bk.aD (Bk.aL Pe n) ((Pe st).take i) (rs,j)).2).1:Nat)])) g (.lst (ds++[.ref tq]))):=λb o u e=>by
      rw[aq (λz=>u (by simp[z]))];exact e
     have Zy:dD (upd H5 tq (.tup [V.int t,V.int ((Bk.aL Pe n X (Bk.aD (Bk.aL Pe n) ((Pe st).take i) (rs,j)).2).1:Nat)])) [g]:=λa N=>by
      obtain rfl:a=g:=by simpa using N
      exact⟨_,s6 _ _ Zx,trivial⟩
     rw[sn,O9 zr];exact ck (aJ (λ_ _ z=>s7.door Zy (z.same s6)) aeF) (.cons ⟨tq,rfl,s7.RR Zy Pw.up⟩ .nil)
    .rw[sn];exact(S5.same s6).upd (s6 _ _ Zx) trivial (ng x _ hx) (ng G _ QC) (ng I _ QR)
    .rw[sn];refine(K5.same s6).aej (as:=[g]) (λb o u e=>?_) (λa N=>?_) (λz=>ng dk _ Tu (by simpa using z))
     .rw[aq (λz=>u (by simp[z]))];exact e
     .obtain rfl:a=g:=by simpa using N
      exact⟨_,s6 _ _ Zx,trivial⟩
  .rintro σ O ⟨v5,v6,v7,ds,rfl,s2,hg2,Zw,S2,K2⟩;rw[dl,SD] at Zw S2 K2;obtain⟨_,Y⟩:=rP W (n:=n) (p:=(rs,j)) gd ht hle M (Pe st) (λd hd=>hd);have Y:=Y ek;obtain⟨L2',ag1,agQ,pk2⟩:=K2.ex;have aa5:dD Hd [G,I,dk,g]:=λa N=>by
    simp only[PN,UM,or_false] at N;rcases N with rfl|rfl|rfl|rfl
    .exact⟨_,U _ _ QC,trivial⟩
    .exact⟨_,U _ _ QR,trivial⟩
    .exact⟨_,U _ _ Tu,trivial⟩
    .exact⟨_,hgd,trivial⟩
   have rv2:cH K O v st:=s2.sk aa5 (rv.mono U);have kl:L2'.length<Pj:=by have:=pk2.length;rw[PY];lia
   have v2:=lw (s:=st) pk2;rw[Y] at v2;have sH2:∀b o,b∉[G,I,dk]->H b=some o->O b=some o:=λb o u e=>s2 b o (λz=>by
    simp only[PN,UM,or_false] at z u;rcases z with z|z|z|z
    .exact u (.inl z)
    .exact u (.inr (.inl z))
    .exact u (.inr (.inr z))
    .exact ng b o e z) (U b o e)
   have dkl:dk≠G:=lG Tu QC (by intro h;cases h);have fin:∀(J:Hp) (k:Nat) (rs6:List Bk.O5),(∀b o,b∉[G,I,dk]->H b=some o->J b=some o)->R5 K C J x G I rs6->TX K J dk (Bk.aD (Bk.aL Pe n) (Pe st) (rs,j)).2.2->cH K J v st->
     (∀H',bF [G,I,dk] H H'->R5 K C H' x G I rs6->TX K H' dk ((Bk.aD (Bk.aL Pe n) (Pe st) (rs,j)).2.2++[(st,k)])->Q (.int (k:Nat)) H')->
     ∃d L Z n',V.int (k:Int)=V.int n'/\V.ref dk=V.ref d/\J d=some (RL d L)/\iW K J L/\cH K J v Z/\fu L Z=none/\L.length<Pj/\
      ∃d2 L2 k2 n2,V.ref dk=V.ref d2/\(upd J d (RL d (L++[(Z,v,n')]))) d2=some (RL d2 L2)/\iW K (upd J d (RL d (L++[(Z,v,n')]))) L2/\cH K (upd J d (RL d (L++[(Z,v,n')]))) v k2/\fu L2 k2=some n2/\Q (.int n2) (upd J d (RL d (L++[(Z,v,n')]))):=by
    intro J k rs6 s6 S6 K6 r6 hz;obtain⟨L6,h1,h2,h3⟩:=K6.ex;have v6:=lw (s:=st) h3;rw[Y] at v6;have s7:bF [dk] J (upd J dk (RL dk (L6++[(st,v,(k:Int))]))):=λb o u e=>by
     rw[aq (λz=>u (by simp[z]))];exact e
    have Zy:dD J [dk]:=λa N=>by
     obtain rfl:a=dk:=by simpa using N
     exact⟨_,h1,trivial⟩
    have keys:iW K (upd J dk (RL dk (L6++[(st,v,(k:Int))]))) (L6++[(st,v,(k:Int))]):=λe he=>by
     rcases QJ.mp he with he|he
     .exact s7.sk Zy (h2 e he)
     .obtain rfl:e=(st,v,(k:Int)):=by simpa using he
      exact s7.sk Zy r6
    have p7:=ck h3 (.cons (F:=λ(e:SK×V×Int) (p:SK×Nat)=>e.1=p.1/\e.2.2=(p.2:Int)) (a:=(st,v,(k:Int))) (b:=(st,k)) ⟨rfl,rfl⟩ .nil);have v7:=lw (s:=st) p7;rw[Bk.nv Y] at v7;obtain⟨dx6,x6,N6,g1,g2,g3,g4,g5,g6⟩:=S6.ex;refine⟨dk,L6,st,k,rfl,rfl,h1,h2,r6,v6,by have:=h3.length;rw[PY];lia,dk,_,st,k,rfl,ag,keys,s7.sk Zy r6,v7,hz _ (λb o u e=>?_) ?_ ⟨_,ag,keys,p7⟩⟩
    .rw[aq (λz=>u (by simp[z]))];exact s6 b o u e
    .exact S6.upd h1 trivial (lG g1 h1 (by intro h;cases h)) (Qi dkl) (Qi kdn)
   refine⟨_,rfl,g,ds,rfl,.inl (Pg.of hg2),_,0,rfl,rfl,_,rfl,?_⟩;have dl2:=Zw.length
   by_cases hz:(Bk.aD (Bk.aL Pe n) (Pe st) (rs,j)).1=[]
   .rw[eg,Pf hz] at z;rw[hz] at dl2;rw[P8 (by rw[dl2];decide)];refine ba ?_;obtain⟨d,L,Z,n',e1,e2,r1,r2,r3,r4,r5,q⟩:=fin O 0 _ sH2 S2 K2 rv2 z;exact⟨_,rfl,_,rfl,d,L,Z,n',e1,e2,r1,r2,r3,r4,r5,_,rfl,_,rfl,q⟩
   .rw[eg,O9 hz] at z;have ag2:0<ds.length:=by rw[dl2];exact Wu.mpr hz
    rw[P7 (by lia)];obtain⟨dx2,x2,N2,Zf,aew,_,ψ,_⟩:=S2.ex;refine bn ⟨_,rfl,x,dx2,_,rfl,Zf,rfl,_,rfl,g,ds,rfl,.inl ⟨Pg.of hg2,λr0 Ra=>?_⟩⟩;have s3:=af Ra (.tup ds);refine⟨x,G,I,_,.ref r0,_,rfl,S2.same s3,⟨r0,ds,rfl,Pw.up,aJ (λ_ _ z=>z.same s3) Zw⟩,by lia,λJ s6 S6=>?_⟩;have so3:dD (upd O r0 (.tup ds)) [G,I]:=(S2.same s3).aco;obtain⟨d,L,Z,n',e1,e2,r1,r2,r3,r4,r5,q⟩:=fin J _ _ (λb o u e=>s6 b o (λz=>u (by simp[z])) (λz=>u (by simp[z])) (s3 b o (sH2 b o u e))) S6 ((K2.same s3).aej (bF.ofS s6) so3 (λz=>by
     simp only[PN,UM,or_false] at z;exact z.elim dkl kdn)) ((bF.ofS s6).sk so3 (rv2.mono s3)) z
    exact⟨_,rfl,_,rfl,d,L,Z,n',e1,e2,r1,r2,r3,r4,r5,_,rfl,_,rfl,q⟩
theorem wV {os:SK->Bk.ak}(W:Bk.Way Pe os QD Bk.SB good)(X3:∀s,(Pe s).length<=8)(F:PR K "grow" "grow" mv f fd)(T:Qj K mg CO)(c:Vr K C)(mk:W' K C "keep" fk)(Fk:Py P w K mg base Ph 1 fk TV ["self","room"] (jw K C))(bk:bK K TV ["self","room"] [])(FL:Py P w K mg base Ph kl fl U4 [xl] (mw K H0 Pe good))(Vp:base.get? fl=some ol)(Xs:ol.data=.func U4)(bl:∀us:List D',us.length=[xl].length->bindArgs U4 ⟨us,[]⟩=pure ([xl].zip us))(b:bK K fd ["shelf","state","doors_from","known"] [])(m:mg "grow"=some (.ref f)):∀n,Py P w K mg base Ph (n+kl+2) f fd ["shelf","state","doors_from","known"] (pi K C H0 fl Pe os QD good n)
 | 0=>va W X3 F T c mk Fk bk FL Vp Xs bl 0 λm h=>nomatch h
 | n+1=>va W X3 F T c mk Fk bk FL Vp Xs bl (n+1) λk h=>by
  cases h;exact⟨f,fd,wV W X3 F T c mk Fk bk FL Vp Xs bl b m n,b,F.kp,m⟩
end Ord
namespace L2
open PySem PySem.Spec PyProof.Rows
noncomputable abbrev Vx (l:List (Int×Int)):List (Key×V):=l.map λp=>(.inl p.1,.int p.2)
noncomputable abbrev Wa (l:List (Int×Int)):KL:=l.map λp=>(.inl p.1,.int p.1,p.2)
theorem vb:∀{l:List (Int×Int)}{vs:List (Key×D')}{es:List Rc},KV (Vx l) vs->Pairs (bu P w) es vs->(∀e∈es,∃k,iG k e.key=true/\e.hash=FE w k)->
  ∃xs,PKL (Wa l) xs/\es=xs.map (λx=>(⟨sL x.1,x.2.1,x.2.2⟩:Rc))/\xs.map (·.1)=l.map λp=>Ru p.1
 | [],vs,es,r,p,h=>by
  rw[show Vx []=[] from rfl] at r;cases r;cases p;exact⟨[],.nil,rfl,rfl⟩
 | (i,j)::l,vs,es,r,p,h=>by
  rw[show Vx ((i,j)::l)=(.inl i,.int j)::Vx l from rfl] at r;cases r with
  | @cons _ b _ bs r1 r2=>
   obtain⟨k0,A⟩:=b;obtain⟨d,t,c⟩:=r1;dsimp only at d c;subst d c;cases p with
   | @cons e _ es _ q1 q2 q3=>
    obtain⟨xs,n,u,s⟩:=vb r2 q3 λe o=>h e (PU _ o);obtain⟨k,y,f⟩:=h e Px;have g:k=.inl i:=(bu P w).inj e.key k (.inl i) y q1;subst g;obtain⟨t',m⟩:=afC (k:=i) (v:=e.key) q1;refine⟨(.inl i,e.key,e.val)::xs,.cons ⟨rfl,⟨t',m⟩,t,q2⟩ n,?_,by rw[Qr,s,Qr]⟩;rw[Qr,<-u]
    congr 1
    obtain⟨d,c,C⟩:=e;dsimp only at f;subst f;rfl
theorem Inv.toK {σ:St}(I:Inv X aa σ H s)(e:H a=some (.dK (Vx l))):Inv X aa σ (upd H a (RL a (Wa l))) s:=by
 obtain⟨z,hd,vs,rel,o,es,ep,d,j,A,f,n,c⟩:=lQ I.Pn e;obtain⟨xs,g,v,t⟩:=vb (P:=X.prog) (w:=X.w) rel n λe m=>f e (ac3.mp m);have y:(xs.map (·.1)).Nodup:=by
  rw[t];have:vs.map (·.1)=(l.map λp=>Ru p.1):=by
   have:∀{l:List (Int×Int)}{vs:List (Key×D')},KV (Vx l) vs->vs.map (·.1)=l.map λp=>Ru p.1:=by
    intro l
    induction l with
    | nil=>intro vs r;rw[show Vx []=[] from rfl] at r;cases r;rfl
    | cons p l ih=>
     intro vs r;rw[show Vx (p::l)=(.inl p.1,.int p.2)::Vx l from rfl] at r;cases r with
     | cons r1 r2=>rw[Qr,ih r2,Qr,<-r1.1]
   exact this rel
  rw[this] at c;unfold aaJ at c ⊢;rw[VE] at c ⊢;exact c.imp λh q=>h (by injection q with q;rw[q])
 exact I.write (x:=a) (e:=a) (h':=s.heap) (t':=s.toks) (o:=RL a (Wa l)) (by rw[e];exact SG) (.inl rfl) (λb u _ q=>q) ⟨o,d⟩ (AX ⟨hd,xs,g,o,es,ep,d,j,A,v,y⟩)
theorem GQ (h:PE X e t):PE X e (λσ H Q=>t σ H λv H2=>∃p l,v=.ref p/\H2 p=some (.dK (Vx l))/\Q v (upd H2 p (RL p (Wa l)))):=by
 intro aa s σ H Q I b;refine Pm (h aa s σ H _ I b) λu s1 ⟨v,f,c,r,p,l,ev,d,q⟩=>?_;exact⟨v,_,c.toK d,r,q⟩
end L2
namespace Ord
open PySem L2 Mx
def wW (K:O6)(H0:Hp)(fl:f')(Pe:SK->List (Int×SK))(QD:SK->Nat)(good:SK->Prop)(n:Nat):Sp:=λvs H Q _=>∃(many:Int) (v:V) (s:SK),vs=[.int many,v,.ref fl]/\cH K H v s/\ar H0 H/\good s/\(Bk.SB s\/QD s<=n)/\(Bk.jW Pe n s).1.length<1000/\
 ∀(t lr:f') (H':Hp),ar H H'->XV K H H' t lr many (Bk.jW Pe n s).1 (Bk.jW Pe n s).2->Q (.ref t) H'
theorem qt:Qc ["many","state","doors_from","shelf","first"] ["many","state","doors_from"] (ap ph):={}
theorem C1 {P:Pk}{w:Pd}{K:O6}{mg:N'->Option D'}{base:O8}{CO:f'}{C:f'}{Pe:SK->List (Int×SK)}{os:SK->Bk.ak}{QD:SK->Nat}{good:SK->Prop}{f fi fl:f'}{fd Xn:PD}{H0:Hp}{kl n:Nat}(n5:n<=5)(h0:os (.inl 0)=[])(h1:os (.inl 1)=[[]])(hgd:∀k,good (.inl k)->k=0\/k=1)(X3:∀s,(Pe s).length<=8)(F:PR K "grown" "grown" ph f fd)(T:Qj K mg CO)(c:Vr K C)(M:Mk K C fi)(Fi:Py P w K mg base Ph 1 fi Xn ["self"] (oO K C))(bi:bK K Xn ["self"] [])(mC:mg "Shelf"=some (.ref C))(WS:Df P w K mg base Ph (n+kl+2) "grow" ["shelf","state","doors_from","known"] (pi K C H0 fl Pe os QD good n)):Py P w K mg base Ph (n+kl+3) f fd ["many","state","doors_from"] (wW K H0 fl Pe QD good n):=by
 refine F.ok qt (λvs H Q E h=>?_) (λPi A outer s H vs Q E Y h=>?_)
 .obtain⟨many,v,st,rfl,_⟩:=h;rfl
 obtain⟨many,v,st,rfl,rv,s0,gd,lv,Qk,z⟩:=h;obtain⟨t0,R⟩:=T.no;obtain⟨Z,m1⟩:=T.en;refine⟨_,ae (ay (i:=3) qt.nd rfl (PB rfl) (tu M Fi (Y.mono (by lia)) rfl mC bi .nil sr))
  (ae (ay (i:=4) qt.nd rfl (PB rfl) (az WS (Y.mono (by lia)) rfl pS (ac (pv 3) (ac (pv 1) (ac (pv 2) (ac (GQ (vW (jI (aR (v:=.int 0) rfl R ⟨t0,rfl⟩) (aR (v:=.int 0) rfl R ⟨t0,rfl⟩) (jI (aR (v:=.int 1) rfl m1 ⟨Z,rfl⟩) (aR (v:=.int 1) rfl m1 ⟨Z,rfl⟩) vV)) rfl rfl (by decide) (by decide))) ad))))))
  (ai (aH (cz (ac (pv 0) (ac (hG (pv 3) rfl) (ac (pv 4) ad))))))),?_⟩
 intro x O d o I;have u1:=af o (.own x);have Yj:(upd H O (.own x)) x=none:=by rw[aq (Qi I)];exact d
 have u2:=af Yj (.ins C O []);have s3:=u1.trans u2;refine⟨x,O,rfl,ag,λj W m QC QR keep S=>⟨rfl,?_⟩⟩;have s4:ar H m:=λb u q=>keep b u (au q d) (s3 b u q);have L:H j=none:=s3.free QC;have g:H W=none:=s3.free QR;refine⟨_,rfl,_,rfl,_,rfl,λdk l=>?_⟩;refine⟨ag,[(.inl 0,.int 0),(.inl 1,.int 1)],rfl,by decide,dk,[(0,0),(1,1)],rfl,?_,?_⟩
 .rw[ag];rfl
 have u5:upd (upd (upd m dk (.dK [])) dk (.dK (gw [] [(.inl 0,.int 0),(.inl 1,.int 1)]))) dk (RL dk (Wa [(0,0),(1,1)]))=upd m dk (RL dk (Wa [(0,0),(1,1)])):=by rw[vK,vK]
 rw[u5];have s5:=af l (RL dk (Wa [(0,0),(1,1)]));have KA:TX K (upd m dk (RL dk (Wa [(0,0),(1,1)]))) dk Bk.Vv:=⟨Wa [(0,0),(1,1)],ag,λe he=>by
  rcases PN.mp he with rfl|he
  .rfl
  .obtain rfl:=Qw.mp he;rfl,.cons ⟨rfl,rfl⟩ (.cons ⟨rfl,rfl⟩ .nil)⟩
 have fw:=(Bk.u6 X3 n st ([],Bk.Vv)).2;have p9:9 ^ n<=9 ^ 5:=ZI (by lia) n5;have Xv:=s4.trans s5;obtain⟨_,_,NL,_,aex,_,N,_⟩:=S.ex;refine⟨x,j,W,dk,v,st,[],Bk.Vv,rfl,S.same s5,KA,rv.mono Xv,s0.trans Xv,s0.free L,s0.free g,s0.free (s4.free l),(λe=>by rw[e,N] at l;cases l),gd,lv,Bk.Dz h0 h1 hgd,Qk,?_,λH6 s6 S6 _=>?_⟩
 .have:(Bk.Vv).length=2:=rfl;dsimp only at fw;lia
 obtain⟨J,G,L6,p,y,D,_⟩:=S6.ex;refine⟨_,rfl,_,rfl,x,C,J,_,.ref j,rfl,p,c.cls,c.rooms,rfl,_,rfl,by show 3<=Pj;decide,λt U=>?_⟩;have s7:=af U (.tup [V.int many,V.ref j,V.int (((Bk.aL Pe n st ([],Bk.Vv)).1:Nat):Int)]);have s8:ar H H6:=s6.base Xv λa X=>by
  simp only[PN,UM,or_false] at X;rcases X with rfl|rfl|rfl
  .exact L
  .exact g
  .exact s4.free l
 exact z t j _ (s8.trans s7) ⟨s8.free U,L,ag,G,s7 _ _ y,aJ (λ_ _ z=>z.same s7) D⟩
noncomputable abbrev qu:Pc:=top 43
noncomputable abbrev mx:Pc:=top 44
def nG (K:O6):Sp:=λvs H Q _=>∃(b:f') (ts:List Int) (m:Nat),vs=[.ref b,.int m]/\Pw K H b (ts.map V.int)/\∀v H',ar H H'->cH K H' v (Bk.U3 ts m)->Q v H'
theorem C2:Qc ["things","marks"] ["things","marks"] (ap qu):={}
theorem AY (F:PR K "state_of_marks" "state_of_marks" qu f fd)(T:Qj K mg CO):Py P w K mg base Ph 1 f fd ["things","marks"] (nG K):=by
 refine F.ok C2 (λvs H Q E h=>?_) (λu A outer s H vs Q E x h=>?_)
 .obtain⟨b,ts,m,rfl,_⟩:=h;rfl
 obtain⟨b,ts,m,rfl,d,z⟩:=h;obtain⟨n,g⟩:=T.no;obtain⟨l,o⟩:=T.en;refine⟨_,ae (aY (aP cY (pv 1) ao (aW _)) (ai (aH (aR (v:=.int 0) rfl g ⟨n,rfl⟩))) aI)
  (ae (aY (aP cY (aB aN rfl T.t.len bN (ac (pv 0) ad)) ao (aW _)) (ai (aH (aR (v:=.int 1) rfl o ⟨l,rfl⟩))) aI)
  (ai (aH (cz (ac (pv 0) (ac (pv 1) ad)))))),?_⟩
 refine⟨_,rfl,rfl,_,rfl,?_⟩;unfold Bk.U3 at z
 by_cases h0:m=0
 .subst h0;rw[Pf rfl] at z;exact bn (z _ _ (ar.refl H) rfl)
 rw[O9 h0] at z;rw[P8 (show ¬V.int (m:Int)=V.int 0 from λe=>h0 (by have:=V.int.inj e;lia))];refine ba ⟨_,rfl,b,_,rfl,.inr d,rfl,_,rfl,?_⟩
 by_cases c:ts=[]
 .subst c;rw[Pf rfl] at z;exact bn (z _ _ (ar.refl H) rfl)
 rw[O9 c] at z;rw[P8 (show ¬V.int ((ts.map V.int).length:Int)=V.int 0 from λe=>by
  have:=V.int.inj e;rw[PP] at this;exact c (U9.mp (by lia)))]
 refine ba ⟨_,rfl,_,rfl,by show 2<=Pj;decide,λp j=>?_⟩;have s1:=af j (.tup [V.ref b,V.int (m:Int)]);exact z _ _ s1 ⟨m,ts,p,b,rfl,rfl,Pw.up,s1.Qh d⟩
theorem fv:Qc ["state","things","rows","found","rank","thing","marks"] ["state"] (ap mx):={}
theorem AZ (F:PR K "doors_of_marks" "doors_of_marks" mx f fd)(T:Qj K mg CO)(WW:Df P w K mg base Ph 1 "ways" ["many"] jz)(WM:Df P w K mg base Ph 1 "state_of_marks" ["things","marks"] (nG K)):Py P w K mg base Ph 2 f fd ["state"] (mw K H0 Bk.jZ Bk.gN):=by
 refine F.ok fv (λvs H Q E h=>?_) (λPi A outer s H vs Q E hr h=>?_)
 .obtain⟨v,st,rfl,_⟩:=h;rfl
 obtain⟨v,st,rfl,s0,X,gd,nt,z⟩:=h;rw[Bk.gW gd] at z;obtain⟨m,ts,rfl,ne,g⟩:∃(m:Nat) (ts:List Int),st=.inr ((m:Int)::ts)/\ts≠[]/\Bk.XW ts m:=by
  match st,gd,nt with
  | .inl k,_,G=>exact Pp trivial G
  | .inr _,⟨m,ts,rfl,h⟩,_=>exact⟨m,ts,rfl,h⟩
 obtain⟨m',Zv,p,b,e,rfl,qp,J⟩:=X;simp only[abD] at e;obtain⟨rfl,rfl⟩:=e;refine⟨_,ae (ay (i:=1) fv.nd rfl (PB rfl) (bj cZ (pv 0) ao (λ_ _=>rfl)))
  (ae (ay (i:=2) fv.nd rfl (PB rfl) (az WW hr rfl pS (ac (av bM (aB aN rfl T.t.len bN (ac (pv 1) ad)) ao) ad)))
  (ae (ay (i:=3) fv.nd rfl (PB rfl) (bf ad))
  (ae (bL RB rfl (Eo rfl T.t.enum (ac (pv 1) ad)) (sV rfl (fR (bw (i:=4) fv.nd rfl (PB rfl)) (fR (bw (i:=5) fv.nd rfl (PB rfl)) pE)))
   (ae (ay (i:=6) fv.nd rfl (PB rfl) (av kb (av sZ (bj cZ (pv 0) ao (λ_ _=>rfl)) (av e8 (pv 4) (pv 2))) (av bM (av gY ao (pv 2)) ao)))
   (ai (bA (dJ T4 VC VD cN (pv 3) (ac (cz (ac (pv 5) (ac
    (az WM hr rfl pS (ac (av wG (fe wT (pv 1) fT (fU (pv 4))) (fe wT (pv 1) (fU (av bT (pv 4) ao)) fT)) (ac (pv 6) ad))) ad))) ad))))))
  (ai (aH (pv 3)))))),?_⟩
 have t8:ts.length<=8:=Bk.nB (lo:=0) g.Rs λx Z=>by have:=g.UG x Z;lia
 have t1:1<=ts.length:=Wu.mpr ne;have tl:ts.length-1<=8:=by lia
 have el:((ts.map V.int).length:Int)-1=((ts.length-1:Nat):Int):=by rw[PP];lia
 have f8:=fI _ tl;have nd:ts.Nodup:=g.Rs.imp λh e=>by lia
 refine⟨_,rfl,p,_,0,.ref b,rfl,rfl,qp,rfl,_,rfl,b,_,rfl,.inr J,_,_,rfl,rfl,ts.length-1,congrArg (λi=>[V.int i]) el,tl,by show 0<=Pj;lia,λl S=>?_⟩;have s1:=af S (.lst []);refine⟨_,rfl,b,rfl,⟨_,s1.Qh J⟩,BO (K:=K) (a:=b) (xs:=ts.map V.int) (λi O j=>∃(C:List V) (Y R U:Option V),O=[some (.ref p),some (.ref b),some (.int (Bk.Pt (ts.length-1):Nat)),some (.ref l),Y,R,U]/\ar H j/\j l=some (.lst C)/\Pl (ly K j) C ((Bk.iw (.inr ((m:Int)::ts))).take i))
  ⟨[],none,none,none,rfl,s1,ag,.nil⟩ (λi O j _ ⟨_,_,_,_,_,s4,_⟩=>s4.Qh J) ?_ ?_⟩
 .rintro i x O j q Z ⟨C,Y,R,U,rfl,s2,D,I⟩ hq;obtain⟨t,rfl,G⟩:=gS Z;have il:=(QE.mp G).1;have L:=af hq (.tup [V.int (i:Int),V.int t]);have s3:=s2.trans L;obtain⟨ee,ei⟩:=Bk.rK nd G;have pl:=I.length;have em:((i:Nat):Int)*((Bk.Pt (ts.length-1):Nat):Int)=((i*Bk.Pt (ts.length-1):Nat):Int):=(VI _ _).symm;refine⟨q,[V.int (i:Int),V.int t],rfl,Pw.up,rfl,_,_,rfl,_,_,rfl,rfl,?_⟩;refine⟨_,rfl,p,_,1,.int m,rfl,rfl,s3.Qh qp,rfl,_,rfl,_,rfl,_,_,rfl,rfl,.inl ⟨by lia,by lia⟩,_,_,rfl,rfl,?_,_,rfl,_,_,rfl,rfl,⟨by lia,by lia,by decide⟩,_,_,rfl,rfl,_,_,rfl,rfl,?_⟩
  .show(0:Int)<=((i:Nat):Int)*((Bk.Pt (ts.length-1):Nat):Int);rw[em];lia
  have eV:UO ((m:Int) / 2 ^ (((i:Nat):Int)*((Bk.Pt (ts.length-1):Nat):Int)).toNat) (1*2 ^ ((Bk.Pt (ts.length-1):Nat):Int).toNat-1)=((Bk.jX ts m t:Nat):Int):=by
   have e1:(m:Int) / 2 ^ (((i:Nat):Int)*((Bk.Pt (ts.length-1):Nat):Int)).toNat=((m >>> (i*Bk.Pt (ts.length-1)):Nat):Int):=by
    rw[em,Rb,abc];simp
   have e2:(1:Int)*2 ^ ((Bk.Pt (ts.length-1):Nat):Int).toNat-1=((2 ^ Bk.Pt (ts.length-1)-1:Nat):Int):=by
    have:=ade (n:=Bk.Pt (ts.length-1));rw[Rb,ad1,abC this];simp
   rw[e1,e2];unfold Bk.jX;rw[ei];rfl
  have xl:(ts.map V.int).length=ts.length:=PP _;refine⟨_,rfl,.inl ⟨rfl,_,Pg.of (L _ _ D)⟩,_,rfl,_,rfl,_,rfl,_,rfl,b,_,rfl,s3.Qh J,λc1 H3 s4 q1=>?_⟩;refine⟨_,rfl,_,rfl,_,_,rfl,rfl,_,rfl,b,_,rfl,s4.Qh (s3.Qh J),λc2 H4 s5 q2=>?_⟩;have s6:=s4.trans s5;refine⟨c1,c2,_,_,rfl,rfl,s5.Qh q1,q2,?_,λr H5 s7 q3=>?_⟩
  .have:=gp (ts.map V.int) none (some (i:Int));have:=gp (ts.map V.int) (some ((i:Int)+1)) none;rw[PY];rw[xl] at *;lia
  have e3:cj (ts.map V.int) none (some (i:Int))++cj (ts.map V.int) (some ((i:Int)+1)) none=(ts.erase t).map V.int:=by
   rw[show((i:Int)+1)=(((i+1:Nat)):Int) by simp,lg,qf,<-List.map_take,<-List.map_drop,<-Rm,ee]
  rw[e3] at q3;have s8:=s6.trans s7;refine⟨_,rfl,r,ts.erase t,Bk.jX ts m t,congrArg (λv=>[V.ref r,V.int v]) eV,q3,λv W s9 X=>?_⟩;refine⟨by show 2<=Pj;decide,λc hc=>?_⟩;have TY:=af hc (.tup [V.int t,v]);have Wb:=((L.trans s8).trans s9).trans TY;refine⟨l,_,_,rfl,rfl,Wb _ _ D,?_,?_⟩
  .have:((Bk.iw (.inr ((m:Int)::ts))).take i).length<=i:=by rw[RW];lia
   rw[pl,PY];lia
  have lc:c≠l:=λe=>by
   have:=(L.trans s8 |>.trans s9) _ _ D;rw[<-e,hc] at this;cases this
  refine⟨_,_,_,_,rfl,λb u q=>?_,ag,?_⟩
  .rw[aq (au q S)];exact Wb _ _ (s2 _ _ q)
  have M:bF [l] (upd W c (.tup [V.int t,v])) (upd (upd W c (.tup [V.int t,v])) l (.lst (C++[V.ref c]))):=λb o n q=>by
   rw[aq (λe=>n (by simp[e]))];exact q
  have N:dD (upd W c (.tup [V.int t,v])) [l]:=λa ha=>by
   obtain rfl:=Qw.mp ha;exact⟨_,Wb _ _ D,trivial⟩
  have e4:(Bk.iw (.inr ((m:Int)::ts))).take (i+1)=(Bk.iw (.inr ((m:Int)::ts))).take i++[(t,Bk.U3 (ts.erase t) (Bk.jX ts m t))]:=by
   refine bC ?_;show(ts.map _)[i]?=_;rw[Q6,G,Rb];rfl
  rw[e4];refine ck (aJ (λy d h=>?_) I) (.cons ⟨c,v,rfl,M.RR N Pw.up,M.sk N (X.mono TY)⟩ .nil);obtain⟨p',lv,e,q',r'⟩:=h.same Wb;exact⟨p',lv,e,M.RR N q',M.sk N r'⟩
 .rintro O j ⟨C,Y,R,U,rfl,s2,D,I⟩;have e:((Bk.iw (.inr ((m:Int)::ts))).take (ts.map V.int).length)=Bk.iw (.inr ((m:Int)::ts)):=Wp (by show(ts.map _).length<=_;rw[PP,PP];exact Po _);rw[e] at I;exact⟨_,rfl,z l C j s2 S D I⟩
end Ord
namespace Bk
open Mx
theorem wX {m:Nat}:∀(k:Nat) (o:List Int),o.length=k->o.Nodup->(∀x∈o,0<=x/\x<(m:Int))->o∈jR m k
 | 0,o,h,_,_=>by
  rw[U9.mp h];exact abg _
 | k+1,o,h,c,b=>by
  rcases List.eq_nil_or_concat o with rfl|⟨i,t,rfl⟩
  .cases h
  .rw[List.concat_eq_append] at *;rw[QI] at h;rw[VH] at c;have d:=wX k i (by simp at h;exact h) c.1 λx e=>b x (R8 _ e);show i++[t]∈ext m (jR m k);refine RP.mpr ⟨i,d,P6.mpr ⟨t,So.mpr ⟨br.mpr (b t (by simp)),?_⟩,rfl⟩⟩;have:t∉i:=λz=>c.2.2 t z t (by simp) rfl;simpa using this
theorem qv (p:o.Perm (aw m)):o∈aK m:=
 wX m o (by rw[p.length_eq,bc]) (p.nodup_iff.mpr (gM m)) λx b=>br.mp (p.mem_iff.mp b)
theorem gD:∀{os:ak},(aF many os).testBit i=true↔∃o∈os,(aK many).idxOf o=i
 | []=>by
  show Nat.testBit 0 i=true↔_;rw[ZT];constructor
  .intro h;cases h
  .rintro⟨_,h,_⟩;cases h
 | o::os=>by
  show(gr many o ||| aF many os).testBit i=true↔_;unfold gr;rw[YQ,ZK,aft,gD (os:=os),decide_eq_true_iff];constructor
  .rintro(h|⟨b,h,e⟩)
   .exact⟨o,Px,h⟩
   .exact⟨b,PU _ h,e⟩
  .rintro⟨b,h,e⟩;rcases PN.mp h with rfl|h
   .exact .inl e
   .exact .inr ⟨b,h,e⟩
theorem yI (h:∀o,o∈a↔o∈b):aF many a=aF many b:=by
 refine ZJ λi=>?_;rw[Wz,gD,gD];exact⟨λ⟨o,p,e⟩=>⟨o,(h o).mp p,e⟩,λ⟨o,p,e⟩=>⟨o,(h o).mpr p,e⟩⟩
theorem Fj (hr:r∈aK many)(e:(aK many).idxOf o=(aK many).idxOf r):o=r:=by
 have l:=Yy hr;have c:(aK many).idxOf o<(aK many).length:=e▸l;have a:=aan l;have b:=aan c;rw[<-a,<-b]
 congr 1
theorem vc (m1:1<=many)(m5:many<=5):r∈aK many↔fO (aw many) r:=⟨λh=>(iP m1 m5 h).symm,λh=>qv h⟩
theorem vd (m1:1<=many)(m4:many<=4)(h:∀o∈os,o∈aK many):aF many os<2 ^ Pt many:=by
 rw[nz m1 m4 h];exact yz (bc many) λr b=>(vc m1 (by lia)).mp (h r b)
theorem pj (m1:1<=many)(m4:many<=4)(h:∀o∈os,o∈aK many):XW (aw many) (aF many os) where
 Rs:=by
  have:∀m∈[1,2,3,4],(aw m).Pairwise (· < ·):=by decide
  exact this many (in4 m1 m4)
 UG:=λt b=>by have:=br.mp b;lia
 lt:=by rw[bc];exact vd m1 m4 h
theorem yJ (m1:1<=many)(m4:many<=4)(h:∀o∈os,o∈aK many):et (Xq (aw many) (aF many os)) os:=λr=>by
 rw[gj,<-vc m1 (by lia)];constructor
 .rintro⟨b,c⟩;rw[u3 many (in4 m1 m4) r b] at c;obtain⟨o,d,e⟩:=gD.mp c;rw[<-Fj b e];exact d
 .intro b;refine⟨h r b,?_⟩;rw[u3 many (in4 m1 m4) r (h r b)];exact gD.mpr ⟨r,b,rfl⟩
theorem A0 (m4:many<=4)(S:Qn many os):jW jZ many (U3 (aw many) (aF many os))=if os=[] then ([],0) else ((lay many os []).2,(lay many os []).1):=by
 have g:=pj S.m1 m4 S.mem;obtain⟨b,c,f⟩:=oY g;refine AL (many:=many) GL rfl rfl (λk h=>h) b (f.imp id λe=>by rw[e,bc];exact Po _) (λo=>(c o).symm.trans (yJ S.m1 m4 S.mem o)) λo d=>(ir S.m1 S.m5 (S.mem o d)).1
end Bk
namespace L2
open PySem PySem.Spec PyProof.Rows
theorem C3 {n:Nat}(hh:A.handled=none)(hr:ζ s.heap r a b c t u v)(VT:XC a b c=true)(hn:Wn a b c=n)(hlen:n<=2 ^ 24)(hS:s.heap.get? S=some { cls:=.type "list",data:=.seq ([]:List D').toArray })(hR:∀(h':O8) (tk:Nat) (QZ:Array D') (c':Nat),(∀b o,b≠S->s.heap.get? b=some o->h'.get? b=some o)->h'.get? S=some { cls:=.type "list",dict:=none,data:=.seq QZ c',slots:=#[] }->
   YY (λi v=>∃t,v=.int (a+i*c) t) QZ n->R (.ok (.ret (.ref S))) { s with heap:=h',toks:=tk }):
  O7 (Pb prog w) A.in1 (Tf.«list.__iadd__» ⟨[.ref S,.ref r],[]⟩)
   (λfin s'=>match fin with | .done f=>R (.ok f) s' | .again c'=>c'.quiet=true/\codeAny (Pb prog w) A c' R s') (λe s'=>R (.error e) s') s:=by
 show O7 _ A.in1 (acJ (.ref S) (.ref r) (.ref S)) _ _ _;exact wpAny_extend_range (A:=A) hh hr VT hn hlen S (.ref S) 0 hS hR
theorem A2 {n:Nat}(hh:A.handled=none)(hr:ζ s.heap r a b c t u v)(VT:XC a b c=true)(hn:Wn a b c=n)(hlen:n<=2 ^ 24)(hS:s.heap.get? S=some { cls:=.type "list",data:=.seq ([]:List D').toArray })(hR:∀(h':O8) (tk:Nat) (QZ:Array D') (c':Nat),(∀b o,b≠S->s.heap.get? b=some o->h'.get? b=some o)->h'.get? S=some { cls:=.type "list",dict:=none,data:=.seq QZ c',slots:=#[] }->
   YY (λi v=>∃t,v=.int (a+i*c) t) QZ n->R (.ok (.ret (.ref S))) { s with heap:=h',toks:=tk }):
  codeAny (Pb prog w) A (.builtin "list.__iadd__" ⟨[.ref S,.ref r],[]⟩) R s:=by
 refine UN F.entry_list_iadd ?_;rw[XA F.plain_list_iadd _];exact C3 hh hr VT hn hlen hS hR
theorem vI {a b c:Int}{n:Nat}(hh:A.handled=none)(hr:ζ s.heap r a b c t u v)(VT:XC a b c=true)(hn:Wn a b c=n)(hlen:n<=2 ^ 24)(hQ:∀(h':O8) (tk:Nat) (acc:Array D'),(∀b o,s.heap.get? b=some o->h'.get? b=some o)->s.heap.objs.size<=h'.objs.size->YY (λi v=>∃t,v=.int (a+i*c) t) acc n->Q acc.toList { s with heap:=h',toks:=tk }):
  O7 (Pb prog w) A (collect (.ref r)) Q E s:=by
 unfold collect;refine O4 (abH (UN F.entry_proto_collect ?_));rw[XA F.plain_proto_collect _];show O7 _ A.in1 (newList [] >>= λl=>again (.builtin "list.__iadd__" ⟨[l,.ref r],[]⟩)) _ _ s;refine O4 (Uu ?_);have j:(s.heap.push { cls:=.type "list",data:=.seq ([]:List D').toArray }).get? s.heap.objs.size=some { cls:=.type "list",data:=.seq ([]:List D').toArray }:=QX _ rfl;refine Pa ⟨aaC F.plain_list_iadd _,A2 hh (show ζ (s.heap.push _) r a b c t u v from Qe _ hr) VT hn hlen j λh' tk f m g d h=>?_⟩;show O7 _ A (load s.heap.objs.size >>= _) _ _ _;refine O4 (ab2 d ?_);exact Pa (hQ h' tk f (λb o e=>g b o (Qs (P5 e)) (Qe _ e)) (XH (P5 d)) h)
theorem qw {a b c:Int}{n:Nat}(hh:A.handled=none)(hr:ζ s.heap r a b c t u v)(VT:XC a b c=true)(hn:Wn a b c=n)(hlen:n<=2 ^ 24)(hsz:n<=Pj)(h:∀(h':O8) (tk:Nat) (acc:Array D'),(∀b o,s.heap.get? b=some o->h'.get? b=some o)->s.heap.objs.size<=h'.objs.size->YY (λi v=>∃t,v=.int (a+i*c) t) acc n->Q₁ (.ref h'.objs.size) { s with heap:=h'.push { cls:=.type "tuple",data:=.seq acc },toks:=tk }):
  codeAny (Pb prog w) A (.call (.builtin "tuple.__new__") ⟨[.type "tuple",.ref r],[]⟩) (wants Q₁ E) s:=by
 refine adA ?_;show O7 _ A.in1 (do checkBuiltinCall "tuple.__new__" ⟨[.type "tuple",.ref r],[]⟩;again (.builtin "tuple.__new__" ⟨[.type "tuple",.ref r],[]⟩)) _ _ s;refine O4 (abX (F.newCall_tuple_1 _) (Pa ⟨aaC F.plain_tuple_new _,UN F.entry_tuple_new ?_⟩));rw[XA F.plain_tuple_new _];have g:=sub_tuple_self;have j:=init_tuple_lookup;have l:=madeHere_tuple;have d:s.TypeIs (.ref r) "range":=⟨_,hr,rfl⟩
 have m:=λ(E:D'->J'->Prop) (Q:List D'->J'->Prop)=>vI (prog:=prog) (w:=w) (A:=A.in1) (E:=E) (Q:=Q) (show A.in1.handled=none from hh) hr VT hn hlen;wp_walk using XM d,m _ _;intro h' tk acc p hle f;show O7 _ _ (ZE acc.toList.toArray >>= λv=>ret v) _ _ _;unfold ZE;refine O4 (Uu ?_ (by show acc.toList.toArray.size<=Pj;simp only[Array.toArray_toList];rw[f.1];exact hsz));refine Pa ?_;have e:acc.toList.toArray=acc:=by simp
 rw[e];exact h h' tk acc p hle f
theorem pp {a b c:Int}{n:Nat}(hh:A.handled=none)(hr:ζ s.heap r a b c t u v)(VT:XC a b c=true)(hn:Wn a b c=n)(hlen:n<=2 ^ 24)(hsz:n<=Pj)(hQ:∀(h':O8) (tk:Nat) (acc:Array D'),(∀b o,s.heap.get? b=some o->h'.get? b=some o)->s.heap.objs.size<=h'.objs.size->YY (λi v=>∃t,v=.int (a+i*c) t) acc n->Q (.ref h'.objs.size) { s with heap:=h'.push { cls:=.type "tuple",data:=.seq acc },toks:=tk }):
  O7 (Pb prog w) A (call (.type "tuple") [.ref r]) Q E s:=by
 refine callType_codes (Q₁:=λobj d=>d.TypeIs obj "tuple"/\Q obj d) adJ (F.typeCall_tuple_1 _) F.entry_object_init
  (qw (A:=A.in1) hh hr VT hn hlen hsz λh' tk acc f hle g=>⟨⟨_,QX _ rfl,rfl⟩,hQ h' tk acc f hle g⟩) λobj d e=>?_
 exact⟨e.1,F.args_object_init_2 obj _,object_init_meets adJ.init.lookup adJ.made (by decide) prog w A.in1 _ d ⟨e.1,rfl,e.2⟩⟩
theorem dE (hc:X.calm=true):cR X (.type "tuple") (λxs H Q=>∃p lo hi,xs=[.ref p]/\H p=some (.RK lo hi)/\-(2 ^ 62)<=lo/\lo<2 ^ 62/\-(2 ^ 62)<=hi/\hi<2 ^ 62/\(hi-lo).toNat<=Pj/\
  ∀l,H l=none->Q (.ref l) (upd H l (.tup (cU lo (hi-lo).toNat)))):=by
 intro aa s m H xs us Q I r h;obtain⟨p,lo,hi,rfl,G,J,E,N,n,d,q⟩:=h;obtain⟨u,rfl,L⟩:=dH r;cases L;obtain⟨t,u,v,e⟩:=I.Pn p _ G;refine pp (I.ok.hd hc) e (small_one J E N n) (rangeSize_nat lo hi) (RC d (by rw[PY];decide)) d λh' c acc M hle j=>?_;have g:Inv X aa m H { s with heap:=h',toks:=c }:=I.kept (t':=c) M;have C:Inv X aa m (upd H h'.objs.size (.tup (cU lo (hi-lo).toNat))) { s with heap:=h'.push { cls:=.type "tuple",data:=.seq acc },toks:=c }:=
  g.laid (t':=c) (λb o e=>Qe _ e) (Po _) (show bq X.prog X.w _ _ _ (.tup (cU lo (hi-lo).toNat)) from⟨by rw[dN];exact d,acc.toList,i7 (by rw[dN,Ri,j.1]) λi x u f y=>?_,by
   have A:acc.toList.toArray=acc:=by simp
   rw[A];exact fJ.new _ _⟩)
 .exact⟨.ref h'.objs.size,_,C,rfl,q _ (g.Pn.fresh (Po _))⟩
 have F:acc[i]?=some u:=by simpa using y
 obtain⟨t',rfl⟩:=j.2 i u F;have D:i<(hi-lo).toNat:=by
  have:=(QE.mp f).1;rw[dN] at this;exact this
 have:x=V.int (lo+(i:Int)):=by
  simp[cU,D] at f;exact f.symm
 subst this;exact⟨t',by rw[ad0]⟩
end L2
namespace Ord
open PySem L2 Mx
noncomputable abbrev vf:Pc:=top 42
def GrM (P:Pk)(w:Pd)(K:O6)(mg:N'->Option D')(base:O8)(fl:f'):Prop:=∀(H0:Hp) (n:Nat),n<=4->Df P w K mg base Ph (n+5) "grown" ["many","state","doors_from"] (wW K H0 fl Bk.jZ Bk.yA Bk.gN n)
theorem grM (Fg:PR K "grown" "grown" ph f fd)(Fw:PR K "grow" "grow" mv g gd)(T:Qj K mg CO)(c:Vr K C)(M:Mk K C fi)(Fi:Py P w K mg base Ph 1 fi Xn ["self"] (oO K C))(bi:bK K Xn ["self"] [])(mC:mg "Shelf"=some (.ref C))(mk:W' K C "keep" fk)(Fk:Py P w K mg base Ph 1 fk TV ["self","room"] (jw K C))(bk:bK K TV ["self","room"] [])(b:bK K gd ["shelf","state","doors_from","known"] [])(m:mg "grow"=some (.ref g))(bg:bK K fd ["many","state","doors_from"] [])(mG:mg "grown"=some (.ref f))(Fl:PR K "doors_of_marks" "doors_of_marks" mx fl U4)(FL:∀H0,Py P w K mg base Ph 2 fl U4 ["state"] (mw K H0 Bk.jZ Bk.gN))(bl:bK K U4 ["state"] [])(KI:K.In base):GrM P w K mg base fl:=λH0 n t=>by
 obtain⟨s,od,kV,doc,v,o,p,ct,u,rfl,j,l⟩:=Fl.ex;have e:=KI _ _ j;exact⟨f,fd,C1 (kl:=2) (by lia) rfl rfl (λk h=>h) Bk.u9 Fg T c M Fi bi mC ⟨g,gd,wV Bk.GL Bk.u9 Fw T c mk Fk bk (FL H0) e rfl (λus d=>match us,d with | [_],_=>rfl) b m n,b,Fw.kp,m⟩,bg,Fg.kp,mG⟩
def wY (K:O6):Sp:=λvs H Q _=>∃(many:Nat) (os:Bk.ak),vs=[.int many,.int (Bk.aF many os:Nat)]/\many<=4/\Bk.Qn many os/\∀(t lr:f') (H':Hp),ar H H'->XV K H H' t lr many (bh many os).1 (bh many os).2->Q (.ref t) H'
theorem Fm:Qc ["many","marks"] ["many","marks"] (ap vf):={}
theorem C4 (F:PR K "book_of_marks" "book_of_marks" vf f fd)(T:Qj K mg CO)(WM:Df P w K mg base Ph 1 "state_of_marks" ["things","marks"] (nG K))(G:GrM P w K mg base fl)(ml:mg "doors_of_marks"=some (.ref fl)):Py P w K mg base Ph 10 f fd ["many","marks"] (wY K):=by
 refine F.ok Fm (λvs H Q E h=>?_) (λD A outer s H vs Q E d h=>?_)
 .obtain⟨many,os,rfl,_⟩:=h;rfl
 obtain⟨many,os,rfl,c,S,z⟩:=h;refine⟨_,ai (aH (az (G H many c) (d.mono (by lia)) rfl pS (ac (pv 0) (ac
  (az WM (d.mono (by decide)) rfl pS (ac (aV (dE rfl) rfl T.t.tuple cw (ac (aV dG rfl T.t.range fA (ac (pv 0) ad)) ad)) (ac (pv 1) ad)))
  (ac (aR (v:=.ref fl) rfl ml rfl) ad))))),?_⟩
 refine⟨_,rfl,_,rfl,(many:Int),rfl,λj x=>?_⟩;refine⟨j,0,many,rfl,ag,by decide,by decide,by lia,by lia,by rw[PY];lia,λb y=>?_⟩;have m:cU 0 ((many:Int)-0).toNat=(Mx.aw many).map V.int:=by rw[cA,show((many:Int)-0).toNat=many by lia]
 rw[m];have s1:=(af x (.RK 0 (many:Int))).trans (af y (.tup ((Mx.aw many).map V.int)));refine⟨_,rfl,b,aw many,_,rfl,Pw.up,λv I s2 o=>?_⟩;obtain⟨u,C,l⟩:=Bk.oY (Bk.pj S.m1 c S.mem);have g:Bk.jW Bk.jZ many (Bk.U3 (aw many) (Bk.aF many os))=bh many os:=Bk.A0 c S;have s3:=s1.trans s2;refine⟨many,v,_,rfl,o,s3,u,l.imp id λe=>by rw[e,bc];exact Po _,?_,λt p n s4 B=>?_⟩
 .rw[g];have:=Qn.whole S |>.Qk;lia
 rw[g] at B;exact z t p n (s3.trans s4) ⟨s3.free B.ft,s3.free B.fl,B.at_,B.rooms⟩
end Ord
namespace Bk
theorem vg:∀{a b:Nat},a<=b->Pt a<=Pt b
 | a,0,h=>by rw[Nat.le_zero.mp h];exact Po _
 | a,b+1,h=>by
  by_cases e:a=b+1
  .rw[e];exact Po _
  .have:=vg (a:=a) (b:=b) (by lia);have:Pt (b+1)=(b+1)*Pt b:=rfl;have c:1*Pt b<=(b+1)*Pt b:=U' _ (by lia);lia
theorem jf:∀n,n<=4->0<cD n/\cD n<2 ^ 24:=by decide
theorem wZ (x k:Nat):(x:Int)*2 ^ k=((x <<< k:Nat):Int):=by
 rw[aat,VI];simp
noncomputable def yK (left gap i:Nat):Nat:=(QK i).foldl (λf rank=>f ||| cD (left-2) <<< (rank*Pt (left-1)+(rank+gap)*Pt (left-2))) 0
end Bk
namespace Ord
open PySem L2 Mx
noncomputable abbrev qx:Pc:=top 47
noncomputable abbrev nH:Pc:=top 46
noncomputable abbrev j0:Pc:=top 45
noncomputable abbrev nI:Pc:=top 48
noncomputable abbrev nJ:Pc:=top 49
def vh:Sp:=λvs H Q _=>∃(many left gap:Nat),vs=[.int many,.int left,.int gap]/\many<=4/\2<=left/\left<=many/\gap<left-1/\Q (.int (Bk.nn many left gap:Nat)) H
theorem iB:Qc ["many","left","gap","alike","found","rank"] ["many","left","gap"] (ap qx):={}
theorem A3 (F:PR K "rising_marks" "rising_marks" qx f fd)(T:Qj K mg CO)(WW:Df P w K mg base Ph 1 "ways" ["many"] jz)(WA:Df P w K mg base Ph 2 "all_marks" ["many"] AM):Py P w K mg base Ph 3 f fd ["many","left","gap"] vh:=by
 refine F.ok iB (λvs H Q E h=>?_) (λI A outer s H vs Q E b h=>?_)
 .obtain⟨many,left,gap,rfl,_⟩:=h;rfl
 obtain⟨many,left,gap,rfl,D,L,N,R,z⟩:=h;have j:=b.mono (show 1<=2 by decide);refine⟨_,ae (ay (i:=3) iB.nd rfl (PB rfl) (az WA b rfl pS (ac (av bM (pv 1) ao) ad)))
  (ae (ay (i:=4) iB.nd rfl (PB rfl) ao)
  (ae (bL RB rfl (dF rfl T.t.range (ac (av bM (av bM (pv 1) ao) (pv 2)) ad)) (bw (i:=5) iB.nd rfl (PB rfl))
   (ai (sW (i:=4) iB.nd rfl (PB rfl) (av gY (pv 3) (av bT (av e8 (pv 5) (az WW j rfl pS (ac (av bM (pv 1) ao) ad)))
    (av e8 (av bT (pv 5) (pv 2)) (az WW j rfl pS (ac (av bM (pv 1) ao) ad))))) yt)))
  (ai (aH (av e8 (pv 4) (av fS (az WA b rfl pS (ac (pv 0) ad)) (az WA b rfl pS (ac (pv 1) ad)))))))),?_⟩
 have C:(left:Int)-1=((left-1:Nat):Int):=by lia
 have g:(left:Int)-2=((left-2:Nat):Int):=by lia
 have J:=Bk.jf (left-2) (by lia);refine⟨_,rfl,_,_,rfl,rfl,left-2,congrArg (λi=>[V.int i]) g,by lia,?_⟩;refine⟨_,rfl,_,_,rfl,rfl,_,rfl,_,_,rfl,rfl,(left:Int)-1-gap,rfl,by lia,by lia,iH (lo:=0) (n:=((left:Int)-1-gap).toNat) (λk d c=>∃e,d=[some (.int many),some (.int left),some (.int gap),some (.int (Bk.cD (left-2):Nat)),some (.int (Bk.yK left gap k:Nat)),e]/\c=H) ⟨none,rfl,rfl⟩ ?_ ?_⟩
 .rintro k d c S ⟨e,rfl,rfl⟩;have u:=fI (left-1) (by lia);have v:=fI (left-2) (by lia);have k3:k<=3:=by lia
  have l:(0+(k:Int))*((Bk.Pt (left-1):Nat):Int)+(0+(k:Int)+(gap:Int))*((Bk.Pt (left-2):Nat):Int)=((k*Bk.Pt (left-1)+(k+gap)*Bk.Pt (left-2):Nat):Int):=by
   rw[adX,abE,VI,VI,abE]
  have O:k*Bk.Pt (left-1)<=3*40320:=WN k3 u;have G:(k+gap)*Bk.Pt (left-2)<=6*40320:=WN (by lia) v;refine⟨_,rfl,_,rfl,_,rfl,_,rfl,_,_,rfl,rfl,left-1,congrArg (λi=>[V.int i]) C,by lia,_,_,rfl,rfl,.inl ⟨by lia,by lia⟩,_,rfl,_,rfl,_,_,rfl,rfl,_,rfl,_,_,rfl,rfl,left-2,congrArg (λi=>[V.int i]) g,by lia,_,_,rfl,rfl,.inl ⟨by lia,by lia⟩,_,_,rfl,rfl,_,_,rfl,rfl,?_,_,_,rfl,rfl,some (.int (0+(k:Int))),?_,rfl⟩
  .show xt ((Bk.cD (left-2):Nat):Int) ((0+(k:Int))*((Bk.Pt (left-1):Nat):Int)+(0+(k:Int)+(gap:Int))*((Bk.Pt (left-2):Nat):Int));rw[l];exact⟨by lia,by lia,by lia⟩
  show [_,_,_,_,some (V.int (XF ((Bk.yK left gap k:Nat):Int) (((Bk.cD (left-2):Nat):Int)*2 ^ ((0+(k:Int))*((Bk.Pt (left-1):Nat):Int)+(0+(k:Int)+(gap:Int))*((Bk.Pt (left-2):Nat):Int)).toNat))),_]=_;rw[l,Rb,Bk.wZ,gA];unfold Bk.yK;rw[YM,VG];rfl
 .rintro d c ⟨e,rfl,rfl⟩;have o:=Bk.jf many D;have M:=Bk.jf left (by lia);have p:Bk.cD many / Bk.cD left<2 ^ 24:=XD (Nat.div_le_self _ _) o.2;have m:((Bk.cD many:Nat):Int) / ((Bk.cD left:Nat):Int)=((Bk.cD many / Bk.cD left:Nat):Int):=rfl;refine⟨_,rfl,_,rfl,many,rfl,by lia,_,rfl,left,rfl,by lia,_,_,rfl,rfl,⟨by lia,by lia⟩,_,_,rfl,rfl,.inr ?_,?_⟩
  .show -(2 ^ 64)<((Bk.cD many:Nat):Int) / ((Bk.cD left:Nat):Int)/\((Bk.cD many:Nat):Int) / ((Bk.cD left:Nat):Int)<2 ^ 64;rw[m];generalize Bk.cD many / Bk.cD left=x at p ⊢;lia
  .have y:((left:Int)-1-gap).toNat=left-1-gap:=by lia
   rw[y];show Q (V.int (((Bk.yK left gap (left-1-gap):Nat):Int)*((Bk.cD many / Bk.cD left:Nat):Int))) c;rw[<-VI];exact z
def Wc (K:O6)(H:Hp)(z:V)(sw:List (Nat×Nat)):Prop:=∃p ys,z=.ref p/\Pg K H p ys/\Pl (λy (e:Nat×Nat)=>cy K H y ((e.1:Int),(e.2:Int))) ys sw
theorem Wc.same (s:ar H H')(h:Wc K H z sw):Wc K H' z sw:=let ⟨p,ys,e,q,r⟩:=h;⟨p,ys,e,s.RS q,aJ (λ_ _ d=>d.same s) r⟩
def rQ (K:O6):Sp:=λvs H Q _=>∃(many left:Nat),vs=[.int many,.int left]/\many<=4/\2<=left/\left<=many/\∀z H',ar H H'->Wc K H' z (Bk.cF many left)->Q z H'
theorem iX:Qc ["many","left","found","gap","shift"] ["many","left"] (ap nH):={}
theorem yL (h:i<left-1):(Bk.cF many left).take (i+1)=(Bk.cF many left).take i++[((i+1)*Bk.Pt (left-1)-i*Bk.Pt (left-2),Bk.nn many left i)]:=by
 refine bC ?_;unfold Bk.cF;rw[Q6,abn h];rfl
theorem yM (F:PR K "swaps_at" "swaps_at" nH f fd)(T:Qj K mg CO)(WW:Df P w K mg base Ph 1 "ways" ["many"] jz)(WR:Df P w K mg base Ph 3 "rising_marks" ["many","left","gap"] vh):Py P w K mg base Ph 4 f fd ["many","left"] (rQ K):=by
 refine F.ok iX (λvs H Q E h=>?_) (λPi A outer s H vs Q E M h=>?_)
 .obtain⟨many,left,rfl,_⟩:=h;rfl
 obtain⟨many,left,rfl,U,W,Z,z⟩:=h;have N:=M.mono (show 1<=3 by decide);refine⟨_,ae (ay (i:=2) iX.nd rfl (PB rfl) (bf ad))
  (ae (bL RB rfl (dF rfl T.t.range (ac (av bM (pv 1) ao) ad)) (bw (i:=3) iX.nd rfl (PB rfl))
   (ae (ay (i:=4) iX.nd rfl (PB rfl) (av bM (av e8 (av bT (pv 3) ao) (az WW N rfl pS (ac (av bM (pv 1) ao) ad)))
    (av e8 (pv 3) (az WW N rfl pS (ac (av bM (pv 1) ao) ad)))))
   (ai (bA (dJ T4 VC VD cN (pv 2) (ac (cz (ac (pv 4) (ac
    (az WR M rfl pS (ac (pv 0) (ac (pv 1) (ac (pv 3) ad)))) ad))) ad))))))
  (ai (aH (pv 2)))),?_⟩
 have e1:(left:Int)-1=((left-1:Nat):Int):=by lia
 have O:(left:Int)-2=((left-2:Nat):Int):=by lia
 have Y:=fI (left-1) (by lia);have f2:=fI (left-2) (by lia);have fm:=Bk.vg (show left-2<=left-1 by lia);refine⟨by show 0<=Pj;lia,λl G=>?_⟩;have s1:=af G (.lst []);refine⟨_,rfl,_,_,rfl,rfl,(left:Int)-1,rfl,by lia,by lia,iH (lo:=0) (n:=((left:Int)-1).toNat) (λi x g=>∃(m:List V) (D C:Option V),x=[some (.int many),some (.int left),some (.ref l),D,C]/\ar H g/\g l=some (.lst m)/\Pl (λy (e:Nat×Nat)=>cy K g y ((e.1:Int),(e.2:Int))) m ((Bk.cF many left).take i)) ⟨[],none,none,rfl,s1,ag,.nil⟩ ?_ ?_⟩
 .rintro i x g hi ⟨m,D,C,rfl,s2,p,v⟩;have L:i<left-1:=by lia
  have pl:=v.length;have b1:(i+1)*Bk.Pt (left-1)<=4*40320:=WN (by lia) Y;have R:i*Bk.Pt (left-2)<=(i+1)*Bk.Pt (left-1):=WN (by lia) fm;have eS:(0+(i:Int)+1)*((Bk.Pt (left-1):Nat):Int)-(0+(i:Int))*((Bk.Pt (left-2):Nat):Int)=(((i+1)*Bk.Pt (left-1)-i*Bk.Pt (left-2):Nat):Int):=by
   rw[adX,abC R,VI,VI,abE];rfl
  refine⟨_,rfl,_,_,rfl,rfl,_,rfl,_,_,rfl,rfl,left-1,congrArg (λi=>[V.int i]) e1,by lia,_,_,rfl,rfl,.inl ⟨by lia,by lia⟩,_,rfl,_,rfl,_,_,rfl,rfl,left-2,congrArg (λi=>[V.int i]) O,by lia,_,_,rfl,rfl,.inl ⟨by lia,by lia⟩,_,_,rfl,rfl,?_⟩;refine⟨_,rfl,.inl ⟨rfl,_,Pg.of p⟩,_,rfl,_,rfl,_,rfl,_,rfl,many,left,i,congrArg (λj=>[V.int (many:Int),V.int (left:Int),V.int j]) (adX _),U,W,Z,L,by show 2<=Pj;decide,λc S=>?_⟩;have s3:=af S (.tup [V.int ((0+(i:Int)+1)*((Bk.Pt (left-1):Nat):Int)-(0+(i:Int))*((Bk.Pt (left-2):Nat):Int)),V.int ((Bk.nn many left i:Nat):Int)]);refine⟨l,_,_,rfl,rfl,s3 _ _ p,?_,?_⟩
  .have:((Bk.cF many left).take i).length<=i:=by rw[RW];lia
   rw[pl,PY];lia
  refine⟨_,_,_,rfl,λb u q=>?_,ag,?_⟩
  .rw[aq (au q G)];exact s3 _ _ (s2 _ _ q)
  rw[yL L];have I:bF [l] (upd g c (.tup [V.int ((0+(i:Int)+1)*((Bk.Pt (left-1):Nat):Int)-(0+(i:Int))*((Bk.Pt (left-2):Nat):Int)),V.int ((Bk.nn many left i:Nat):Int)])) (upd (upd g c (.tup [V.int ((0+(i:Int)+1)*((Bk.Pt (left-1):Nat):Int)-(0+(i:Int))*((Bk.Pt (left-2):Nat):Int)),V.int ((Bk.nn many left i:Nat):Int)])) l (.lst (m++[V.ref c]))):=λb o n q=>by
   rw[aq (λe=>n (by simp[e]))];exact q
  have J:dD (upd g c (.tup [V.int ((0+(i:Int)+1)*((Bk.Pt (left-1):Nat):Int)-(0+(i:Int))*((Bk.Pt (left-2):Nat):Int)),V.int ((Bk.nn many left i:Nat):Int)])) [l]:=λa X=>by
   obtain rfl:=Qw.mp X;exact⟨_,s3 _ _ p,trivial⟩
  refine ck (aJ (λy d h=>I.door J (h.same s3)) v) (.cons ⟨c,rfl,?_⟩ .nil);refine I.RR J (.inl (.inl ?_));rw[ag,eS]
 .rintro x g ⟨m,D,C,rfl,s2,p,v⟩;have e:(Bk.cF many left).take ((left:Int)-1).toNat=Bk.cF many left:=Wp (by unfold Bk.cF;rw[PP,aaq];lia);rw[e] at v;exact⟨_,rfl,z _ _ s2 ⟨l,m,rfl,Pg.of p,v⟩⟩
end Ord
namespace L2
open PySem PySem.Spec PyProof.Rows
theorem vi {lo:Int}{n:Nat}{g:TG}{tb:TS}{D:Ends}{σ:St}{H:Hp}(Pv:Nat->St->Hp->Prop)(h0:Pv 0 σ H)(hs:∀i σ H,i<n->Pv i σ H->g (.int (lo-i)) σ H λRp H2=>tb { D with nx:=Pv (i+1),ct:=Pv (i+1),bk:=D.nx } Rp H2)(hd:∀σ H,Pv n σ H->D.nx σ H):
  ∃W:Nat->Nat->St->Hp->Prop,(∃m,W 0 m σ H)/\∀i m σ H,W i m σ H->
   ((Zs lo n).stop i H/\D.nx σ H)\/((Zs lo n).go i H/\∃N:St->Hp->Prop,(∀Pu H',N Pu H'->∃m',m' < m/\W (i+1) m' Pu H')/\∀x H',(Zs lo n).Xe i H x H'->g x σ H' λRp H2=>tb { D with nx:=N,ct:=N,bk:=D.nx } Rp H2):=by
 refine⟨λi m σ H=>m=n-i/\i<=n/\Pv i σ H,⟨n,by simp,QN _,h0⟩,?_⟩;rintro i m σ H ⟨rfl,d,pv⟩
 by_cases b:i<n
 .refine .inr ⟨b,Pv (i+1),λPu H' c=>⟨n-(i+1),by lia,rfl,b,c⟩,λv H' y=>?_⟩;obtain⟨rfl,rfl⟩:=y;exact hs i σ _ b pv
 .exact .inl ⟨abv b,hd σ H (by rw[show n=i by lia];exact pv)⟩
end L2
namespace Ord
open PySem L2 Mx
noncomputable def dw (many n:Nat):List (List (Nat×Nat)):=(QK n).map λplace=>Bk.cF many (many-place)
theorem si (many n:Nat):dw many (n+1)=dw many n++[Bk.cF many (many-n)]:=by unfold dw;rw[YM,Rm];rfl
def rR (K:O6):Sp:=λvs H Q _=>∃(many:Nat),vs=[.int many]/\1<=many/\many<=4/\∀(l:f') (zs:List V) (H':Hp),ar H H'->H' l=some (.lst zs)->Pl (Wc K H') zs (dw many (many-1))->Q (.ref l) H'
theorem rS:Qc ["many"] ["many"] (ap j0):={}
theorem yN (F:PR K "swaps_of" "swaps_of" j0 f fd)(T:Qj K mg CO)(WA:Df P w K mg base Ph 4 "swaps_at" ["many","left"] (rQ K)):Py P w K mg base Ph 5 f fd ["many"] (rR K):=by
 refine F.ok rS (λvs H Q E h=>?_) (λy A outer s H vs Q E m h=>?_)
 .obtain⟨many,rfl,_⟩:=h;rfl
 obtain⟨many,rfl,L,g,z⟩:=h;refine⟨_,ai (aH (dB rfl (show Sc false (ap j0) ["many"] _ _ from by constructor <;> decide +kernel) (dF rfl T.t.range (ac (av bM (pv 0) ao) ad)) (λ_ _ _ _ _ _=>eJ)
  (λcl C J D G aa=>az WA m rfl pS (ac (pv 1) (ac (av bM (pv 1) (pv 0)) ad))) rS.nd)),?_⟩
 have l:((many:Int)-1).toNat=many-1:=by lia
 refine⟨_,rfl,_,_,rfl,rfl,(many:Int)-1,rfl,by lia,by lia,h9 (lo:=0) (n:=((many:Int)-1).toNat) (λi b c=>ar H c/\Pl (Wc K c) b (dw many i)) ⟨ar.refl H,.nil⟩ ?_ (by rw[PY];lia) ?_ ?_⟩
 .rintro i b c _ ⟨_,p⟩;have:=p.length;unfold dw at this;rw[PP,aaq] at this;lia
 .rintro i b c v ⟨s3,p⟩;refine V4 (bn ⟨_,rfl,_,rfl,_,rfl,_,_,rfl,rfl,many,many-i,congrArg (λj=>[V.int (many:Int),V.int j]) (by lia),g,by lia,by lia,λx I s4 u=>⟨s3.trans s4,?_⟩⟩);rw[si];exact ck (aJ (λ_ _ d=>d.same s4) p) (.cons u .nil)
 .rintro b c p ⟨s3,e⟩ o;rw[l] at e;have s4:=af o (.lst b);exact z p b _ (s3.trans s4) ag (aJ (λ_ _ d=>d.same s4) e)
def rT (K:O6):Sp:=λvs H Q _=>∃(m:Nat) (z:V) (sw:List (Nat×Nat)),vs=[.int m,z]/\Wc K H z sw/\m<2 ^ 24/\(∀e∈sw,e.1<=1000000)/\Q (.int (Bk.RV sw m:Nat)) H
theorem gE:Qc ["marks","swaps","found","shift","rising"] ["marks","swaps"] (ap nI):={}
theorem Fn (sw)(e)(m:Nat):Bk.RV (sw++[e]) m=Bk.RV sw m ||| ((m &&& e.2) <<< e.1 ||| (m >>> e.1 &&& e.2)):=by
 unfold Bk.RV;rw[VG];rfl
theorem fN (a b:Nat):UO (a:Int) (b:Int)=((a &&& b:Nat):Int):=rfl
theorem yO (F:PR K "swapped" "swapped" nI f fd):Py P w K mg base Ph 1 f fd ["marks","swaps"] (rT K):=by
 refine F.ok gE (λvs H Q E h=>?_) (λJ A outer s H vs Q E L h=>?_)
 .obtain⟨m,z,n,rfl,_⟩:=h;rfl
 obtain⟨m,z,n,rfl,⟨l,y,rfl,o,u⟩,j,C,z⟩:=h;have pl:=u.length;refine⟨_,ae (ay (i:=2) gE.nd rfl (PB rfl) ao)
  (ae (bL RB rfl (cf (pv 1)) (sV rfl (fR (bw (i:=3) gE.nd rfl (PB rfl)) (fR (bw (i:=4) gE.nd rfl (PB rfl)) pE)))
   (ai (sW (i:=2) gE.nd rfl (PB rfl) (av De (av gY (av kb (pv 0) (pv 4)) (pv 3)) (av kb (av sZ (pv 0) (pv 3)) (pv 4))) yt)))
  (ai (aH (pv 2)))),?_⟩
 refine⟨_,rfl,l,rfl,⟨_,o⟩,cP (K:=K) (a:=l) (xs:=y) (λi b c=>∃g d,b=[some (.int m),some (.ref l),some (.int (Bk.RV (n.take i) m:Nat)),g,d]/\c=H) ⟨none,none,rfl,rfl⟩ ?_ ?_ ?_⟩
 .rintro i b c _ ⟨g,d,rfl,rfl⟩;exact o
 .rintro i x b c G ⟨g,d,rfl,rfl⟩;obtain⟨e,t,p,rfl,D⟩:=bS u G;have M:=C e (QF t);refine⟨p,[V.int (e.1:Int),V.int (e.2:Int)],rfl,D,rfl,_,_,rfl,_,_,rfl,rfl,?_⟩;have v:(m &&& e.2)<2 ^ 24:=XD Nat.and_le_left j;refine⟨_,rfl,_,rfl,_,rfl,_,_,rfl,rfl,_,rfl,_,_,rfl,rfl,?_,_,rfl,_,rfl,_,_,rfl,rfl,?_,_,rfl,_,_,rfl,rfl,_,_,rfl,rfl,_,_,rfl,rfl,some (.int (e.1:Int)),some (.int (e.2:Int)),?_,rfl⟩
  .show xt (UO (m:Int) (e.2:Int)) (e.1:Int);rw[fN];generalize m &&& e.2=x at v ⊢;exact⟨by lia,by lia,by lia⟩
  .show(0:Int)<=(e.1:Int);lia
  have I:(m:Int) / 2 ^ ((e.1:Nat):Int).toNat=((m >>> e.1:Nat):Int):=by
   rw[Rb,abc];simp
  show [_,_,some (V.int (XF ((Bk.RV (n.take i) m:Nat):Int) (XF (UO (m:Int) (e.2:Int)*2 ^ ((e.1:Nat):Int).toNat) (UO ((m:Int) / 2 ^ ((e.1:Nat):Int).toNat) (e.2:Int))))),_,_]=_;rw[I,fN,fN,Rb,Bk.wZ,gA,gA,bC t,Fn]
 .rintro b c ⟨g,d,rfl,rfl⟩;refine⟨_,rfl,?_⟩;rw[pl,SD];exact z
def rV (K:O6):Sp:=λvs H Q _=>∃(many place later:Nat) (os:Bk.ak) (l:f') (zs:List V),vs=[.int (Bk.aF many os:Nat),.ref l,.int place,.int later]/\1<=many/\many<=4/\(∀o∈os,o∈Bk.aK many)/\Pg K H l zs/\Pl (Wc K H) zs (dw many (many-1))/\place<=later/\later<many/\
 Q (.int (Bk.cQ many place (later-place) (Bk.aF many os):Nat)) H
theorem iY:Qc ["marks","swaps","place","later","found","earlier"] ["marks","swaps","place","later"] (ap nJ):={}
theorem C5 {os:Bk.ak}(m1:1<=many)(m4:many<=4)(h:∀o∈os,o∈Bk.aK many):Bk.aF many os<2 ^ 24:=by
 refine QP (Bk.vd m1 m4 h) (ZI (by decide) ?_);have:∀n,n<=4->Bk.Pt n<=24:=by decide
 exact this many m4
theorem vJ (l4:left<=4):∀e∈Bk.cF many left,e.1<=1000000:=λe b=>by
 unfold Bk.cF at b;obtain⟨gap,d,rfl⟩:=P6.mp b;have:=Sq.mp d;have c:=fI (left-1) (by lia);have:(gap+1)*Bk.Pt (left-1)<=4*40320:=WN (by lia) c;show(gap+1)*Bk.Pt (left-1)-_<=_;lia
theorem GR {os:Bk.ak}(m1:1<=many)(m4:many<=4)(hp:p+1<many)(h:∀o∈os,o∈Bk.aK many):Bk.RV (Bk.cF many (many-p)) (Bk.aF many os)=Bk.aF many (os.map (Bk.Up p 1))/\∀o∈os.map (Bk.Up p 1),o∈Bk.aK many:=
 Bk.iT m1 m4 hp h
theorem yP (F:PR K "fetched" "fetched" nJ f fd)(T:Qj K mg CO)(WS:Df P w K mg base Ph 1 "swapped" ["marks","swaps"] (rT K)):Py P w K mg base Ph 2 f fd ["marks","swaps","place","later"] (rV K):=by
 refine F.ok iY (λvs H Q E h=>?_) (λU A outer s H vs Q E L h=>?_)
 .obtain⟨many,place,later,os,l,M,rfl,_⟩:=h;rfl
 obtain⟨many,place,later,os,l,M,rfl,m,v,G,D,J,C,lam,z⟩:=h;refine⟨_,ae (ay (i:=4) iY.nd rfl (PB rfl) (pv 0))
  (ae (bL RB rfl (rC rfl T.t.range (ac (av bM (pv 3) ao) (ac (av bM (pv 2) ao) (ac (sj nS ao) ad)))) (bw (i:=5) iY.nd rfl (PB rfl))
   (ai (ay (i:=4) iY.nd rfl (PB rfl) (az WS L rfl pS (ac (pv 4) (ac (bj bB (pv 1) (pv 5) (λ_ _=>rfl)) ad))))))
  (ai (aH (pv 4)))),?_⟩
 have N:((later:Int)-1-((place:Int)-1)).toNat=later-place:=by lia
 refine⟨_,rfl,_,rfl,_,_,rfl,rfl,_,rfl,_,_,rfl,rfl,_,rfl,(later:Int)-1,(place:Int)-1,rfl,⟨by lia,by lia,by lia,by lia⟩,vi (lo:=(later:Int)-1) (n:=((later:Int)-1-((place:Int)-1)).toNat) (λj d g=>∃(os':Bk.ak) (e:Option V),d=[some (.int (Bk.aF many os:Nat)),some (.ref l),some (.int place),some (.int later),some (.int (Bk.aF many os':Nat)),e]/\g=H/\(∀o∈os',o∈Bk.aK many)/\Bk.cQ many place (later-place-j) (Bk.aF many os')=Bk.cQ many place (later-place) (Bk.aF many os)) ⟨os,none,rfl,rfl,G,rfl⟩ ?_ ?_⟩
 .rintro j d g S ⟨os',e,rfl,rfl,c,b⟩;have ex:(later:Int)-1-(j:Int)=((later-1-j:Nat):Int):=by lia
  have O:later-1-j<many-1:=by lia
  have y:(dw many (many-1))[later-1-j]?=some (Bk.cF many (many-(later-1-j))):=by
   unfold dw;rw[Q6,abn O];rfl
  obtain⟨I,hz,R⟩:=fc J y;refine⟨_,rfl,_,rfl,_,rfl,l,_,((later-1-j:Nat):Int),I,rfl,congrArg V.int ex,D,bU hz,_,_,_,rfl,R,C5 m v c,vJ (by lia),?_⟩;obtain⟨u,x⟩:=GR (p:=later-1-j) m v (by lia) c;rw[u];refine⟨_,_,rfl,rfl,x,?_⟩;rw[<-u,<-b,show later-place-j=later-place-(j+1)+1 by lia];show _=Bk.cQ many place (later-place-(j+1)) (Bk.RV (Bk.cF many (many-(place+(later-place-(j+1))))) (Bk.aF many os'));rw[show place+(later-place-(j+1))=later-1-j by lia]
 .rintro d g ⟨os',e,rfl,rfl,c,b⟩;rw[N,Z4] at b;refine⟨_,rfl,?_⟩;rw[show Bk.aF many os'=Bk.cQ many place (later-place) (Bk.aF many os) from b];exact z
end Ord
namespace Bk
open Mx
noncomputable def eE (rs:List O5)(many k m:Nat):Nat:=gh rs many (aQ rs (k:Int)).length (k:Int) m
noncomputable def TZ (rs:List O5)(many:Nat)(c:List Nat)(k:Nat):Nat:=QO ((QK k).map λi=>eE rs many (i+1) (c.getD (i+1) 0))
theorem Fo (k a b:Nat):eE rs many k (a ||| b)=eE rs many k a ||| eE rs many k b:=AI _ _ _ _
theorem A4 (k:Nat):eE rs many k 0=0:=uZ _ _
theorem C6:aQ rs ((1:Nat):Int)=[]:=Wj.mpr λt b=>by
 have:=(iz.mp b).2.2;rw[pV,ZT] at this;cases this
theorem C7 (m:Nat):eE rs many 1 m=m:=by
 unfold eE;rw[C6];rfl
theorem iC (c)(k:Nat):TZ rs many c (k+1)=TZ rs many c k ||| eE rs many (k+1) (c.getD (k+1) 0):=by
 unfold TZ;rw[YM,Rm,qk];show _ ||| (_ ||| 0)=_;rw[Nat.or_zero]
theorem Fp (c):TZ rs many c 1=c.getD 1 0:=by
 rw[iC,C7];show 0 ||| _=_;rw[Z5]
theorem qy (h1:1<=d)(hl:d<c.length):∀k,TZ rs many (c.set d (c.getD d 0 ||| x)) k=if d<=k then TZ rs many c k ||| eE rs many d x else TZ rs many c k
 | 0=>by rw[O9 (by lia)];rfl
 | k+1=>by
  rw[iC,iC,qy h1 hl k]
  by_cases e:d=k+1
  .subst e;rw[O9 (by lia),Pf (Po _),show(c.set (k+1) (c.getD (k+1) 0 ||| x)).getD (k+1) 0=c.getD (k+1) 0 ||| x by simp[SC,hl],Fo,Te]
  .rw[show(c.set d (c.getD d 0 ||| x)).getD (k+1) 0=c.getD (k+1) 0 by simp[SC,ZH e]]
   by_cases h:d<=k
   .rw[Pf h,Pf (by lia),Te,Te,ab1 (eE rs many d x)]
   .rw[O9 h,O9 (by lia)]
theorem nK (n:Nat):∀k,TZ rs many (Qq n 0) k=0
 | 0=>rfl
 | k+1=>by
  rw[iC,nK n k,show(Qq n 0).getD (k+1) 0=0 by simp[SC,abe];split <;> rfl,A4];rfl
theorem A5 (wf:WF rs)(mk:SQ rs)(hr:rs[i]?=some r)(m:Nat):eE rs many (i+2) m=QO (r.map λd=>eE rs many d.2.toNat (cQ many (many-(aQ rs ((i+2:Nat):Int)).length) ((aQ rs ((i+2:Nat):Int)).idxOf d.1) m)):=by
 have ok:=wf i r hr;obtain⟨h,c⟩:=T3 _ ok.ne;have e:1<=(aQ rs ((i+2:Nat):Int)).length:=YB (gC mk hr c (by have:=ok.ahead h c;lia)).1;obtain⟨n,hn⟩:∃n,(aQ rs ((i+2:Nat):Int)).length=n+1:=⟨_,(Nat.sub_add_cancel e).symm⟩
 have f:aU rs ((i+2:Nat):Int)=r:=by
  have:=fF (rs:=rs) (k:=((i+2:Nat):Int)) (by have:=(QE.mp hr).1;lia);rw[show(((i+2:Nat):Int)-2).toNat=i by lia,hr] at this;exact(Sn this).symm
 unfold eE;rw[hn];show QO ((aU rs ((i+2:Nat):Int)).map λd=>gh rs many n d.2 _)=_;rw[f]
 congr 1
 refine Tb λd hd=>?_;have j:=ok.ahead d hd;obtain⟨a,b⟩:=gC mk hr hd (by lia);have g:((d.2.toNat:Nat):Int)=d.2:=by lia
 rw[g,b,U8 a,hn];rfl
def T1 (many:Nat)(c:List Nat):Prop:=∀x∈c,∃S:ak,x=aF many S/\∀o∈S,o∈aK many
theorem T1.getD (h:T1 many c)(k:Nat):∃S:ak,c.getD k 0=aF many S/\∀o∈S,o∈aK many:=by
 by_cases b:k<c.length
 .rw[SC,Qu b];exact h _ (Wy b)
 .rw[SC,abj (by lia)];exact⟨[],rfl,λo d=>nomatch d⟩
theorem T1.zero (n:Nat):T1 many (Qq n 0):=λx b=>⟨[],(List.mem_replicate.mp b).2,λo c=>nomatch c⟩
theorem T1.set (h:T1 many c)(hS:∀o∈S,o∈aK many):T1 many (c.set k (aF many S)):=λx b=>by
 rcases List.mem_or_eq_of_mem_set b with b|rfl
 .exact h x b
 .exact⟨S,rfl,hS⟩
theorem T1.or (h:T1 many c)(hS:∀o∈S,o∈aK many):T1 many (c.set k (c.getD k 0 ||| aF many S)):=by
 obtain⟨d,e,h0⟩:=h.getD k;rw[e,<-li];exact h.set λo b=>(QJ.mp b).elim (h0 o) (hS o)
noncomputable def Qp (a b:List Int):List Int:=a.map λt=>b.getD t.toNat 0
theorem rW (h:QG rs k=2 ^ many-1)(m8:many<=8):aQ rs (k:Int)=aw many:=by
 have:∀m,m<=8->(aw 8).filter (λt=>(2 ^ m-1).testBit t.toNat)=aw m:=by decide
 unfold aQ;rw[Rb,h];exact this many m8
theorem Fq {many:Nat}(wf:WF rs)(mk:SQ rs)(m1:1<=many)(m4:many<=4)(less:∀r∈rs,∀d∈r,d.1<(many:Int))(f1:1<=first)(fl:first<rs.length+2)(hm:QG rs first=2 ^ many-1)(hS:∀o∈S,o∈aK many):
  eE rs many first (aF many S)=aF many ((P9 rs first).flatMap λa=>S.map (Qp a))/\∀o∈(P9 rs first).flatMap λa=>S.map (Qp a),o∈aK many:=by
 have f:aQ rs (first:Int)=aw many:=rW hm (by lia);have rows:∀a∈P9 rs first,a∈aK many:=λa c=>qv (wI wf mk f1 fl hm a c)
 have g:(aQ rs (first:Int)).length=many:=by rw[f,bc]
 obtain⟨e,h⟩:=rE wf mk m1 m4 less many (first:Int) S (by lia) (by lia) (Po _) g (λo l=>by
  have:=(ir m1 (by lia) (rows o l)).1;exact this) hS
 have same:((eY rs (first:Int)).flatMap λr=>S.map (run (many-many) (aQ rs (first:Int)) r))=(P9 rs first).flatMap λa=>S.map (Qp a):=by
  show(P9 rs ((first:Nat):Int).toNat).flatMap _=_;rw[Rb];rw[List.flatMap_def,List.flatMap_def]
  congr 1
  refine Tb λa c=>?_;refine Tb λb j=>?_;rw[Z4,f];exact E8 many (in4 m1 m4) a (rows a c) b (hS b j)
 rw[same] at e h;refine⟨?_,h⟩;unfold eE;rw[g];exact e
end Bk
namespace L2
open PySem PySem.Spec PyProof.Rows
theorem C8:FP X (λx y H Q=>∃p xs i v,x=.ref p/\y=.int i/\0<=i/\Pg X.K H p xs/\Si xs i=some v/\Q v H):=by
 intro aa s f H x y v u Q I A l h;obtain⟨p,xs,i,z,rfl,rfl,h0,e,n,q⟩:=h;cases A;obtain⟨t,rfl⟩:=l;obtain⟨its,r,pl,hz⟩:=I.list e;obtain⟨j,b,m,F,C,o⟩:=pI n;obtain⟨w,g,c⟩:=r.get m;have D:=r.length;have E:=jm;have fin:EP X aa f Q w s:=⟨z,H,I,c,q⟩
 have d:i.toNat=j:=by
  rw[abW h0 o] at b;exact Sn b
 exact wpAny_getItem_list pl.isList h0 (by lia) (by rw[d];simpa using g) fin
end L2
namespace Bk
open Mx
theorem C9 (c)(k:Nat):TZ rs many (c.set 0 x) k=TZ rs many c k:=by
 unfold TZ
 congr 1
 refine Tb λi _=>?_;rw[show(c.set 0 x).getD (i+1) 0=c.getD (i+1) 0 by simp[SC,ZH]]
end Bk
namespace Ord
open PySem L2 Mx
theorem yQ (W:VS many rs first)(m4:many<=4):Bk.dQ rs first=Bk.aF many (Bk.P9 rs first)/\∀o∈Bk.P9 rs first,o∈Bk.aK many:=by
 rcases W.fst with h|⟨f,d,b⟩
 .subst h;unfold Bk.dQ;rw[Bk.ip];exact⟨rfl,λo e=>nomatch e⟩
 .have rows:∀a∈Bk.P9 rs first,a∈Bk.aK many:=λa c=>Bk.qv (Bk.wI W.rooms.wf W.rooms.mask (by lia) d b a c)
  refine⟨?_,rows⟩;unfold Bk.dQ;rw[Bk.rW b W.m8,Bk.nz W.m1 m4 rows]
theorem A6 {S os:Bk.ak}(W:VS many Ps f1)(m4:many<=4)(hS:∀o∈S,o∈Bk.aK many)(TL:∀o,o∈os↔∃a∈Bk.P9 Ps f1,∃b∈S,o=Bk.Qp a b):
  Bk.TZ Ps many ((Qq (Ps.length+2) 0).set f1 (Bk.aF many S)) (Ps.length+1)=Bk.aF many os:=by
 rcases W.fst with h|⟨p,l,n⟩
 .subst h;rw[Bk.C9,Bk.nK];have:os=[]:=Wj.mpr λo j=>by
   obtain⟨a,f,_⟩:=(TL o).mp j;rw[Bk.ip] at f;cases f
  rw[this];rfl
 .have m:(Qq (Ps.length+2) 0).getD f1 0=0:=by simp[SC,abe];split <;> rfl
  have e:=Bk.qy (rs:=Ps) (many:=many) (c:=Qq (Ps.length+2) 0) (d:=f1) (x:=Bk.aF many S) (by lia) (by rw[abi];exact l) (Ps.length+1);rw[m,Z5,Pf (by lia),Bk.nK,Z5] at e;rw[e,(Bk.Fq W.rooms.wf W.rooms.mask W.m1 m4 W.rooms.less (by lia) l n hS).1];refine Bk.yI λo=>?_;rw[TL o,RP];constructor
  .rintro⟨a,f,j⟩;obtain⟨b,g,rfl⟩:=P6.mp j;exact⟨a,f,b,g,rfl⟩
  .rintro⟨a,f,b,g,rfl⟩;exact⟨a,f,P6.mpr ⟨b,g,rfl⟩⟩
theorem w4 (h:k<n):V2 n (k:Int)=some k:=by
 unfold V2;rw[Pf (by lia),Pf (by lia),Rb]
noncomputable abbrev sM:Pc:=top 52
noncomputable abbrev GS:List N':=["one","other","many","things","swaps","came","number","left","place","door"]
def pA (K:O6):Sp:=λvs H Q _=>∃(x1 x2:V) (many:Nat) (Ps P1:List Bk.O5) (f1 f2:Nat) (os:Bk.ak),vs=[x1,x2]/\Se K H x1 many Ps f1/\VS many Ps f1/\Se K H x2 many P1 f2/\VS many P1 f2/\many<=4/\Bk.Qn many os/\
 (∀o,o∈os↔∃a∈Bk.P9 Ps f1,∃b∈Bk.P9 P1 f2,o=Bk.Qp a b)/\∀(t lr:f') (H':Hp),ar H H'->XV K H H' t lr many (bh many os).1 (bh many os).2->Q (.ref t) H'
theorem fP:Qc GS ["one","other"] (ap sM):={}
theorem Fr (F:PR K "put_behind" "put_behind" sM f fd)(T:Qj K mg CO)(WF:Df P w K mg base Ph 4 "things_from" ["many","rooms"] (oK K))(WSO:Df P w K mg base Ph 5 "swaps_of" ["many"] (rR K))(WMk:Df P w K mg base Ph 5 "marks_of" ["book"] (wS K))(WI:Df P w K mg base Ph 1 "things_in" ["bits"] (yF K))(WFt:Df P w K mg base Ph 2 "fetched" ["marks","swaps","place","later"] (rV K))(WB:Df P w K mg base Ph 10 "book_of_marks" ["many","marks"] (wY K)):Py P w K mg base Ph 11 f fd ["one","other"] (pA K):=by
 refine F.ok fP (λvs H Q E h=>?_) (λPi A outer s H vs Q E hr h=>?_)
 .obtain⟨x1,x2,many,g,O,D,N,os,rfl,_⟩:=h;rfl
 obtain⟨x1,x2,many,g,O,D,N,os,rfl,B1,u,B2,W2,Z,SO,TL,z⟩:=h;obtain⟨b,L,xs,rfl,qb,ql,pr⟩:=B1.ex;obtain⟨t1,g1⟩:=T.en;obtain⟨t2,g2⟩:=T.low;have ps:=zx (X:=(dI Ph P w K mg base GS "put_behind" (ap sM) f Pi A outer s H E).Sg) (E:=λ_ _ _ _=>False);refine⟨_,ae (ay (i:=2) fP.nd rfl (PB rfl) (bj cZ (pv 0) ao (λ_ _=>rfl)))
  (ae (ay (i:=3) fP.nd rfl (PB rfl) (az WF (hr.mono (by decide)) rfl ps (ac (pv 2) (ac (bj cZ (pv 0) ao (λ_ _=>rfl)) ad))))
  (ae (ay (i:=4) fP.nd rfl (PB rfl) (az WSO (hr.mono (by decide)) rfl ps (ac (pv 2) ad)))
  (ae (ay (i:=5) fP.nd rfl (PB rfl) (av zp (bf (ac ao ad)) (aB aN rfl T.t.len bN (ac (pv 3) ad))))
  (ae (FO (az WMk (hr.mono (by decide)) rfl ps (ac (pv 1) ad)) (FN (pv 5) (bj cZ (pv 0) ao (λ_ _=>rfl)) tD))
  (ae (bL RB rfl (rC rfl T.t.range (ac (av bM (aB aN rfl T.t.len bN (ac (pv 3) ad)) ao) (ac (aR (v:=.int 1) rfl g1 ⟨t1,rfl⟩) (ac (sj nS ao) ad)))) (bw (i:=6) fP.nd rfl (PB rfl))
   (ae (ay (i:=7) fP.nd rfl (PB rfl) (az WI (hr.mono (by decide)) rfl ps (ac (bj bB (pv 3) (pv 6) (λ_ _=>rfl)) ad)))
   (ae (ay (i:=8) fP.nd rfl (PB rfl) (av bM (pv 2) (aB aN rfl T.t.len bN (ac (pv 7) ad))))
   (ai (bL RB rfl (fK (bj bB (bj cZ (pv 0) ao (λ_ _=>rfl)) (av bM (pv 6) (aR (v:=.int 2) rfl g2 ⟨t2,rfl⟩)) (λ_ _=>rfl))) (bw (i:=9) fP.nd rfl (PB rfl))
    (ai (D8 (pv 5) (bj cZ (pv 9) ao (λ_ _=>rfl)) C8 (az WFt (hr.mono (by decide)) rfl ps (ac (bj bB (pv 5) (pv 6) (λ_ _=>rfl)) (ac (pv 4) (ac (pv 8) (ac (av bT (pv 8) (wQ (K:=K) rfl (pv 7) (ac (bj cZ (pv 9) ao (λ_ _=>rfl)) ad))) ad))))) yt tD)))))))
  (ai (aH (az WB hr rfl ps (ac (pv 2) (ac (bj bB (pv 5) (aR (v:=.int 1) rfl g1 ⟨t1,rfl⟩) (λ_ _=>rfl)) ad)))))))))),?_⟩
 have nvl:∀c:List Nat,(aZ c).length=c.length:=λc=>by unfold aZ;rw[PP]
 have Qk:=u.Qk;have m1:=u.m1;obtain⟨eM,hM⟩:=yQ W2 Z;have fl1:D<g.length+2:=by rcases u.fst with h|⟨_,h,_⟩ <;> lia
 have fl2:N<O.length+2:=by rcases W2.fst with h|⟨_,h,_⟩ <;> lia
 refine⟨_,rfl,b,_,0,.int many,rfl,rfl,qb,rfl,_,rfl,_,rfl,b,_,1,.ref L,rfl,rfl,qb,rfl,many,L,xs,g,rfl,ql,pr,u.rooms,λt H1 s1 h1=>?_⟩;refine⟨_,rfl,many,rfl,m1,Z,λls zs H2 s2 h2 pz=>?_⟩;refine⟨by show 1<=Pj;decide,λl0 TQ=>?_⟩;have s3:=af TQ (.lst [V.int 0]);have nl:(aZ (Bk.bz g)).length=g.length+2:=by unfold aZ;rw[PP,Bk.dj]
 have J:(upd H2 l0 (.lst [V.int 0])) t=some (.lst (aZ (Bk.bz g))):=s3 _ _ (s2 _ _ h1);refine⟨_,rfl,t,_,rfl,.inl (Pg.of J),l0,((aZ (Bk.bz g)).length:Nat),[V.int 0],rfl,rfl,ag,by lia,by lia,by rw[PY,nl];simp;lia,λlc I=>?_⟩;have e0:(Qq (((aZ (Bk.bz g)).length:Nat):Int).toNat [V.int 0]).flatten=aZ (Qq (g.length+2) 0):=by
  rw[nl,Rb];unfold aZ
  induction g.length+2 with
  | zero=>rfl
  | succ k ih=>rw[Wt,ZP,ih,Wt];rfl
 rw[e0];generalize hH3:upd H2 l0 (.lst [V.int 0])=H3 at s3 J I ⊢;have M:=(s1.trans s2).trans s3;have s4:=af I (.lst (aZ (Qq (g.length+2) 0)));refine⟨_,rfl,_,O,many,N,rfl,B2.same (M.trans s4),W2.rooms,Z,fl2,λH4 s5=>?_⟩;rw[eM];have c0l:(Qq (g.length+2) 0).length=g.length+2:=abi;refine⟨_,rfl,_,rfl,b,_,2,.int D,rfl,rfl,s5.Qh (s4.Qh (M.Qh qb)),rfl,lc,_,(D:Int),D,rfl,rfl,s5 _ _ ag,?_,?_⟩
 .rw[nvl,c0l];exact w4 fl1
 have e1:(aZ (Qq (g.length+2) 0)).set D (.int (Bk.aF many (Bk.P9 O N):Nat))=aZ ((Qq (g.length+2) 0).set D (Bk.aF many (Bk.P9 O N))):=by
  unfold aZ;rw[List.map_set]
 rw[e1];have st:=A6 u Z hM TL;have Vs:((Qq (g.length+2) 0).set D (Bk.aF many (Bk.P9 O N))).length=g.length+2:=by rw[adt,c0l]
 have mk0:Bk.T1 many ((Qq (g.length+2) 0).set D (Bk.aF many (Bk.P9 O N))):=(Bk.T1.zero _).set hM;generalize (Qq (g.length+2) 0).set D (Bk.aF many (Bk.P9 O N))=c0 at st Vs mk0 ⊢;have s6:ar H3 (upd H4 lc (.lst (aZ c0))):=λb' o q=>by
  rw[aq (au q I)];exact s5 _ _ (s4 _ _ q)
 have enl:(((aZ (Bk.bz g)).length:Int)-1-1).toNat=g.length:=by rw[nl];lia
 refine⟨_,rfl,t,_,rfl,.inl (Pg.of (s6 _ _ J)),_,_,rfl,rfl,_,rfl,((aZ (Bk.bz g)).length:Int)-1,1,rfl,by rw[nl];lia,vi (lo:=((aZ (Bk.bz g)).length:Int)-1) (n:=(((aZ (Bk.bz g)).length:Int)-1-1).toNat)
  (λi R H5=>∃(c:List Nat) (v6 v7 v8 v9:Option V),R=[some (.ref b),some x2,some (.int many),some (.ref t),some (.ref ls),some (.ref lc),v6,v7,v8,v9]/\ar H3 H5/\H5 lc=some (.lst (aZ c))/\c.length=g.length+2/\Bk.T1 many c/\Bk.TZ g many c (g.length+1-i)=Bk.aF many os)
  ⟨c0,none,none,none,none,rfl,s6,ag,Vs,mk0,st⟩ ?_ ?_⟩
 .rintro i R H5 hi ⟨c,v6,v7,v8,v9,rfl,s7,h7,cl,S,tc⟩;rw[enl] at hi;have en:((aZ (Bk.bz g)).length:Int)-1-(i:Int)=((g.length+1-i:Nat):Int):=by rw[nl];lia
  rw[en];obtain⟨j,hj⟩:∃j,g.length+1-i=j+2:=⟨g.length-1-i,by lia⟩
  rw[hj] at tc ⊢;have jl:j<g.length:=by lia
  have TW:g[j]?=some g[j]:=Qu jl;generalize g[j]=r at TW;have ok:=u.rooms.wf j r TW;refine⟨_,rfl,_,rfl,t,_,((j+2:Nat):Int),_,rfl,rfl,Pg.of (s7 _ _ J),eA (by rw[Bk.dj];lia),_,rfl,λlf H6 s8 Vt h8=>?_⟩;have e5:Bk.iy ((Bk.bz g).getD (j+2) 0) 8=Bk.aQ g ((j+2:Nat):Int):=Bk.rH g (j+2);rw[e5] at h8;have t4:=Bk.nE u.rooms.wf u.rooms.mask u.m8 u.rooms.less (k:=j+2) (by lia);generalize Zt:Bk.aQ g ((j+2:Nat):Int)=ts at h8 t4;refine⟨_,rfl,_,rfl,lf,_,rfl,.inl (Pg.of h8),_,_,rfl,rfl,?_⟩;have s9:=s7.trans s8;have S9:=M.trans s9;obtain⟨x,hx,ra⟩:=fc pr TW;obtain⟨a,ds,rfl,qa,pd⟩:=ra;have pdl:=pd.length;have r8:r.length<=8:=Bk.kT ok.rise λd hd=>by
   obtain⟨a1,a2,_⟩:=u.rooms.mask j r TW d hd;exact⟨a1,a2⟩
  have em:(many:Int)-((ts.map V.int).length:Int)=((many-ts.length:Nat):Int):=by rw[PP];lia
  have fact:∀d∈r,d.1∈ts:=λd hd=>Zt▸(Bk.gC u.rooms.mask TW hd (by have:=ok.ahead d hd;lia)).1;obtain⟨Sk,eSk,hSk⟩:=S.getD (j+2);have lcf:lf≠lc:=λe=>by rw[e,h7] at Vt;cases Vt
  refine⟨_,rfl,b,_,1,.ref L,rfl,rfl,S9.Qh qb,rfl,_,rfl,_,_,rfl,rfl,L,_,(j:Int),.ref a,rfl,congrArg V.int (show((j+2:Nat):Int)-2=(j:Int) by lia),S9.RS ql,bU hx,a,rfl,⟨_,S9.Qh qa⟩,jk (K:=K) (a:=a) (xs:=ds)
   (λn R W=>∃(m:List Nat) (v9:Option V),R=[some (.ref b),some x2,some (.int many),some (.ref t),some (.ref ls),some (.ref lc),some (.int ((j+2:Nat):Int)),some (.ref lf),some (.int ((many:Int)-((ts.map V.int).length:Int))),v9]/\ar H3 W/\W lf=some (.lst (ts.map V.int))/\W lc=some (.lst (aZ m))/\m.length=g.length+2/\Bk.T1 many m/\m.getD (j+2) 0=Bk.aF many Sk/\
    Bk.TZ g many m (j+1) ||| Bk.QO ((r.drop n).map λd=>Bk.eE g many d.2.toNat (Bk.cQ many (many-ts.length) (ts.idxOf d.1) (Bk.aF many Sk)))=Bk.aF many os)
   ⟨c,v9,rfl,s9,h8,s8 _ _ h7,cl,S,eSk,?_⟩ ?_ ?_ ?_⟩
  .rw[ZW,<-tc,Bk.iC c (j+1),Bk.A5 u.rooms.wf u.rooms.mask TW,Zt,eSk]
  .rintro n R W _ ⟨m,v9',rfl,TY,_⟩;exact TY.Qh (M.Qh qa)
  .rintro n y R W hy ⟨m,v9',rfl,TY,Ul,C,Y,U,ek',G⟩;obtain⟨d,hd,p,rfl,qp⟩:=bS pd hy;have dm:=QF hd;have ah:=ok.ahead d dm;have qp':=TY.Qh (M.Qh qp);obtain⟨k,hk⟩:∃k:Nat,d.2=(k:Int):=⟨d.2.toNat,by lia⟩
   have il:=Yy (fact d dm);have kl:k<g.length+2:=by lia
   have pz3:Pl (Wc K W) zs (dw many (many-1)):=aJ (λ_ _ z=>z.same (s3.trans TY)) pz;refine⟨_,rfl,_,rfl,p,_,1,.int d.2,rfl,rfl,qp',jb,lc,_,d.2,_,rfl,rfl,by lia,Pg.of C,(by rw[hk];exact eA (by lia)),?_⟩;refine⟨_,rfl,_,rfl,lc,_,((j+2:Nat):Int),_,rfl,rfl,Pg.of C,eA (by lia),_,rfl,_,rfl,_,rfl,_,rfl,.inl ⟨rfl,_,Pg.of Ul⟩,_,rfl,p,_,0,.int d.1,rfl,rfl,qp',gJ,?_⟩;refine⟨lf,_,.int d.1,ts.idxOf d.1,rfl,rfl,Pg.of Ul,rfl,?_,?_,?_,?_⟩
   .rw[aaG];simp[cp]
   .refine⟨.int d.1,?_,by simp[Re]⟩;rw[Q6,Qu il,aan];rfl
   .intro i' y' Q3 Uj;rw[Q6,Qu (aaF Q3 il)] at Uj;cases Uj;have:=afd (xs:=ts) (p:=λx=>x==d.1) Q3;simpa [Re] using this
   refine⟨_,_,rfl,rfl,many,many-ts.length,many-ts.length+ts.idxOf d.1,Sk,ls,zs,?_,m1,Z,hSk,Pg.of (s3.trans TY _ _ h2),pz3,by lia,by lia,?_⟩
   .dsimp only;rw[ek',em,abE]
   rw[show many-ts.length+ts.idxOf d.1-(many-ts.length)=ts.idxOf d.1 by lia];obtain⟨ef,hf⟩:=Bk.iT (p:=many-ts.length) (k:=ts.idxOf d.1) m1 Z (by lia) hSk;refine⟨_,_,rfl,rfl,lc,_,d.2,k,rfl,rfl,C,?_,?_⟩
   .rw[nvl,hk];exact w4 (by lia)
   have dk:d.2.toNat=k:=by lia
   have ev:(aZ m).set k (.int (XF ((m.getD k 0:Nat):Int) ((Bk.cQ many (many-ts.length) (ts.idxOf d.1) (Bk.aF many Sk):Nat):Int)))=aZ (m.set k (m.getD k 0 ||| Bk.cQ many (many-ts.length) (ts.idxOf d.1) (Bk.aF many Sk))):=by
    rw[gA];unfold aZ;rw[List.map_set]
   refine⟨m.set k (m.getD k 0 ||| Bk.cQ many (many-ts.length) (ts.idxOf d.1) (Bk.aF many Sk)),some (.ref p),rfl,λb' o q=>?_,?_,?_,by rw[adt];exact Y,?_,?_,?_⟩
   .rw[aq (au q I)];exact TY _ _ q
   .rw[aq lcf];exact Ul
   .rw[ag];exact congrArg (λl=>some (HO.lst l)) ev
   .rw[ef];exact U.or hf
   .rw[<-ek'];simp only[SC];rw[ZH (by lia)]
   .rw[Bk.qy (by lia) (by lia),Pf (by lia),<-G,aae (QE.mp hd).1,(QE.mp hd).2];show _=_ ||| (Bk.eE g many d.2.toNat _ ||| Bk.QO _)
    rw[dk,Te]
  .rintro R W ⟨m,v9',rfl,TY,Ul,C,Y,U,ek',G⟩;rw[pdl,adr] at G;refine⟨m,_,_,_,_,rfl,TY,C,Y,U,?_⟩;rw[show g.length+1-(i+1)=j+1 by lia];rw[<-G];show _=_ ||| 0;rw[Nat.or_zero]
 .rintro R H5 ⟨c,v6,v7,v8,v9,rfl,s7,h7,cl,S,tc⟩;rw[enl,show g.length+1-g.length=1 by lia,Bk.Fp] at tc;refine⟨_,rfl,_,rfl,lc,_,1,_,rfl,rfl,Pg.of h7,(eA (k:=1) (by lia)),?_⟩;rw[tc];exact⟨many,os,rfl,Z,SO,λt' lr H6 s8 B=>z t' lr H6 ((M.trans s7).trans s8) ⟨(M.trans s7).free B.ft,(M.trans s7).free B.fl,B.at_,B.rooms⟩⟩
end Ord
namespace Bk
open Mx
theorem Fs (h:i<a.length):(Qp a b).getD i 0=b.getD (a.getD i 0).toNat 0:=by
 unfold Qp;rw[SC,Q6,Qu h,SC (l:=a),Qu h];rfl
theorem qz (m1:1<=many)(m5:many<=5)(h:o∈aK many):o.length=many/\∀x∈o,0<=x/\x<(many:Int):=by
 have p:=iP m1 m5 h;refine⟨by rw[<-p.length_eq,bc],λx b=>?_⟩;have:=br.mp (p.mem_iff.mpr b);lia
theorem A7 (h:∀x∈a,0<=x/\x<(b.length:Int)):Qp a (Qp b c)=Qp (Qp a b) c:=by
 show(a.map λt=>(Qp b c).getD t.toNat 0)=(a.map λt=>b.getD t.toNat 0).map λt=>c.getD t.toNat 0;rw[TC];refine Tb λt d=>?_;have:=h t d;rw[Fs (by lia)];rfl
theorem iZ:∀many∈[1,2,3,4],(aK many).contains (aw many)=true/\∀a∈aK many,Qp a (aw many)=a/\Qp (aw many) a=a/\∀b∈aK many,(aK many).contains (Qp a b)=true:=by decide +kernel
theorem j1 (m1:1<=many)(m4:many<=4):aw many∈aK many:=by simpa using (iZ many (in4 m1 m4)).1
theorem lA (m1:1<=many)(m4:many<=4)(h:a∈aK many):Qp a (aw many)=a:=((iZ many (in4 m1 m4)).2 a h).1
theorem A8 (m1:1<=many)(m4:many<=4)(h:a∈aK many):Qp (aw many) a=a:=((iZ many (in4 m1 m4)).2 a h).2.1
theorem vj (m1:1<=many)(m4:many<=4)(h:a∈aK many)(h':b∈aK many):Qp a b∈aK many:=by simpa using ((iZ many (in4 m1 m4)).2 a h).2.2 b h'
inductive Gen (many:Nat)(some:ak):List Int->Prop where
 | plain:Gen many some (aw many)
 | step {a b:List Int}:Gen many some a->b∈some->Gen many some (Qp a b)
theorem Gen.all {some:ak}(m1:1<=many)(m4:many<=4)(hs:∀b∈some,b∈aK many)(g:Gen many some o):o∈aK many:=by
 induction g with
 | plain=>exact j1 m1 m4
 | step _ d c=>exact vj m1 m4 c (hs _ d)
theorem Gen.one {some:ak}(m1:1<=many)(m4:many<=4)(hs:∀b∈some,b∈aK many)(h:b∈some):Gen many some b:=by
 have:=Gen.step (Gen.plain (many:=many)) h;rwa[A8 m1 m4 (hs b h)] at this
theorem Gen.Qp {some:ak}(m1:1<=many)(m4:many<=4)(hs:∀b∈some,b∈aK many)(ha:Gen many some a)(hb:Gen many some b):Gen many some (Qp a b):=by
 induction hb with
 | plain=>rw[lA m1 m4 (ha.all m1 m4 hs)];exact ha
 | step e hd c=>
  have d:=(qz m1 (by lia) (ha.all m1 m4 hs)).2;have g:=(qz m1 (by lia) (e.all m1 m4 hs)).1;rw[A7 (λx f=>by rw[g];exact d x f)];exact c.step hd
theorem w5 {some S:ak}(h0:aw many∈S)(h1:∀a∈S,∀b∈some,Qp a b∈S)(g:Gen many some o):o∈S:=by
 induction g with
 | plain=>exact h0
 | step _ d c=>exact h1 _ c _ d
end Bk
namespace Ord
open PySem L2 Mx
def DD (K:O6):Sp:=λvs H Q _=>∃(x:V) (many:Nat) (rs:List Bk.O5) (first:Nat) (a:f') (o:List Int),vs=[x,.ref a]/\Se K H x many rs first/\VS many rs first/\Tp K H a o/\i8 many o/\Bk.kP rs first o/\
 ∀H',ar H H'->Q (.bl (decide (Bk.Tk rs first o=1))) H'
theorem sN:Qc ["book","order","number","thing"] ["book","order"] (ap CB):={}
theorem GT (F:PR K "has" "has" CB f fd)(T:Qj K mg CO)(WB:Df P w K mg base Ph 11 "look_book" ["book"] (uI K))(WL:Df P w K mg base (QQ P w) 4 "look_order" ["many","order"] (oo K CO))(WD:Df P w K mg base Ph 1 "behind_door" ["room","thing"] (rn K)):Py P w K mg base (QQ P w) 12 f fd ["book","order"] (DD K):=by
 refine F.Yd sN (λvs H Q E h=>?_) (λX Pi A outer s H vs Q E I R Um n h=>?_)
 .obtain⟨x,many,rs,first,a,o,rfl,_⟩:=h;rfl
 obtain⟨x,many,rs,first,a,o,rfl,B,W,p,good,go,z⟩:=h;obtain⟨b,l,xs,rfl,q,J,pr⟩:=id B.ex;obtain⟨t0,C⟩:=T.no;obtain⟨t1,m1⟩:=T.en;obtain⟨u,Z⟩:=T.low;subst I;refine⟨_,ae (bA (az WB n rfl pS (ac (pv 0) ad)))
  (ae (bA (az WL (n.mono (by decide)) rfl R (ac (Rq K (pv 0) ao) (ac (pv 1) ad))))
  (ae (ay (i:=2) sN.nd rfl (PB rfl) (Rq K (pv 0) ao))
  (ae (PS.Sg (bL RB rfl (fK (pv 1)) (bw (i:=3) sN.nd rfl (PB rfl))
   (ae (aY (aP cY (pv 2) (aR (v:=.int 0) rfl C ⟨t0,rfl⟩) (aW _)) (ai (aH gn)) aI)
   (ai (ay (i:=2) sN.nd rfl (PB rfl) (az WD (n.mono (by decide)) rfl pS (ac (bj (show SY _ (fL K) from bB) (Rq K (pv 0) ao) (av bM (pv 2) (aR (v:=.int 2) rfl Z ⟨u,rfl⟩)) (λ_ _=>rfl)) (ac (pv 3) ad))))))))
  (ai (aH (gQ cY (pv 2) (aR (v:=.int 1) rfl m1 ⟨t1,rfl⟩) (aW _))))))),?_⟩
 refine⟨_,rfl,.ref b,many,rs,first,rfl,B,W,λH1 s1=>?_⟩;refine⟨_,rfl,b,_,0,.int many,rfl,rfl,s1.Qh q,gJ,_,rfl,many,a,o,rfl,bI (by have:=W.m8;lia) (by have:=W.m8;lia),p.same s1,λ_ D s2=>?_,λG=>Pp good G⟩;have Rz:=s1.trans s2;refine⟨_,rfl,b,_,2,.int first,rfl,rfl,Rz.Qh q,Ct,?_⟩;have L:(o.map V.int).length=o.length:=PP _;refine⟨_,rfl,a,rfl,⟨_,Rz.Qh p.sq⟩,jk (K:=K) (a:=a) (xs:=o.map V.int) (λi j d=>∃(k:Int) (m:Option V),j=[some (.ref b),some (.ref a),some (.int k),m]/\d=D/\Bk.Tk rs first o=Bk.Tk rs k (o.drop i)/\Bk.kP rs k (o.drop i)) ⟨first,none,rfl,rfl,rfl,go⟩ ?_ ?_ ?_⟩
 .rintro i j d _ ⟨k,m,rfl,rfl,_⟩;exact Rz.Qh p.sq
 .rintro i y j d hy ⟨k,m,rfl,rfl,e,g⟩;obtain⟨t,rfl,M⟩:=gS hy;obtain⟨S,ie⟩:=QE.mp M;rw[aae S,ie] at e g;refine⟨_,rfl,rfl,_,rfl,?_⟩
  by_cases c:k=0
  .subst c;rw[P7 rfl];refine bn ?_;rw[Bk.kM] at e;have:=z d Rz;rw[e] at this;exact this
  .rw[P8 (λh=>c (V.int.inj h))];refine ba ?_;obtain⟨k2,kl,g'⟩:2<=k/\(k-2).toNat<rs.length/\Bk.kP rs (Bk.dL (Bk.aU rs k) t) (o.drop (i+1)):=by
    rcases g with h|h
    .exact Pp h c
    .exact h
   obtain⟨x,U,O⟩:=fc pr (Bk.fF kl);have N:Si xs (k-2)=some x:=by
    have:=bU U;rw[show(((k-2).toNat:Nat):Int)=k-2 by lia] at this;exact this
   refine⟨_,rfl,b,_,1,.ref l,rfl,rfl,Rz.Qh q,jb,_,rfl,k,2,rfl,rfl,l,xs,k-2,x,rfl,rfl,Rz.RS J,N,_,rfl,x,_,t,rfl,O.same Rz,_,_,rfl,rfl,?_,g'⟩;rw[e];show(if k=0 then 0 else _)=_;rw[O9 c]
 .rintro j d ⟨k,m,rfl,rfl,e,g⟩;rw[L,adr] at e;refine⟨_,rfl,rfl,?_⟩;have:=z d Rz;rw[e] at this;have Y:decide (V.int k=V.int 1)=decide (Bk.Tk rs k []=1):=by
   show decide (V.int k=V.int 1)=decide (k=1)
   by_cases c:k=1
   .subst c;rfl
   .rw[P8 c,P8 (λh=>c (V.int.inj h))]
  show Q (.bl (decide (V.int k=V.int 1))) d;rw[Y];exact this
end Ord
namespace L2
open PySem PySem.Spec PyProof.Rows
theorem Py.or {K:O6}(F:Py P w K mg base CX k f fd ps sp)(F':Py P w K mg base CX k f fd ps sp'):
  Py P w K mg base CX k f fd ps (λvs H Q E=>sp vs H Q E\/sp' vs H Q E):=
 ⟨λvs H Q E q=>q.elim (F.len vs H Q E) (F'.len vs H Q E),λA outer s H args us vs Q E b c d e g=>g.elim (F.run A outer s H args us vs Q E b c d e) (F'.run A outer s H args us vs Q E b c d e)⟩
end L2
namespace Ord
open PySem L2 Mx
noncomputable abbrev vm:Pc:=top 54
noncomputable abbrev sP:Pc:=top 53
noncomputable abbrev j2:Pc:=top 55
def qA:Sp:=λvs H Q _=>∃n:Nat,vs=[.int n]/\n<=100/\∀(r:f') (H':Hp),ar H H'->H' r=some (.tup ((aw n).map V.int))->Q (.ref r) H'
theorem Ft:Qc ["many"] ["many"] (ap vm):={}
theorem Da (F:PR K "plain_order" "plain_order" vm f fd)(T:Qj K mg CO):Py P w K mg base Ph 1 f fd ["many"] qA:=by
 refine F.ok Ft (λvs H Q E h=>?_) (λl A outer s H vs Q E m h=>?_)
 .obtain⟨n,rfl,_⟩:=h;rfl
 obtain⟨n,rfl,j,z⟩:=h;refine⟨_,ai (aH (aV (dE rfl) rfl T.t.tuple cw (ac (aV dG rfl T.t.range fA (ac (pv 0) ad)) ad))),?_⟩;refine⟨_,rfl,(n:Int),rfl,λc e=>⟨c,0,n,rfl,ag,by decide,by decide,by lia,by lia,by rw[PY];lia,λb g=>?_⟩⟩;have d:cU 0 ((n:Int)-0).toNat=(Mx.aw n).map V.int:=by rw[cA,show((n:Int)-0).toNat=n by lia]
 rw[d];exact z b _ ((af e _).trans (af g _)) ag
def vn (K:O6)(CO:f'):Sp:=λvs H Q E=>∃(many:Nat) (l:f') (ys:List V) (os:Bk.ak),vs=[.int (many:Int),.ref l]/\Pg K H l ys/\Pl (λy o=>∃a,y=.ref a/\Tp K H a o) ys os/\1<=many/\many<=8/\¬(∀o∈os,i8 many o)/\∀H',ar H H'->E (.ref CO) none H'
theorem A9 (F:PR K "book_of" "book_of" mf f fd)(WC:Df P w K mg base (QQ P w) 3 "look_count" ["many"] (jq CO))(WL:Df P w K mg base (QQ P w) 4 "look_order" ["many","order"] (oo K CO)):Py P w K mg base (QQ P w) 12 f fd ["many","orders"] (vn K CO):=by
 refine F.Yd gc (λvs H Q E h=>?_) (λX J A outer s H vs Q E C u L t h=>?_)
 .obtain⟨many,l,m,os,rfl,_⟩:=h;rfl
 obtain⟨many,l,m,os,rfl,p,py,N,M,x,z⟩:=h;have D:=py.length;subst C;refine⟨_,ae (bA (az WC (t.mono (by decide)) rfl u (ac (pv 0) ad)))
  (ae (bL (show PassesOwn _ _ _ _ from PassesOwn.leaving) rfl (cf (pv 1)) (bw (i:=2) gc.nd rfl (PB rfl)) (ai (bA (az WL (t.mono (by decide)) rfl u (ac (pv 0) (ac (pv 2) ad))))))
  (ae aM (ae aM (ae aM (ai aM))))),?_⟩
 refine⟨_,rfl,(many:Int),rfl,bI (by lia) (by lia),?_⟩;rw[Pf (by lia)];refine⟨_,rfl,l,rfl,⟨_,p⟩,cP (K:=K) (a:=l) (xs:=m) (λi b c=>∃d,b=[some (.int (many:Int)),some (.ref l),d,none,none]/\ar H c/\∀o∈os.take i,i8 many o) ⟨none,rfl,ar.refl _,λo j=>by cases j⟩ ?_ ?_ ?_⟩
 .rintro i b c _ ⟨d,rfl,s2,_⟩;exact s2.RS p
 .rintro i y b c G ⟨d,rfl,s2,e⟩;obtain⟨o,j,a,rfl,I⟩:=bS py G;refine⟨_,rfl,_,rfl,(many:Int),a,o,rfl,bI (by lia) (by lia),I.same s2,λg n s3=>⟨_,rfl,s2.trans s3,λv h'=>?_⟩,λ_ n s3=>z n (s2.trans s3)⟩;rw[bC j] at h';rcases QJ.mp h' with h' | h'
  .exact e v h'
  .rw[Qw.mp h'];exact g
 .rintro b c ⟨d,rfl,s2,e⟩;rw[D,SD] at e;exact Pp e x
abbrev w6 (K:O6)(CO:f'):Sp:=λvs H Q E=>uN K vs H Q E\/vn K CO vs H Q E
theorem xa {os os':Bk.ak}(S:Bk.Qn many os)(S':Bk.Qn many os')(h:bh many os=bh many os'):os=os':=by
 rw[<-Qn.P9 S,<-Qn.P9 S',h]
noncomputable def R7 (many:Nat)(S:Bk.ak):Bk.ak:=(Bk.aK many).filter λp=>(S.flatMap λa=>S.map (Bk.Qp a)).contains p
structure Yq (many:Nat)(some S:Bk.ak):Prop where
 ok:Bk.Qn many S
 pl:aw many∈S
 sub:∀b∈some,b∈S
 gen:∀o∈S,Bk.Gen many some o
theorem pB (m1:1<=many)(m4:many<=4)(h:∀o∈S,o∈Bk.aK many)(p):p∈R7 many S↔∃a∈S,∃b∈S,p=Bk.Qp a b:=by
 unfold R7;rw[So,afh,RP];constructor
 .rintro⟨_,a,c,e⟩;obtain⟨b,d,rfl⟩:=P6.mp e;exact⟨a,c,b,d,rfl⟩
 .rintro⟨a,c,b,d,rfl⟩;exact⟨Bk.vj m1 m4 (h a c) (h b d),a,c,P6.mpr ⟨b,d,rfl⟩⟩
variable {some:Bk.ak} in
theorem yR (m4:many<=4)(hs:∀b∈some,b∈Bk.aK many)(M:Yq many some S):Yq many some (R7 many S)/\∀o∈S,o∈R7 many S:=by
 have m1:=M.ok.m1;have e:=pB m1 m4 M.ok.mem;have up:∀o∈S,o∈R7 many S:=λo c=>(e o).mpr ⟨o,c,_,M.pl,(Bk.lA m1 m4 (M.ok.mem o c)).symm⟩;refine⟨⟨Bk.Qn.of m1 m4 Wv,up _ M.pl,λb d=>up b (M.sub b d),λo c=>?_⟩,up⟩;obtain⟨a,f,b,d,rfl⟩:=(e o).mp c;exact(M.gen a f).Qp m1 m4 hs (M.gen b d)
theorem nL (S0:Bk.Qn many S):S.Nodup:=S0.Rs.imp λh e=>by subst e;exact Pp h (Bk.lt_irrefl _)
variable {some:Bk.ak} in
theorem GU (m4:many<=4)(hs:∀b∈some,b∈Bk.aK many)(M:Yq many some S):(bh many (R7 many S)=bh many S->∀o,o∈S↔Bk.Gen many some o)/\(bh many (R7 many S)≠bh many S->S.length<(R7 many S).length):=by
 have m1:=M.ok.m1;obtain⟨d,up⟩:=yR m4 hs M;refine⟨λe o=>⟨M.gen o,λg=>?_⟩,λne=>?_⟩
 .have es:=xa d.ok M.ok e;exact Bk.w5 M.pl (λa c b f=>by
   have:=(pB m1 m4 M.ok.mem _).mpr ⟨a,c,b,M.sub b f,rfl⟩;rwa[es] at this) g
 .have le:=bZ S (R7 many S) (nL M.ok) up;refine Nat.lt_of_le_of_ne le λe=>ne (iQ λo=>⟨λj=>?_,up o⟩);refine Wm λno=>?_;have:=bZ (o::S) (R7 many S) (Td.mpr ⟨no,nL M.ok⟩) λx l=>(PN.mp l).elim (λh=>h▸j) (up x);rw[Q0] at this;lia
noncomputable abbrev NMd:List N':=["many","orders","book","more"]
structure TxM (K)(mg:N'->Option D')(CO:f'):Prop where
 t:Qj K mg CO
 most:∃t,mg "MOST_MADE_OF"=some (.int 6 t)
def iD (K:O6)(CO:f'):Sp:=λvs H Q E=>∃(m:Int) (l:f'),vs=[.int m,.ref l]/\
 ((∃(many:Nat) (ys:List V) (os S:Bk.ak),m=many/\1<=many/\many<=4/\H l=some (.lst ys)/\Pl (aA.rep K H) ys os/\(∀o∈os,o∈Bk.aK many)/\os.length<=8/\Bk.Qn many S/\(∀o,o∈S↔Bk.Gen many os o)/\∀(t:f') (H':Hp),ar H H'->Se K H' (.ref t) many (bh many S).1 (bh many S).2->Q (.ref t) H')\/
 (Yk m/\¬(1<=m/\m<=6)/\∀H',ar H H'->E (.ref CO) none H')\/
 (∃(many:Nat) (ys:List V) (os:Bk.ak),m=many/\1<=many/\many<=4/\H l=some (.lst ys)/\Pl (λy o=>∃a,y=.ref a/\Tp K H a o) ys os/\os.length<=8/\¬(∀o∈os,i8 many o)/\∀H',ar H H'->E (.ref CO) none H'))
theorem lB:Qc NMd ["many","orders"] (ap sP):={}
theorem Fu (F:PR K "made_of" "made_of" sP f fd)(TM:TxM K mg CO)(WC:Df P w K mg base (QQ P w) 3 "look_count" ["many"] (jq CO))(WB:Df P w K mg base (QQ P w) 12 "book_of" ["many","orders"] (w6 K CO))(WPl:Df P w K mg base Ph 1 "plain_order" ["many"] qA)(WP:Df P w K mg base Ph 11 "put_behind" ["one","other"] (pA K)):Py P w K mg base (QQ P w) 13 f fd ["many","orders"] (iD K CO):=by
 have T:=TM.t;refine F.Yd lB (λvs H Q E h=>?_) (λX Pi A outer s H vs Q E hX hp Um N h=>?_)
 .obtain⟨m,l,rfl,_⟩:=h;rfl
 obtain⟨m,l,rfl,h⟩:=h;obtain⟨t6,m6⟩:=TM.most;subst hX;have hu4:(dI (QQ P w) P w K mg base NMd "made_of" (ap sP) f Pi A outer s H E).A.units+jT.QV<PK:=by
  have:=N.units;show _+4<PK;lia
 refine⟨_,ae (bA (az WC (N.mono (by decide)) rfl hp (ac (pv 0) ad)))
  (ae (aY (aP xy (pv 0) (aR (v:=.int 6) rfl m6 ⟨t6,rfl⟩) (aW _)) (ai (hW rfl rfl T.t.bo Um (ac (jo (cg (fz (k:=100) (by decide)) (cg (n9 (aR (v:=.int 6) rfl m6 ⟨t6,rfl⟩)) (cg (fz (k:=100) (by decide)) ky))) (by decide)) ad))) aI)
  (ae (ay (i:=2) lB.nd rfl (PB rfl) (az WB N rfl hp (ac (pv 0) (ac (av gv (pv 1) (bf (ac (az WPl (N.mono (by decide)) rfl pS (ac (pv 0) ad)) ad))) ad))))
  (ae (ay (i:=3) lB.nd rfl (PB rfl) (az WP (N.mono (by decide)) rfl pS (ac (pv 2) (ac (pv 2) ad))))
  (ae (PS.Sg (sX RB (aP (tV jT hu4) (pv 3) (pv 2) (aW _))
   (ae (ay (i:=2) lB.nd rfl (PB rfl) (pv 3)) (ai (ay (i:=3) lB.nd rfl (PB rfl) (az WP (N.mono (by decide)) rfl pS (ac (pv 2) (ac (pv 2) ad))))))))
  (ai (aH (pv 2))))))),?_⟩
 rcases h with⟨many,j,os,S,rfl,G,C,hl,po,L,Qk,SS,gen,z⟩|⟨SN,no,z⟩|⟨many,j,os,rfl,G,C,hl,po,Qk,ng,z⟩
 .refine⟨_,rfl,(many:Int),rfl,bI (by lia) (by lia),?_⟩;rw[Pf (by lia)];refine⟨_,rfl,_,_,rfl,rfl,_,rfl,?_⟩;rw[P8 (show ¬((6:Int)<(many:Int)) by lia)];have pl:=po.length;refine ba ⟨_,rfl,_,rfl,_,rfl,many,rfl,by lia,λr Y s1 h1=>⟨by show 1<=Pj;decide,λI W=>?_⟩⟩;have s2:=s1.trans (af W (.lst [.ref r]));have QM:(upd Y I (.lst [.ref r])) l=some (.lst j):=s2 _ _ hl;refine⟨l,I,j,[.ref r],rfl,rfl,QM,ag,by rw[PY];show j.length+1<=_;lia,λJ h2=>?_⟩;have s3:=af h2 (.lst (j++[.ref r]));have U:Pl (aA.rep K (upd (upd Y I (.lst [.ref r])) J (.lst (j++[.ref r])))) (j++[.ref r]) (os++[aw many]):=ck (aJ (λ_ _ z=>aA.mono (s2.trans s3) z) po) (.cons (cJ (Pw.of (s3 _ _ (af W _ _ _ h1)))) .nil);have h3:(upd (upd Y I (.lst [.ref r])) J (.lst (j++[.ref r]))) J=some (.lst (j++[.ref r])):=ag;have Yr:=s2.trans s3;generalize (upd (upd Y I (.lst [.ref r])) J (.lst (j++[.ref r])))=H3 at U h3 Yr ⊢;have R1:∀o∈os++[aw many],o∈Bk.aK many:=λo h=>(QJ.mp h).elim (L o) λh=>by rw[Qw.mp h];exact Bk.j1 G C
  obtain⟨O,e0⟩:∃O,O=(Bk.aK many).filter λp=>(os++[aw many]).contains p:=⟨_,rfl⟩
  have D:∀p,p∈O↔p∈os++[aw many]:=λp=>by
   rw[e0,So,afh];exact⟨λh=>h.2,λh=>⟨R1 p h,h⟩⟩
  have M0:Yq many os O:=⟨e0▸Bk.Qn.of G C Wv,(D _).mpr (RA _ (Qw.mpr rfl)),λb hb=>(D _).mpr (R8 _ hb),λo h=>(QJ.mp ((D o).mp h)).elim (λh=>Bk.Gen.one G C L h) λh=>by rw[Qw.mp h];exact .plain⟩
  refine .inl ⟨many,J,_,os++[aw many],rfl,Pg.of h3,U,λo h=>jS G (by lia) (R1 o h),G,by lia,by rw[QI];show os.length+1<64;lia,λt lr H4 s4 B4=>?_⟩;rw[iQ (os:=os++[aw many]) (os':=O) λp=>(D p).symm] at B4;have put:∀{d:Bk.ak}{n:f'}{R:Hp}{Q':VK}{E':XK},Yq many os d->Se K R (.ref n) many (bh many d).1 (bh many d).2->(∀(g:f') (u:Hp),ar R u->Se K u (.ref g) many (bh many (R7 many d)).1 (bh many (R7 many d)).2->Q' (.ref g) u)->pA K [.ref n,.ref n] R Q' E':=λ{d n R Q' E'} M B zz=>by
   obtain⟨M2,_⟩:=yR C L M;refine⟨_,_,many,_,_,_,_,R7 many d,rfl,B,Qn.whole M.ok,B,Qn.whole M.ok,C,M2.ok,λp=>?_,λg lr2 u s6 B6=>zz g u s6 B6.a⟩;rw[Qn.P9 M.ok];exact pB G C M.ok.mem p
  refine⟨_,rfl,_,rfl,?_⟩;dsimp only[pF];refine put (E':=λ_ _ _=>False) M0 B4.a λg R s5 B5=>?_;have Zz:=Yr.trans (s4.trans s5);refine⟨λm σ u=>∃(d:Bk.ak) (n g:f'),σ=[some (.int (many:Int)),some (.ref l),some (.ref n),some (.ref g)]/\ar H u/\Yq many os d/\Se K u (.ref n) many (bh many d).1 (bh many d).2/\Se K u (.ref g) many (bh many (R7 many d)).1 (bh many (R7 many d)).2/\m=24-d.length,⟨_,O,t,g,rfl,Zz,M0,B4.a.same s5,B5,rfl⟩,?_⟩;rintro m σ u ⟨d,n,g,rfl,s6,M1,B1,B2,rfl⟩;obtain⟨q1,q2⟩:=GU C L M1;obtain⟨M2,_⟩:=yR C L M1;have l2':=M2.ok.len;refine⟨_,rfl,_,rfl,_,_,ge B2,ge B1,_,rfl,?_⟩;rw[Pf rfl]
  by_cases ee:bh many (R7 many d)=bh many d
  .rw[P7 (jU.mpr ee)];refine ba ⟨_,rfl,z n u s6 ?_⟩;rw[iQ (os:=S) (os':=d) λo=>(gen o).trans (q1 ee o).symm];exact B1
  .rw[P8 λh=>ee (jU.mp h)];have lt:=q2 ee;refine bn ⟨λPu Z=>∃(y:Bk.ak) (n g:f'),Pu=[some (.int (many:Int)),some (.ref l),some (.ref n),some (.ref g)]/\ar H Z/\Yq many os y/\Se K Z (.ref n) many (bh many y).1 (bh many y).2/\Se K Z (.ref g) many (bh many (R7 many y)).1 (bh many (R7 many y)).2/\d.length<y.length/\y.length<=24,λPu Z ⟨y,u1,u2,e,sm,M',b1,b2,lt',le⟩=>⟨24-y.length,by lia,y,u1,u2,e,sm,M',b1,b2,rfl⟩,?_⟩;refine⟨_,rfl,_,rfl,_,rfl,?_⟩;dsimp only[pF];exact put (E':=λ_ _ _=>False) M2 B2 λt3 Z s7 B7=>⟨_,g,t3,rfl,s6.trans s7,M2,B2.same s7,B7,lt,l2'⟩
 .refine⟨_,rfl,m,rfl,SN,?_⟩
  by_cases c:1<=m/\m<=8
  .rw[Pf c];refine⟨_,rfl,_,_,rfl,rfl,_,rfl,?_⟩;rw[P7 (show(6:Int)<m by lia)];exact bn ⟨⟨trivial,⟨rfl,6,rfl,bI (by lia) (by lia)⟩,trivial,trivial⟩,λx=>⟨by show 1<=Pj;decide,z H (ar.refl H)⟩⟩
  .rw[O9 c];exact z H (ar.refl H)
 .refine⟨_,rfl,(many:Int),rfl,bI (by lia) (by lia),?_⟩;rw[Pf (by lia)];refine⟨_,rfl,_,_,rfl,rfl,_,rfl,?_⟩;rw[P8 (show ¬((6:Int)<(many:Int)) by lia)];have pl:=po.length;refine ba ⟨_,rfl,_,rfl,_,rfl,many,rfl,by lia,λr Y s1 h1=>⟨by show 1<=Pj;decide,λI W=>?_⟩⟩;have s2:=s1.trans (af W (.lst [.ref r]));refine⟨l,I,j,[.ref r],rfl,rfl,s2 _ _ hl,ag,by rw[PY];show j.length+1<=_;lia,λJ h2=>?_⟩;have s3:=af h2 (.lst (j++[.ref r]));refine .inr ⟨many,J,_,os++[aw many],rfl,Pg.of ag,ck (aJ (λ_ _ ⟨a,e,tp⟩=>⟨a,e,tp.same (s2.trans s3)⟩) po) (.cons ⟨r,rfl,Pw.of (s3 _ _ (af W _ _ _ h1)),by rw[bc];lia,λx hx=>by have:=br.mp hx;exact bI (by lia) (by lia)⟩ .nil),G,by lia,λh=>ng λo L=>h o (R8 _ L),λH4 s4=>z H4 ((s2.trans s3).trans s4)⟩
noncomputable abbrev yS:Pc:=top 65
theorem Fv:Sr "ValueError"=some (.type "ValueError"):=by decide +kernel
def Kd (K:O6)(mg:N'->Option D')(C:f')(x:N')(b:Bool):Prop:=∃D,mg x=some (.ref D)/\UB K (.ref C) (.ref D)=some b
structure Ref (K)(mg:N'->Option D')(C:f')(b0 b1 b2 b3 b4 b5 b6)(j:Nat)(word):Prop where
 k0:Kd K mg C "BadBook" b0
 k1:Kd K mg C "BadNumber" b1
 k2:Kd K mg C "BadOrder" b2
 k3:Kd K mg C "BadRule" b3
 k4:Kd K mg C "BadText" b4
 k5:Kd K mg C "BadWeights" b5
 k6:Kd K mg C "Unlike" b6
 ei:Xa K C
 ve:mg "ValueError"=none
 kv:UB K (.ref C) (.type "ValueError")=some true
 cnt:[V.bl b0,V.bl b1,V.bl b2,V.bl b3,V.bl b4,V.bl b5,V.bl b6].countP (λy=>Re y (.bl true))=1
 at_:[b0,b1,b2,b3,b4,b5,b6][j]?=some true
 bef:∀i,i<j->[b0,b1,b2,b3,b4,b5,b6][i]?=some false
 wd:Si [V.str "book",V.str "number",V.str "order",V.str "rule",V.str "text",V.str "weights",V.str "unlike"] (j:Int)=some (.str word)
def Ba (K:O6)(mg:N'->Option D'):Sp:=λvs H Q _=>(vs=[.Qt]/\Q (.str "ok") H)\/∃(e C:f') (b0 b1 b2 b3 b4 b5 b6:Bool) (j:Nat) (word:N'),vs=[.ref e]/\H e=some (kz e (.ref C))/\Ref K mg C b0 b1 b2 b3 b4 b5 b6 j word/\∀H',ar H H'->Q (.str word) H'
theorem vo:Qc ["_law_kept","_law_kinds"] ["_law_kept"] (ap yS):={}
theorem Fx (F:PR K "_law_refusal" "_law_refusal" yS f fd)(T:Qj K mg CO):Py P w K mg base Ph 1 f fd ["_law_kept"] (Ba K mg):=by
 refine F.ok vo (λvs H Q E h=>?_) (λPi A outer s H vs Q E hr h=>?_)
 .rcases h with⟨rfl,_⟩|⟨e,C,_,_,_,_,_,_,_,_,_,rfl,_⟩
  .rfl
  .rfl
 rcases h with⟨rfl,q⟩|⟨e,C,n,p,m,c,g,d,u,j,word,rfl,he,R,q⟩
 .exact⟨_,ae (aY (aP tf (pv 0) j9 (aW _)) (ai (aH dS)) aI) (ae aM (ae aM (ae aM (ae aM (ai aM))))),⟨_,rfl,rfl,_,rfl,bn q⟩⟩
 obtain⟨D0,m0,k0⟩:=R.k0;obtain⟨D1,m1,k1⟩:=R.k1;obtain⟨D2,m2,k2⟩:=R.k2;obtain⟨D3,m3,k3⟩:=R.k3;obtain⟨D4,m4,k4⟩:=R.k4;obtain⟨D5,m5,k5⟩:=R.k5;obtain⟨D6,m6,k6⟩:=R.k6;refine⟨_,ae (aY (aP tf (pv 0) j9 (aW _)) (ai (aH dS)) aI)
  (ae (ay (i:=1) vo.nd rfl (PB rfl) (bf
   (ac (aB bO rfl T.t.SZ dz (ac (pv 0) (ac (aR (v:=.ref D0) rfl m0 rfl) ad)))
   (ac (aB bO rfl T.t.SZ dz (ac (pv 0) (ac (aR (v:=.ref D1) rfl m1 rfl) ad)))
   (ac (aB bO rfl T.t.SZ dz (ac (pv 0) (ac (aR (v:=.ref D2) rfl m2 rfl) ad))) ad)))))
  (ae (ay (i:=1) vo.nd rfl (PB rfl) (av gv (pv 1) (bf
   (ac (aB bO rfl T.t.SZ dz (ac (pv 0) (ac (aR (v:=.ref D3) rfl m3 rfl) ad)))
   (ac (aB bO rfl T.t.SZ dz (ac (pv 0) (ac (aR (v:=.ref D4) rfl m4 rfl) ad)))
   (ac (aB bO rfl T.t.SZ dz (ac (pv 0) (ac (aR (v:=.ref D5) rfl m5 rfl) ad))) ad))))))
  (ae (bA (dJ T4 VC VD cN (pv 1) (ac (aB bO rfl T.t.SZ dz (ac (pv 0) (ac (aR (v:=.ref D6) rfl m6 rfl) ad))) ad)))
  (ae (aY (PW.pt (lH (aP iI (dJ T4 ae6 PySem.F.type_list_count BL (pv 1) (ac gn ad)) ao (aW _))
    (jh (cK (cX (aB bO rfl T.t.SZ dz (ac (pv 0) (ac (eF (v:=.ty "ValueError") rfl R.ve Fv rfl) ad))))))))
   (ai (aH dS)) aI)
  (ai (aH (bj bB (bf (ac dS (ac dS (ac dS (ac dS (ac dS (ac dS (ac dS ad))))))))
   (dJ T4 aaf acU tK (pv 1) (ac gn ad)) (λ_ _=>rfl)))))))),?_⟩
 have ty:∀J,ar H J->Zg K J (.ref e) (.ref C):=λJ s1=>.exc (s1 _ _ he) R.ei;refine⟨_,rfl,rfl,_,rfl,ba ?_⟩;refine⟨_,rfl,_,_,_,_,_,rfl,rfl,ty H (ar.refl H),k0,?_⟩;refine⟨_,rfl,_,_,_,_,_,rfl,rfl,ty H (ar.refl H),k1,?_⟩;refine⟨_,rfl,_,_,_,_,_,rfl,rfl,ty H (ar.refl H),k2,?_⟩;refine⟨by show 3<=Pj;decide,λD n1=>?_⟩;have s1:=af n1 (.lst [V.bl n,V.bl p,V.bl m]);have M:(upd H D (.lst [V.bl n,V.bl p,V.bl m])) D=some (.lst [V.bl n,V.bl p,V.bl m]):=ag;generalize (upd H D (.lst [V.bl n,V.bl p,V.bl m]))=H1 at s1 M ⊢;refine⟨_,rfl,?_⟩;refine⟨_,rfl,_,_,_,_,_,rfl,rfl,ty _ s1,k3,?_⟩;refine⟨_,rfl,_,_,_,_,_,rfl,rfl,ty _ s1,k4,?_⟩;refine⟨_,rfl,_,_,_,_,_,rfl,rfl,ty _ s1,k5,?_⟩;refine⟨by show 3<=Pj;decide,λG U=>?_⟩;have s2:=s1.trans (af U (.lst [V.bl c,V.bl g,V.bl d]));have N:=af U (.lst [V.bl c,V.bl g,V.bl d]) _ _ M;have x:(upd H1 G (.lst [V.bl c,V.bl g,V.bl d])) G=some (.lst [V.bl c,V.bl g,V.bl d]):=ag;generalize (upd H1 G (.lst [V.bl c,V.bl g,V.bl d]))=H2 at s2 N x ⊢;refine⟨D,G,_,_,rfl,rfl,N,x,by show 6<=Pj;decide,λl W=>?_⟩;have s3:=s2.trans (af W (.lst [V.bl n,V.bl p,V.bl m,V.bl c,V.bl g,V.bl d]));have L:(upd H2 l (.lst [V.bl n,V.bl p,V.bl m,V.bl c,V.bl g,V.bl d])) l=some (.lst [V.bl n,V.bl p,V.bl m,V.bl c,V.bl g,V.bl d]):=ag;have TQ:H l=none:=s2.free W;have Z:([V.bl n,V.bl p,V.bl m]++[V.bl c,V.bl g,V.bl d])=[V.bl n,V.bl p,V.bl m,V.bl c,V.bl g,V.bl d]:=rfl;rw[Z];generalize (upd H2 l (.lst [V.bl n,V.bl p,V.bl m,V.bl c,V.bl g,V.bl d]))=H3 at s3 L ⊢;refine⟨_,rfl,.inl ⟨rfl,_,Pg.of L⟩,?_⟩;refine⟨_,rfl,_,_,_,_,_,rfl,rfl,ty _ s3,k6,?_⟩;refine⟨l,_,_,rfl,rfl,L,by show 6<Pj;decide,?_⟩;have e7:([V.bl n,V.bl p,V.bl m,V.bl c,V.bl g,V.bl d]++[V.bl u])=[V.bl n,V.bl p,V.bl m,V.bl c,V.bl g,V.bl d,V.bl u]:=rfl;rw[e7];have s4:ar H (upd H3 l (.lst [V.bl n,V.bl p,V.bl m,V.bl c,V.bl g,V.bl d,V.bl u])):=λb o X=>by
  rw[aq (au X TQ)];exact s3 b o X
 have I:(upd H3 l (.lst [V.bl n,V.bl p,V.bl m,V.bl c,V.bl g,V.bl d,V.bl u])) l=some (.lst [V.bl n,V.bl p,V.bl m,V.bl c,V.bl g,V.bl d,V.bl u]):=ag;generalize (upd H3 l (.lst [V.bl n,V.bl p,V.bl m,V.bl c,V.bl g,V.bl d,V.bl u]))=H4 at s4 I ⊢;refine⟨_,rfl,.inl ⟨rfl,_,Pg.of I⟩,l,_,_,rfl,rfl,Pg.of I,rfl,rfl,rfl,_,rfl,?_⟩;rw[R.cnt,P7 (show V.int ((1:Nat):Int)=V.int 1 from rfl)];refine ba ?_;refine⟨_,rfl,_,_,_,_,_,rfl,rfl,ty _ s4,R.kv,_,rfl,ba ?_⟩;refine⟨by show 7<=Pj;decide,λl3 n5=>?_⟩;have s5:=af n5 (.lst [V.str "book",V.str "number",V.str "order",V.str "rule",V.str "text",V.str "weights",V.str "unlike"]);have O:=Pg.of (K:=K) (s5 _ _ I);have bm:∀i:Nat,[V.bl n,V.bl p,V.bl m,V.bl c,V.bl g,V.bl d,V.bl u][i]?=([n,p,m,c,g,d,u][i]?).map V.bl:=λi=>by
  rw[<-Q6];rfl
 refine⟨_,rfl,.inl ⟨rfl,_,O⟩,l,_,_,j,rfl,rfl,O,rfl,rfl,⟨.bl true,by rw[bm,R.at_];rfl,rfl⟩,λi y Y S=>?_,l3,_,_,_,rfl,rfl,Pg.up,R.wd,q _ (s4.trans s5)⟩;rw[bm,R.bef i Y] at S;cases S;rfl
structure Tr (K)(mg:N'->Option D')(CE:f'):Prop where
 kn:mg "NestError"=some (.ref CE)
 nt:W.instIn K (.ref CE) (.type "tuple")=some false
 xc:Rj K CE (.type "BaseException")=some true
 cl:SH K CE=true
def R6 (many:Nat)(S:Bk.ak):Prop:=aw many∈S/\∀a∈S,∀b∈S,Bk.Qp a b∈S
noncomputable instance {many:Nat}{S:Bk.ak}:Decidable (R6 many S):=by unfold R6;infer_instance
def rX (K:O6):Sp:=λvs H Q _=>∃(x:V) (many:Nat) (S:Bk.ak),vs=[x]/\many<=4/\Bk.Qn many S/\Se K H x many (bh many S).1 (bh many S).2/\∀H',ar H H'->Q (.bl (decide (R6 many S))) H'
theorem Bb:Qc ["book"] ["book"] (ap j2):={}
theorem yT (F:PR K "is_group" "is_group" j2 f fd)(WK:Df P w K mg base Ph 11 "look_book" ["book"] (uI K))(WH:Df P w K mg base (QQ P w) 12 "has" ["book","order"] (DD K))(WPl:Df P w K mg base Ph 1 "plain_order" ["many"] qA)(WP:Df P w K mg base Ph 11 "put_behind" ["one","other"] (pA K)):Py P w K mg base Ph 13 f fd ["book"] (rX K):=by
 refine F.ok Bb (λvs H Q E h=>?_) (λG A outer s H vs Q E m h=>?_)
 .obtain⟨x,many,S,rfl,_⟩:=h;rfl
 obtain⟨x,many,S,rfl,j,d,B,z⟩:=h;have v:(A.deeper (UK "is_group" (ap j2) s.heap.objs.size f G)).units+jT.QV<PK:=by
  have:=m.units;show _+4<PK;lia
 refine⟨_,ae (bA (az WK (m.mono (by decide)) rfl pS (ac (pv 0) ad)))
  (ai (aH (ji (az WH m rfl lM (ac (pv 0) (ac (az WPl (m.mono (by decide)) rfl pS (ac (Rq K (pv 0) ao) ad)) ad)))
   (nP (gQ (zL jT v) (az WP (m.mono (by decide)) rfl pS (ac (pv 0) (ac (pv 0) ad))) (pv 0) (aW _)))))),?_⟩
 have m1:=d.m1;have W:=Qn.whole d;obtain⟨b,l,xs,rfl,q,R,X⟩:=id B.ex;obtain⟨go,D⟩:=Qn.Tk d (o:=aw many) (bc many);have u:=pB m1 j d.mem;refine⟨_,rfl,_,many,_,_,rfl,B,W,λU s1=>?_⟩;refine⟨_,rfl,_,rfl,b,_,0,.int many,rfl,rfl,s1.Qh q,gJ,many,rfl,by lia,λr O s2 J=>?_⟩;have Rz:=s1.trans s2;refine⟨_,many,_,_,r,aw many,rfl,B.same Rz,W,⟨Pw.of J,by rw[bc];lia,λx N=>by have:=br.mp N;exact bI (by lia) (by lia)⟩,jS m1 (by lia) (Bk.j1 m1 j),go,λI s3=>⟨_,rfl,?_⟩⟩;have Tv:=Rz.trans s3
 by_cases pl:aw many∈S
 .rw[P7 (D.mpr pl)];refine bn ⟨_,rfl,_,rfl,?_⟩;dsimp only[pF];refine⟨_,_,many,_,_,_,_,R7 many S,rfl,B.same Tv,W,B.same Tv,W,j,Bk.Qn.of m1 j Wv,λp=>by rw[Qn.P9 d];exact u p,λt T M s4 L=>?_⟩;refine⟨_,rfl,_,_,ge L.a,ge (B.same (Tv.trans s4)),?_⟩;rw[O9 Rt];have e:decide (kY many (bh many (R7 many S))=kY many (bh many S))=decide (R6 many S):=by
   refine decide_eq_decide.mpr ⟨λh=>⟨pl,λa y c n=>?_⟩,λg=>jU.mpr (iQ λp=>?_)⟩
   .have:=xa (Bk.Qn.of m1 j Wv) d (jU.mp h);rw[<-this];exact(u _).mpr ⟨a,y,c,n,rfl⟩
   .refine(u p).trans ⟨?_,λC=>⟨p,C,_,pl,(Bk.lA m1 j (d.mem p C)).symm⟩⟩;rintro⟨a,y,c,n,rfl⟩;exact g.2 a y c n
  rw[e];exact z M (Tv.trans s4)
 .rw[P8 λh=>pl (D.mp h)];refine ba ?_;have:=z I Tv;rw[P8 λg:R6 many S=>pl g.1] at this;exact this
noncomputable abbrev j3:Pc:=top 62
noncomputable abbrev yU:Pc:=top 68
def lC (K:O6):Sp:=λvs H Q _=>∃(a b:f') (xs ys:List Int),vs=[.ref a,.ref b]/\Pw K H a (xs.map V.int)/\Pw K H b (ys.map V.int)/\xs.length<=100/\(∀x∈xs,0<=x/\x<(ys.length:Int))/\∀(r:f') (H':Hp),ar H H'->H' r=some (.tup ((Bk.Qp xs ys).map V.int))->Q (.ref r) H'
theorem rY:Qc ["_law_one","_law_other"] ["_law_one","_law_other"] (ap j3):={}
theorem yV (F:PR K "_law_behind" "_law_behind" j3 f fd)(T:Qj K mg CO):Py P w K mg base Ph 1 f fd ["_law_one","_law_other"] (lC K):=by
 refine F.ok rY (λvs H Q E h=>?_) (λI A outer s H vs Q E L h=>?_)
 .obtain⟨a,b,xs,c,rfl,_⟩:=h;rfl
 obtain⟨a,b,xs,c,rfl,g,m,v,u,z⟩:=h;have n:(xs.map V.int).length=xs.length:=PP _;refine⟨_,ai (aH (aV cW rfl T.t.tuple cw (ac
  (dB rfl (show Sc false (ap j3) ["_law_one","_law_other"] _ _ from by constructor <;> decide +kernel) (fK (pv 0)) (λ_ _ _ _ _ _=>eJ)
   (λcl C N J M aa=>Rq K (pv 2) (pv 0)) rY.nd) ad))),?_⟩
 refine⟨_,rfl,a,rfl,⟨_,g⟩,jE (K:=K) (a:=a) (xs:=xs.map V.int) (λj e d=>d=H/\e=(Bk.Qp (xs.take j) c).map V.int) ⟨rfl,rfl⟩ ?_ (by rw[PY];lia) ?_ ?_⟩
 .rintro j e d _ ⟨rfl,rfl⟩;refine⟨g,?_⟩;unfold Bk.Qp;rw[PP,PP,RW];lia
 .rintro j y e d G ⟨rfl,rfl⟩;obtain⟨x,rfl,l⟩:=gS G;have O:=u x (QF l);obtain⟨k,rfl⟩:∃k:Nat,x=(k:Int):=⟨x.toNat,by lia⟩
  have kl:k<c.length:=by lia
  refine V4 (bn ⟨_,rfl,_,rfl,b,_,(k:Int),.int c[k],rfl,rfl,m,bU (by rw[Q6,Qu kl];rfl),rfl,?_⟩);rw[bC l];unfold Bk.Qp;rw[Rm,Rm]
  congr 1
  show [V.int c[k]]=[V.int (c.getD ((k:Int)).toNat 0)];rw[Rb,SC,Qu kl];rfl
 .rintro e d p ⟨rfl,rfl⟩ o;rw[n,SD];refine⟨p,_,rfl,.inl ⟨Pg.of ag,λr D=>z r _ ((af o _).trans (af D _)) ag⟩⟩
abbrev GV (K:O6)(mg:N'->Option D')(CO:f'):Prop:=Ref K mg CO false false true false false false false 2 "order"
def KG (CO:f')(Q:VK):XK:=λc _ H=>c=.ref CO/\∀H',ar H H'->Q (.str "order") H'
theorem iD.mono (hq:∀v H',Q v H'->Q' v H')(he:∀c n H',E c n H'->E' c n H')(h:iD K CO vs H Q E):iD K CO vs H Q' E':=by
 obtain⟨m,l,rfl,h⟩:=h;refine⟨m,l,rfl,h.imp (λ⟨many,g,os,S,e,o,p,f,po,w,j,u,gen,z⟩=>⟨many,g,os,S,e,o,p,f,po,w,j,u,gen,λt d s1 B=>hq _ _ (z t d s1 B)⟩) λh=>h.imp (λ⟨a,b,z⟩=>⟨a,b,λd s1=>he _ _ _ (z d s1)⟩) λ⟨many,g,os,e,o,p,f,po,j,s,z⟩=>⟨many,g,os,e,o,p,f,po,j,s,λd s1=>he _ _ _ (z d s1)⟩⟩
def Bc (K:O6)(CO:f'):Sp:=λvs H Q _=>iD K CO vs H Q (KG CO Q)
theorem jB:Qc ["_law_many","_law_some","_law_kept","_law_found","e"] ["_law_many","_law_some"] (ap yU):={}
theorem Fy {P:Pk}{w:Pd}{K:O6}{mg:N'->Option D'}{base:O8}{CO:f'}{CE:f'}{f:f'}{fd:PD}(F:PR K "_law_told" "_law_told" yU f fd)(E0:Tr K mg CE)(onO:Rj K CO (.ref CE)=some true)(RO:GV K mg CO)(WM:Df P w K mg base (QQ P w) 13 "made_of" ["many","orders"] (iD K CO))(WR:Df P w K mg base Ph 1 "_law_refusal" ["_law_kept"] (Ba K mg)):Py P w K mg base (QQ P w) 14 f fd ["_law_many","_law_some"] (Bc K CO):=by
 refine F.Yd jB (λvs H Q E h=>?_) (λX x A outer s H vs Q E o y C d h=>?_)
 .obtain⟨m,l,rfl,_⟩:=h;rfl
 obtain⟨m,l,rfl,h0⟩:=id h;subst o;refine⟨_,ae (ay (i:=2) jB.nd rfl (PB rfl) j9)
  (ae (ay (i:=3) jB.nd rfl (PB rfl) j9)
  (ae (F6 rfl rfl rfl rfl rfl E0.kn E0.nt E0.xc E0.cl jB.nd (ie:=4) rfl rfl
   (λp g E b=>ai (ay (i:=3) jB.nd rfl (PB rfl) (az WM d rfl b (ac (pv 0) (ac (pv 1) ad)))))
   (λD p g=>ai (ay (i:=2) jB.nd rfl (PB rfl) (pv 4))))
  (ai (aH (sS (aP tf (pv 2) j9 (aW _)) (pv 3) (az WR (d.mono (by decide)) rfl pS (ac (pv 2) ad))))))),?_⟩
 refine⟨_,rfl,_,rfl,?_⟩;dsimp only[pF];refine iD.mono (λv u q=>⟨_,rfl,rfl,_,rfl,bn ⟨_,rfl,q⟩⟩) (λc n u q=>?_) h;obtain⟨rfl,q⟩:=q;exact⟨CO,rfl,onO,λe t=>⟨_,rfl,_,rfl,rfl,_,rfl,ba ⟨_,rfl,.inr ⟨e,CO,false,false,true,false,false,false,false,2,"order",rfl,ag,RO,λj s2=>q j ((af t _).trans s2)⟩⟩⟩⟩
noncomputable abbrev my:Pc:=top 66
noncomputable abbrev j4 (Vz U6:Bk.ak):Bk.ak:=Vz.flatMap λa=>U6.map (Bk.Qp a)
theorem vp (U6)(h:U6.length<=6):∀Vz:Bk.ak,(j4 Vz U6).length<=Vz.length*6
 | []=>QN _
 | a::Vz=>by
  have:=vp U6 h Vz;show(U6.map (Bk.Qp a)++j4 Vz U6).length<=_;rw[QI,PP,Q0,abP];lia
theorem Bd (Vz U6)(a):j4 (Vz++[a]) U6=j4 Vz U6++U6.map (Bk.Qp a):=by
 unfold j4;rw[afs];simp
theorem rZ {PM:Bk.ak}(r:kF PM)(nd:PM.Nodup):Bk.cB PM:=by
 refine List.Pairwise.imp₂ (λa b c d=>?_) r nd;rcases Bk.ut a b with h|h|h
 .exact h
 .exact Pp h d
 .rw[kX h] at c;cases c
theorem iE (m1:1<=many)(m5:many<=5)(h:q∈Bk.aK many):q.length=many/\∀x∈q,0<=x/\x<(many:Int):=Bk.qz m1 m5 h
theorem i4 {os:Bk.ak}(m1:1<=many)(m4:many<=4)(nd:os.Nodup)(h:∀o∈os,o∈Bk.aK many):os.length<=24:=RC (bZ os _ nd h) (Bk.nj many (Bk.in4 m1 m4))
structure Fd (many:Nat)(some S):Prop where
 ok:Bk.Qn many S
 pl:aw many∈S
 gen:∀o∈S,Bk.Gen many some o
noncomputable abbrev NCl:List N':=["_law_many","_law_some","_law_found","_law_grown","_law_later","_law_one"]
def nM (K:O6):Sp:=λvs H Q _=>∃(many:Nat) (l:f') (some:Bk.ak),vs=[.int (many:Int),.ref l]/\1<=many/\many<=4/\OL K H l some/\(∀b∈some,b∈Bk.aK many)/\some.length<=6/\∀(lf:f') (S:Bk.ak) (H':Hp),ar H H'->OL K H' lf S->Bk.Qn many S->(∀o,o∈S↔Bk.Gen many some o)->Q (.ref lf) H'
theorem dy:Qc NCl ["_law_many","_law_some"] (ap my):={}
theorem Be (F:PR K "_law_closed" "_law_closed" my f fd)(T:Qj K mg CO)(WH:Df P w K mg base Ph 1 "_law_behind" ["_law_one","_law_other"] (lC K)):Py P w K mg base Ph 2 f fd ["_law_many","_law_some"] (nM K):=by
 refine F.ok dy (λvs H Q E h=>?_) (λPi A outer s H vs Q E hr h=>?_)
 .obtain⟨many,l,some,rfl,_⟩:=h;rfl
 obtain⟨many,l,n,rfl,L,m4,ol,hs,l6,z⟩:=h;refine⟨_,ae (ay (i:=2) dy.nd rfl (lc rfl) (bf (ac (aV (dE rfl) rfl T.t.tuple cw (ac (aV dG rfl T.t.range fA (ac (pv 0) ad)) ad)) ad)))
  (ae (ay (i:=3) dy.nd rfl (lc rfl) gn)
  (ae (sX RB (cX (pv 3))
   (ae (ay (i:=4) dy.nd rfl (lc rfl) (aV ko rfl T.t.list ib (ac (pv 2) ad)))
   (ae (bL RB rfl (cf (pv 2)) (bw (i:=5) dy.nd rfl (lc rfl))
    (ai (ay (i:=4) dy.nd rfl (lc rfl) (av gv (pv 4) (dB rfl (show Sc false (ap my) NCl _ _ from by constructor <;> decide +kernel) (cf (pv 1)) (λ_ _ _ _ _ _=>eJ)
     (λcl C PZ QT fp aa=>az WH hr rfl pS (ac (pv 6) (ac (pv 0) ad))) dy.nd)))))
   (ae (ay (i:=4) dy.nd rfl (lc rfl) (aB (kK rfl) rfl T.t.sorted ig (ac
    (aV (kJ aA (itE P w) (by have:=hr.un;show(A.deeper _).units+1+1+1<PK;lia) rfl (λI h=>lS I h) (λ⟨p,_,e,_⟩=>⟨p,e⟩)) rfl T.set ye (ac (pv 4) ad)) ad)))
   (ae (ay (i:=3) dy.nd rfl (lc rfl) (gQ xy (aB aN rfl T.t.len bN (ac (pv 4) ad)) (aB aN rfl T.t.len bN (ac (pv 2) ad)) (aW _)))
   (ai (ay (i:=2) dy.nd rfl (lc rfl) (pv 4))))))))
  (ai (aH (pv 2))))),?_⟩
 refine⟨_,rfl,(many:Int),rfl,λr0 Ra=>⟨r0,0,many,rfl,ag,by decide,by decide,by lia,by lia,by rw[PY];lia,λb hb=>?_⟩⟩;have ei:cU 0 ((many:Int)-0).toNat=(Mx.aw many).map V.int:=by rw[cA,show((many:Int)-0).toNat=many by lia]
 rw[ei];refine⟨by show 1<=Pj;decide,λd Vt=>?_⟩;have s1:=(af Ra (.RK 0 (many:Int))).trans ((af hb (.tup ((Mx.aw many).map V.int))).trans (af Vt (.lst [.ref b])));have pin:=Bk.j1 L m4;have F0:Fd many n [aw many]:=⟨Bk.Qn.of L m4 (List.singleton_sublist.mpr pin),Qw.mpr rfl,λo ho=>by rw[Qw.mp ho];exact .plain⟩
 have o0:OL K (upd (upd (upd H r0 (.RK 0 (many:Int))) b (.tup ((Mx.aw many).map V.int))) d (.lst [.ref b])) d [aw many]:=⟨_,ag,.cons (cJ (Pw.of (af Vt _ _ _ ag))) .nil⟩
 refine⟨λm X H6=>∃(S:Bk.ak) (d:f') (g:Bool) (v4 U:Option V),X=[some (.int (many:Int)),some (.ref l),some (.ref d),some (.bl g),v4,U]/\ar H H6/\OL K H6 d S/\Fd many n S/\(g=false->∀a∈S,∀b∈n,Bk.Qp a b∈S)/\m=(if g=true then 25-S.length else 0),⟨_,[aw many],d,true,none,none,rfl,s1,o0,F0,(λh=>by cases h),rfl⟩,?_⟩;rintro m X H6 ⟨S,d,g,v4,U,rfl,s6,oS,v,cl,rfl⟩;refine⟨_,rfl,g,rfl,?_⟩;cases g with
 | false=>exact ba ⟨_,rfl,z d S H6 s6 oS v.ok λo=>⟨v.gen o,λh=>Bk.w5 v.pl (cl rfl) h⟩⟩
 | true=>
  have ZA:=v.ok.len;refine bn ⟨λPu u=>∃(M:Bk.ak) (d:f') (g:Bool) (v4 U:Option V),Pu=[some (.int (many:Int)),some (.ref l),some (.ref d),some (.bl g),v4,U]/\ar H u/\OL K u d M/\Fd many n M/\(g=false->∀a∈M,∀b∈n,Bk.Qp a b∈M)/\(g=true->S.length<M.length),λPu u ⟨M,lf',g',v4',J,e,sm',o',F',c',lt⟩=>⟨_,?_,M,lf',g',v4',J,e,sm',o',F',c',rfl⟩,?_⟩
  .have:=F'.ok.len;rw[Pf rfl];cases g' with
   | false=>rw[O9 Rt];lia
   | true=>rw[Pf rfl];have:=lt rfl;lia
  obtain⟨R,hy,py⟩:=oS;have yl:=py.length;obtain⟨ws,hw,pw⟩:=OL.same s6 ol;have wl:=pw.length;refine⟨_,rfl,d,R,rfl,.inl (Pg.of hy),λl1 h1=>?_⟩;have s7:=af h1 (.lst R);refine⟨_,rfl,d,rfl,⟨_,Pg.of (s7 _ _ hy)⟩,cP (K:=K) (a:=d) (xs:=R) (λi X u=>∃(O:f') (N:List V) (U:Option V),X=[some (.int (many:Int)),some (.ref l),some (.ref d),some (.bl true),some (.ref O),U]/\ar H6 u/\u O=some (.lst N)/\Pl (aA.rep K u) N (S++j4 (S.take i) n)) ⟨l1,R,U,rfl,s7,ag,by
   show Pl _ R (S++[]);rw[SV];exact aJ (λ_ _ z=>aA.mono s7 z) py⟩ ?_ ?_ ?_⟩
  .rintro i X u _ ⟨O,N,J,rfl,s8,_⟩;exact Pg.of (s8 _ _ hy)
  .rintro i y X u hyi ⟨O,N,J,rfl,s8,h8,p8⟩;obtain⟨q,G,ro⟩:=bS py hyi;obtain⟨a,rfl,qa⟩:=ce ro;obtain⟨ql,qb⟩:=iE L (by lia) (v.ok.mem q (QF G));have zl:=p8.length;rw[QI] at zl;have al:=vp n l6 (S.take i);have tl:(S.take i).length<=24:=by rw[RW];lia
   refine⟨_,rfl,_,rfl,l,rfl,⟨_,Pg.of (s8 _ _ hw)⟩,hZ (K:=K) (a:=l) (xs:=ws) (λj us H9=>ar u H9/\Pl (aA.rep K H9) us ((n.map (Bk.Qp q)).take j)) ⟨ar.refl _,.nil⟩ ?_ (by rw[PY];lia) ?_ ?_⟩
   .rintro j us H9 _ ⟨s9,Y⟩;have:=Y.length;rw[RW] at this;exact⟨Pg.of (s9 _ _ (s8 _ _ hw)),by lia⟩
   .rintro j x us H9 hx ⟨s9,Y⟩;obtain⟨c,W,rc⟩:=bS pw hx;obtain⟨b',rfl,qc⟩:=ce rc;obtain⟨c1,cb⟩:=iE L (by lia) (hs c (QF W));refine V4 (bn ⟨_,rfl,_,rfl,a,b',q,c,rfl,(s8.trans s9).Qh qa,(s8.trans s9).Qh qc,by lia,λx hx=>by rw[c1];exact qb x hx,λr Ha D Z=>⟨s9.trans D,?_⟩⟩);rw[bC (show(n.map (Bk.Qp q))[j]?=some (Bk.Qp q c) by rw[Q6,W];rfl)];exact ck (aJ (λ_ _ z=>aA.mono D z) Y) (.cons (cJ (Pw.of Z)) .nil)
   .rintro us H9 p ⟨s9,Y⟩ hp;have ul:=Y.length;rw[RW,PP] at ul;have e:(n.map (Bk.Qp q)).take ws.length=n.map (Bk.Qp q):=Wp (by rw[PP];lia);rw[e] at Y;have D:=af hp (.lst us);refine⟨O,p,N,us,rfl,rfl,D _ _ (s9 _ _ h8),ag,by rw[PY];lia,λr Ra=>?_⟩;have sb:=af Ra (.lst (N++us));refine⟨r,N++us,_,rfl,s8.trans (s9.trans (D.trans sb)),ag,?_⟩;rw[bC G,Bd,<-XE];exact ck (aJ (λ_ _ z=>aA.mono (s9.trans (D.trans sb)) z) p8) (aJ (λ_ _ z=>aA.mono (D.trans sb) z) Y)
  .rintro X u ⟨O,N,J,rfl,s8,h8,p8⟩;rw[yl,SD] at p8;have mem:∀o∈S++j4 S n,o∈Bk.aK many/\Bk.Gen many n o:=λo ho=>by
    rcases QJ.mp ho with ho|ho
    .exact⟨v.ok.mem o ho,v.gen o ho⟩
    .obtain⟨a,Z,ho⟩:=RP.mp ho;obtain⟨c,W,rfl⟩:=P6.mp ho;exact⟨Bk.vj L m4 (v.ok.mem a Z) (hs c W),(v.gen a Z).step W⟩
   refine⟨_,rfl,.ref O,S++j4 S n,rfl,⟨O,N,rfl,Pg.of h8,p8⟩,λjs nd hj=>XD (i4 L m4 nd λq G=>(mem q (hj q G)).1) (by decide),λp bs ks hp pb nd hk=>?_⟩;have s9:=af hp (fX w p bs);have all:∀q∈ks,q∈Bk.aK many:=λq G=>(mem q ((hk q).mp G)).1;have kl:=i4 L m4 nd all;refine⟨p,bs,ks,rfl,ag,aJ (λ_ _ z=>aA.mono s9 z) pb,λq G=>?_,by lia,λl2 S7 PM hl Xo perm Rs=>?_⟩
   .have:=(iE L (by lia) (all q G)).1;intro e;subst e;have:(0:Nat)=many:=this;lia
   have D:=af hl (.lst S7);have pl:=perm.length_eq;have al:=Xo.length;have mk:∀o,o∈PM↔o∈S++j4 S n:=λo=>perm.mem_iff.trans (hk o);have M:Bk.Qn many PM:=⟨L,by lia,λq G=>all q (perm.mem_iff.mp G),rZ Rs (perm.nodup_iff.mpr nd),by lia,λe=>by lia⟩
   have Uj:=D _ _ (s9 _ _ (s8 _ _ hy));refine⟨_,rfl,l2,S7,rfl,.inl (Pg.of ag),_,rfl,d,R,rfl,.inl (Pg.of Uj),_,_,rfl,rfl,_,rfl,?_⟩;refine⟨PM,l2,_,_,_,rfl,s6.trans (s8.trans (s9.trans D)),OL.new hl Xo,⟨M,(mk _).mpr (R8 _ v.pl),λo ho=>(mem o ((mk o).mp ho)).2⟩,λh a Z c W=>?_,λh=>?_⟩
   .have le:¬(R.length<S7.length):=by have:=of_decide_eq_false h;lia
    have sub:∀o∈S,o∈PM:=λo ho=>(mk o).mpr (R8 _ ho);have back:∀o∈PM,o∈S:=λo ho=>Wm λno=>by
     have:=bZ (o::S) PM (Td.mpr ⟨no,nL v.ok⟩) λx hx=>(PN.mp hx).elim (λh=>h▸ho) (sub x);rw[Q0] at this;lia
    exact(mk _).mpr (RA _ (RP.mpr ⟨a,back a Z,P6.mpr ⟨c,W,rfl⟩⟩))
   .have:=UL h;lia
noncomputable abbrev pC:Pc:=top 67
noncomputable abbrev NIg:List N':=["_law_many","_law_some","_law_one"]
noncomputable abbrev lD (S:Bk.ak)(o:List Int):Bool:=S.any λa=>decide (a=o)
theorem j5:lD S o=true↔o∈S:=by
 unfold lD;rw[List.any_eq_true];exact⟨λ⟨a,h,e⟩=>UL e▸h,λh=>⟨o,h,P7 rfl⟩⟩
def vq (K:O6):Sp:=λvs H Q _=>∃(many:Nat) (l:f') (S:Bk.ak),vs=[.int (many:Int),.ref l]/\many<=4/\Bk.Qn many S/\OL K H l S/\∀H',ar H H'->Q (.bl (decide (R6 many S))) H'
theorem vt:Qc NIg ["_law_many","_law_some"] (ap pC):={}
theorem Fz (F:PR K "_law_is_group" "_law_is_group" pC f fd)(T:Qj K mg CO)(WH:Df P w K mg base Ph 1 "_law_behind" ["_law_one","_law_other"] (lC K)):Py P w K mg base Ph 2 f fd ["_law_many","_law_some"] (vq K):=by
 refine F.ok vt (λvs H Q E h=>?_) (λPi A outer s H vs Q E R h=>?_)
 .obtain⟨many,l,S,rfl,_⟩:=h;rfl
 obtain⟨many,l,S,rfl,m4,G,W,z⟩:=h;have Zq:(A.deeper (UK "_law_is_group" (ap pC) s.heap.objs.size f Pi)).units+1+aA.QV<PK:=by
  have:=R.units;show _+1+1<PK;lia
 refine⟨_,ae (aY (aP (qK aA Zq) (aV (dE rfl) rfl T.t.tuple cw (ac (aV dG rfl T.t.range fA (ac (pv 0) ad)) ad)) (pv 1) rfl) (ai (aH gn)) aI)
  (ae (bL RB rfl (cf (pv 1)) (bw (i:=2) vt.nd rfl (lc rfl))
   (ai (aY (cK (cX (aB (tL rfl) rfl T.t.all Dm (ac (dB rfl (show Sc false (ap pC) NIg _ _ from by constructor <;> decide +kernel) (cf (pv 1)) (λ_ _ _ _ _ _=>eJ)
     (λcl C PZ QT fp aa=>gQ (show Qy (Q5 _ _ cl _ C PZ QT fp aa) _ (BU aA K false) from Gf aA Zq) (az WH R rfl pS (ac (pv 3) (ac (pv 0) ad))) (pv 2) rfl) vt.nd) ad)))) (ai (aH gn)) aI)))
  (ai (aH gn))),?_⟩
 have m1:=G.m1;have ZA:=G.len;refine⟨_,rfl,(many:Int),rfl,λY Ra=>⟨Y,0,many,rfl,ag,by decide,by decide,by lia,by lia,by rw[PY];lia,λb hb=>?_⟩⟩;have ei:cU 0 ((many:Int)-0).toNat=(Mx.aw many).map V.int:=by rw[cA,show((many:Int)-0).toNat=many by lia]
 rw[ei];have s1:=(af Ra (.RK 0 (many:Int))).trans (af hb (.tup ((Mx.aw many).map V.int)));refine⟨_,rfl,aw many,S,cJ (Pw.of ag),(OL.same s1 W).rep,_,rfl,?_⟩
 by_cases pl:aw many∈S
 case neg=>
  rw[Pf rfl,show(S.any λa=>decide (a=aw many))=false from by
   have:=j5 (S:=S) (o:=aw many);cases h:lD S (aw many) with
   | false=>exact h
   | true=>exact Pp (this.mp h) pl]
  have:=z _ s1;rw[P8 λg:R6 many S=>pl g.1] at this;exact bn this
 rw[Pf rfl,show(S.any λa=>decide (a=aw many))=true from j5.mpr pl];refine ba ?_;generalize (upd (upd H Y (HO.RK 0 (many:Int))) b (HO.tup ((aw many).map V.int)))=H1 at s1 ⊢;obtain⟨M,n,py⟩:=OL.same s1 W;have U:=py.length;refine⟨_,rfl,l,rfl,⟨_,Pg.of n⟩,cP (K:=K) (a:=l) (xs:=M) (λi D e=>∃I:Option V,D=[some (.int (many:Int)),some (.ref l),I]/\ar H1 e/\∀a∈S.take i,∀b∈S,Bk.Qp a b∈S) ⟨none,rfl,ar.refl _,λa J=>by cases J⟩ ?_ ?_ ?_⟩
 .rintro i D e _ ⟨I,rfl,s2,_⟩;exact Pg.of (s2 _ _ n)
 .rintro i y D e L ⟨I,rfl,s2,cl⟩;obtain⟨q,X,ro⟩:=bS py L;obtain⟨a,rfl,qa⟩:=ce ro;have O:=QF X;obtain⟨ql,qb⟩:=iE m1 (by lia) (G.mem q O);refine⟨_,rfl,l,rfl,⟨_,Pg.of (s2 _ _ n)⟩,hZ (K:=K) (a:=l) (xs:=M) (λj us u=>ar e u/\us=((S.take j).map λc=>lD S (Bk.Qp q c)).map V.bl) ⟨ar.refl _,rfl⟩ ?_ (by rw[PY];lia) ?_ ?_⟩
  .rintro j us u _ ⟨s3,rfl⟩;refine⟨Pg.of (s3 _ _ (s2 _ _ n)),?_⟩;rw[PP,PP,RW];lia
  .rintro j x us u N ⟨s3,rfl⟩;obtain⟨c,d,rc⟩:=bS py N;obtain⟨b',rfl,qc⟩:=ce rc;obtain⟨c1,cb⟩:=iE m1 (by lia) (G.mem c (QF d));refine V4 (bn ⟨_,rfl,_,rfl,a,b',q,c,rfl,(s2.trans s3).Qh qa,(s2.trans s3).Qh qc,by lia,λx N=>by rw[c1];exact qb x N,λr Ha m J=>?_⟩);refine⟨_,rfl,Bk.Qp q c,S,cJ (Pw.of J),OL.rep (OL.same (s2.trans (s3.trans m)) ⟨M,n,py⟩),s3.trans m,?_⟩;rw[bC d,Rm,Rm,O9 Rt];rfl
  .rintro us u p ⟨s3,rfl⟩ hp;rw[U,SD];have m:=af hp (.lst ((S.map λc=>lD S (Bk.Qp q c)).map V.bl));refine⟨p,_,rfl,Pg.of ag,_,rfl,?_⟩
   by_cases v:∀c∈S,Bk.Qp q c∈S
   .rw[show((S.map λc=>lD S (Bk.Qp q c)).all id)=true from by
     rw[aaG];exact T9.mpr λc d=>j5.mpr (v c d)]
    refine ba ⟨_,rfl,s2.trans (s3.trans m),λa' Z=>?_⟩;rw[bC X] at Z;rcases QJ.mp Z with h|h
    .exact cl a' h
    .rw[Qw.mp h];exact v
   .rw[show((S.map λc=>lD S (Bk.Qp q c)).all id)=false from by
     rw[aaG];cases h:(S.all (id∘λc=>lD S (Bk.Qp q c))) with
     | false=>rfl
     | true=>exact Pp (λc d=>j5.mp (T9.mp h c d)) v]
    have:=z _ (s1.trans (s2.trans (s3.trans m)));rw[P8 λg:R6 many S=>v λc d=>g.2 q O c d] at this;exact bn this
 .rintro D e ⟨I,rfl,s2,cl⟩;rw[U,SD] at cl;have:=z _ (s1.trans s2);rw[P7 (show R6 many S from⟨pl,cl⟩)] at this;exact this
def xf (K:O6):Sp:=λvs H Q _=>∃(a:f') (k:Int) (many:Nat),vs=[.ref a,.int k,.int (many:Int)]/\V9 K H a/\1<=many/\many<=5/\∀(x:V) (o:List Int) (H':Hp),ar H H'->aA.rep K H' x o->o∈Bk.aK many->Q x H'
theorem xg:Qc ["_law_script","_law_k","_law_many","_law_some"] ["_law_script","_law_k","_law_many"] (ap uS):={}
theorem Db (F:PR K "_law_order" "_law_order" uS f fd)(T:Qj K mg CO)(WA:Df P w K mg base Ph 1 "_law_all" ["_law_many"] (yn K))(WM:Df P w K mg base Ph 2 "_law_mix" ["_law_script","_law_k"] (sG K)):Py P w K mg base Ph 3 f fd ["_law_script","_law_k","_law_many"] (xf K):=by
 refine F.ok xg (λvs H Q E h=>?_) (λD A outer s H vs Q E e h=>?_)
 .obtain⟨a,k,many,rfl,_⟩:=h;rfl
 obtain⟨a,k,many,rfl,u,g,j,z⟩:=h;refine⟨_,ae (ay (i:=3) xg.nd rfl (PB rfl) (az WA (e.mono (by decide)) rfl pS (ac (pv 2) ad)))
  (ai (aH (bj bB (pv 3) (av cL (az WM e rfl pS (ac (pv 0) (ac (pv 1) ad))) (aB aN rfl T.t.len bN (ac (pv 3) ad))) (λ_ _=>rfl)))),?_⟩
 refine⟨_,rfl,many,rfl,g,by lia,λl x s1 C y=>?_⟩;obtain⟨b,c,py⟩:=y;have hlen:=py.length;have pos:0<b.length:=by
  rw[hlen];exact Wu.mpr (Bk.GA many (Bk.in5 g j))
 refine⟨_,rfl,_,rfl,_,rfl,a,k,rfl,u.same s1,λm _ _=>?_⟩;have n:=YL m (show((b.length:Nat):Int)≠0 by lia);have G:=YD m (show(0:Int)<((b.length:Nat):Int) by lia);have d:(m % ((b.length:Nat):Int)).toNat<b.length:=by lia
 obtain⟨o,v,p⟩:=bS py (Qu d);exact⟨_,rfl,l,_,rfl,.inl (Pg.of c),_,_,rfl,rfl,by lia,l,_,_,_,rfl,rfl,Pg.of c,uQ n (Qu d),z _ o x s1 p (QF v)⟩
end Ord
namespace L2
open PySem PySem.Spec PyProof.Rows
def HS (X:Cx)(R:VK)(st:Pc)(A B:St->Hp->Prop):Prop:=∃t,PS X st t/\∀(D:Ends) (σ:St) (H:Hp),A σ H->(∀Pu H',B Pu H'->D.nx Pu H')->(∀v H',R v H'->D.rt v H')->t D σ H
def UI (X:Cx)(R:VK)(sts:List Pc)(A B:St->Hp->Prop):Prop:=∃t,Su X sts t/\∀(D:Ends) (σ:St) (H:Hp),A σ H->(∀Pu H',B Pu H'->D.nx Pu H')->(∀v H',R v H'->D.rt v H')->t D σ H
theorem UI.nil:UI X R [] A A:=⟨_,aI,λ_ b H a q _=>q b H a⟩
theorem HS.cons {st:Pc}(h1:HS X R st A B)(h2:UI X R rest B C):UI X R (st::rest) A C:=by
 obtain⟨t,d,h⟩:=h1;obtain⟨u,b,k⟩:=h2;exact⟨_,ae d b,λD e H a q r=>h { D with nx:=u D } e H a (λc f m=>k D c f m q r) r⟩
end L2
namespace Ord
open PySem L2 Mx
noncomputable abbrev cr (i:Nat):Pc:=(cO jd).getD i (.Pass ⟨0,0,0,0⟩)
noncomputable abbrev NW:List N':=["_law_script","_law_many","_law_some","_law_due","_law_number","_law_drawn","_law_found","_law_bad"]
theorem gO:Qc NW ["_law_script"] (ap jd):={}
noncomputable abbrev XL (P:Pk)(w:Pd)(K:O6)(mg:N'->Option D')(base:O8)(f:f')(Pi:D')(A:Pz)(outer:List QU)(s:J')(H:Hp)(E:XK):Cx:=(dI Ph P w K mg base NW "law" (ap jd) f Pi A outer s H E).Sg
abbrev RT:VK:=λv _=>v=.bl true
abbrev RM (n:Nat)(A:Pz)(s:J')(f:f')(Pi:D'):Prop:=O5 n (A.deeper (UK "law" (ap jd) s.heap.objs.size f Pi))
theorem Qn.sub {os os':Bk.ak}(S:Bk.Qn many os)(h:os'.Sublist os):Bk.Qn many os':=⟨S.m1,S.m5,λo b=>S.mem o (h.subset b),S.Rs.sublist h,RC h.length_le S.len,λe=>RC h.length_le (S.acD e)⟩
structure Dr (K:O6)(H:Hp)(v0:V)(la ld:f')(many:Nat)(sm S:Bk.ak):Prop where
 sc:∃a,v0=.ref a/\V9 K H a
 m1:1<=many
 m4:many<=4
 os:OL K H la sm
 all:∀b∈sm,b∈Bk.aK many
 Qk:sm.length<=3
 od:OL K H ld S
 ok:Bk.Qn many S
 gen:∀o,o∈S↔Bk.Gen many sm o
theorem Dr.same (h:Dr K H v0 la ld many sm S)(s:ar H H'):Dr K H' v0 la ld many sm S:=⟨h.sc.imp λa z=>⟨z.1,z.2.same s⟩,h.m1,h.m4,OL.same s h.os,h.all,h.Qk,OL.same s h.od,h.ok,h.gen⟩
theorem Dr.UE (h:Dr K H v0 la ld many sm S):R6 many S:=⟨(h.gen _).mpr .plain,λa c b d=>(h.gen _).mpr (((h.gen a).mp c).Qp h.m1 h.m4 h.all ((h.gen b).mp d))⟩
def D0 (K:O6):St->Hp->Prop:=λσ H=>∃a:f',σ=[some (.ref a),none,none,none,none,none,none,none]/\V9 K H a
def D3 (K:O6):St->Hp->Prop:=λσ H=>∃(v0:V) (la ld:f') (many:Nat) (sm S:Bk.ak),σ=[some v0,some (.int (many:Int)),some (.ref la),some (.ref ld),none,none,none,none]/\Dr K H v0 la ld many sm S
abbrev WMX (P:Pk)(w:Pd)(K:O6)(mg:N'->Option D')(base:O8):Prop:=Df P w K mg base Ph 2 "_law_mix" ["_law_script","_law_k"] (sG K)
abbrev WOR (P:Pk)(w:Pd)(K:O6)(mg:N'->Option D')(base:O8):Prop:=Df P w K mg base Ph 3 "_law_order" ["_law_script","_law_k","_law_many"] (xf K)
abbrev WBO (P:Pk)(w:Pd)(K:O6)(mg:N'->Option D')(base:O8)(CO:f'):Prop:=Df P w K mg base (QQ P w) 12 "book_of" ["many","orders"] (w6 K CO)
abbrev WIG (P:Pk)(w:Pd)(K:O6)(mg:N'->Option D')(base:O8):Prop:=Df P w K mg base Ph 13 "is_group" ["book"] (rX K)
abbrev WTO (P:Pk)(w:Pd)(K:O6)(mg:N'->Option D')(base:O8)(CO:f'):Prop:=Df P w K mg base (QQ P w) 14 "_law_told" ["_law_many","_law_some"] (Bc K CO)
theorem LK (hr:RM 14 A s f Pi)(T:Qj K mg CO)(WM:WMX P w K mg base)(WO:WOR P w K mg base)(WC:Df P w K mg base Ph 2 "_law_closed" ["_law_many","_law_some"] (nM K))(h:UI (XL P w K mg base f Pi A outer s H0 E) RT rest (D3 K) B):UI (XL P w K mg base f Pi A outer s H0 E) RT (cr 0::cr 1::cr 2::rest) (D0 K) B:=by
 obtain⟨u,R,X⟩:=h;refine⟨_,ae (ay (i:=1) gO.nd rfl (lc rfl) (av bT ao (av cL (az WM (hr.mono (by decide)) rfl pS (ac (pv 0) (ac ao ad))) ao)))
  (ae (lZ (i0:=2) gO.nd rfl (lc rfl) rfl (show Sc false (ap jd) NW _ _ from by constructor <;> decide +kernel)
   (dF rfl T.t.range (ac (av cL (az WM (hr.mono (by decide)) rfl pS (ac (pv 0) (ac ao ad))) ao) ad)) (λ_ _ _ _ _ _=>eJ)
   (λcl C PZ QT fp aa=>az WO (hr.mono (by decide)) rfl pS (ac (pv 1) (ac (av bT ao (pv 0)) (ac (pv 2) ad)))) rfl)
  (ae (ay (i:=3) gO.nd rfl (lc rfl) (az WC (hr.mono (by decide)) rfl pS (ac (pv 1) (ac (pv 2) ad)))) R)),λD σ H b W O=>?_⟩
 obtain⟨a,rfl,l⟩:=b;refine⟨_,rfl,a,0,rfl,l,λI h0 h1=>⟨_,_,rfl,rfl,by show(0:Int)<4;decide,_,_,rfl,rfl,?_⟩⟩;obtain⟨many,hm⟩:∃many:Nat,1+I % 4=(many:Int):=⟨(1+I % 4).toNat,by lia⟩
 have y:1<=many:=by lia
 have M:many<=4:=by lia
 dsimp only;rw[hm];refine⟨_,rfl,a,5,rfl,l,λF h5 h6=>⟨_,_,rfl,rfl,by show(0:Int)<4;decide,_,rfl,by lia,by lia,?_⟩⟩;obtain⟨n,hn⟩:∃n:Nat,F % 4=(n:Int):=⟨(F % 4).toNat,by lia⟩
 have n3:n<=3:=by lia
 rw[hn];refine h9 (lo:=0) (n:=((n:Int)).toNat) (λj d g=>∃c:Bk.ak,ar H g/\c.length=j/\Pl (aA.rep K g) d c/\∀b∈c,b∈Bk.aK many) ⟨[],ar.refl _,rfl,.nil,λb v=>by cases v⟩ ?_ (by rw[PY];lia) ?_ ?_
 .rintro j d g _ ⟨c,_,G,e,_⟩;have:=e.length;lia
 .rintro j d g hj ⟨c,s4,G,e,m⟩;refine V4 (bn ⟨_,rfl,_,rfl,_,_,rfl,rfl,_,rfl,a,_,many,rfl,l.same s4,y,by lia,λx o H5 s5 N Y=>⟨c++[o],s4.trans s5,?_,ck (aJ (λ_ _ z=>aA.mono s5 z) e) (.cons N .nil),λb v=>?_⟩⟩)
  .rw[QI];show _+1=_;lia
  .rcases QJ.mp v with h|h
   .exact m b h
   .rw[Qw.mp h];exact Y
 .rintro d g p ⟨c,s4,G,e,m⟩ J;have s5:=af J (.lst d);have L:=OL.new (K:=K) J e;refine⟨_,rfl,_,rfl,many,p,c,rfl,y,M,L,m,by lia,λU S H6 s6 Z Q gen=>?_⟩;exact X D _ _ ⟨_,p,U,many,c,S,rfl,⟨a,rfl,l.same (s4.trans (s5.trans s6))⟩,y,M,OL.same s6 L,m,by lia,Z,Q,gen⟩ W O
theorem LL (hr:RM 14 A s f Pi)(T:Qj K mg CO)(WT:WTO P w K mg base CO)(WL:Df P w K mg base Ph 7 "_law_book" ["_law_many","_law_orders"] (qi K))(WB:WBO P w K mg base CO)(WG:WIG P w K mg base):HS (XL P w K mg base f Pi A outer s H0 E) RT (cr 3) (D3 K) (D3 K):=by
 have x:(A.deeper (UK "law" (ap jd) s.heap.objs.size f Pi)).units+64<PK:=hr.units;have g:(A.deeper (UK "law" (ap jd) s.heap.objs.size f Pi)).units+jT.QV<PK:=by show _+4<PK;lia
 refine⟨_,aY (PW.pt (lH (aP (tV jT g) (az WT hr rfl lM (ac (pv 1) (ac (aV ko rfl T.t.list ib (ac (pv 2) ad)) ad)))
    (az WL (hr.mono (by decide)) rfl pS (ac (pv 1) (ac (pv 3) ad))) (aW _))
   (jh (cK (cX (az WG (hr.mono (by decide)) rfl pS (ac (az WB (hr.mono (by decide)) rfl lM (ac (pv 1) (ac (pv 3) ad))) ad))))))) (ai aM) aI,λD M H b F O=>?_⟩
 obtain⟨m,j,c,many,h,S,rfl,d⟩:=b;obtain⟨e,L,py⟩:=id d.os;have Q:=py.length;have Qk:=d.Qk;refine⟨_,rfl,_,rfl,j,e,rfl,.inl (Pg.of L),λn J=>?_⟩;have s1:=af J (.lst e);refine⟨_,n,rfl,.inl ⟨many,e,h,S,rfl,d.m1,d.m4,ag,aJ (λ_ _ z=>aA.mono s1 z) py,d.all,by lia,d.ok,d.gen,λt N s2 l=>?_⟩⟩;have Rz:=s1.trans s2;refine⟨_,rfl,_,rfl,many,c,S,rfl,OL.same Rz d.od,d.ok,λW p Y s4 y=>?_⟩;refine⟨kY many (bh many S),kY many (bh many S),ge (l.same s4),ge y.a,_,rfl,?_⟩;rw[Pf rfl,P7 rfl];refine ba ?_;have Ys:=Rz.trans s4;obtain⟨G,hz,C⟩:=OL.same Ys d.od;have R:=d.ok.len;have m1:=d.m1;have m4:=d.m4;refine⟨_,rfl,_,rfl,.inl ⟨many,c,G,S,rfl,Pg.of hz,C,λo u=>jS m1 (by lia) (d.ok.mem o u),m1,by lia,by lia,λX I U s5 v=>?_⟩⟩;refine⟨_,many,S,rfl,m4,d.ok,v.a,λZ s6=>⟨_,rfl,?_⟩⟩;rw[P7 d.UE];exact ba (F _ _ ⟨m,j,c,many,h,S,rfl,d.same (Ys.trans (s5.trans s6))⟩)
def D5 (K:O6):St->Hp->Prop:=λσ H=>∃(v0:V) (la ld lp l1 l2:f') (many:Nat) (n:Int) (sm S S1 S2:Bk.ak),σ=[some v0,some (.int (many:Int)),some (.ref la),some (.ref ld),some (.int n),some (.ref lp),none,none]/\0<=n/\Dr K H v0 la ld many sm S/\H lp=some (.lst [.ref l1,.ref l2])/\OL K H l1 S1/\OL K H l2 S2/\Bk.Qn many S1/\Bk.Qn many S2
theorem LM (hr:RM 14 A s f Pi)(T:Qj K mg CO)(WM:WMX P w K mg base)(WO:WOR P w K mg base)(h:UI (XL P w K mg base f Pi A outer s H0 E) RT rest (D5 K) B):UI (XL P w K mg base f Pi A outer s H0 E) RT (cr 4::cr 5::rest) (D3 K) B:=by
 obtain⟨u,hu,kk⟩:=h;have hu0:(A.deeper (UK "law" (ap jd) s.heap.objs.size f Pi)).units+64<PK:=hr.units;refine⟨_,ae (ay (i:=4) gO.nd rfl (lc rfl) (az WM (hr.mono (by decide)) rfl pS (ac (pv 0) (ac ao ad))))
  (ae (ay (i:=5) gO.nd rfl (lc rfl) (bf (ac
   (av gv (fe lK (pv 3) fT (fU (av cL (av fS (pv 4) ao) ao))) (fe lK (pv 3) (fU (av bT (av cL (av fS (pv 4) ao) ao) ao)) fT))
   (ac (aB (kK rfl) rfl T.t.sorted ig (ac
    (aV (kJ aA (itE P w) (by show(A.deeper _).units+1+1+1<PK;lia) rfl (λI h=>lS I h) (λ⟨p,_,e,_⟩=>⟨p,e⟩)) rfl T.set ye
     (ac (av gv (pv 3) (bf (ac (az WO (hr.mono (by decide)) rfl pS (ac (pv 0) (ac ao (ac (pv 1) ad)))) ad))) ad)) ad)) ad)))) hu),λD σ H b qn qr=>?_⟩
 obtain⟨v0,la,y,many,sm,S,rfl,d⟩:=b;obtain⟨a,rfl,Q⟩:=d.sc;have m1:=d.m1;have m4:=d.m4;have ZA:=d.ok.len;obtain⟨c,hy,py⟩:=id d.od;have yl:=py.length;refine⟨_,rfl,a,6,rfl,Q,λn n0 n1=>?_⟩;obtain⟨k,m⟩:∃k:Nat,n / 4 % 24=(k:Int):=⟨(n / 4 % 24).toNat,by lia⟩
 refine⟨_,rfl,_,rfl,_,_,rfl,rfl,⟨by decide,by decide⟩,_,_,rfl,rfl,(by show(0:Int)<24;decide),_,rfl,y,c,rfl,Pg.of hy,λv M=>?_⟩;rw[m,qf];have s1:=af M (.lst (c.take k));have W:(upd H v (.lst (c.take k))) v=some (.lst (c.take k)):=ag;generalize (upd H v (.lst (c.take k)))=H1 at s1 W ⊢;refine⟨_,rfl,_,rfl,_,_,rfl,rfl,⟨by decide,by decide⟩,_,_,rfl,rfl,(by show(0:Int)<24;decide),_,_,rfl,rfl,_,rfl,y,c,rfl,Pg.of (s1 _ _ hy),λp2 Zi=>?_⟩;rw[m,show((k:Int)+1)=((k+1:Nat):Int) by lia,lg];have s2:=af Zi (.lst (c.drop (k+1)));refine⟨v,p2,_,_,rfl,rfl,s2 _ _ W,ag,by rw[PY,RW,YH];lia,λG X=>?_⟩;have s3:=af X (.lst (c.take k++c.drop (k+1)));have j:=s1.trans (s2.trans s3);have o1:=OL.new (K:=K) X (aJ (λ_ _ z=>aA.mono (s1.trans s2) z) (ck (sv k py) (sx (k+1) py)));have J:=d.same j;generalize (upd (upd H1 p2 (.lst (c.drop (k+1)))) G (.lst (c.take k++c.drop (k+1))))=H3 at s3 j o1 J ⊢;have sub:(S.take k++S.drop (k+1)).Sublist S:=by
  have:=List.Sublist.append (aas (S.take k)) ((List.drop_sublist 1 (S.drop k)));rw[Wr,List.drop_drop] at this;exact this
 have S1:=Qn.sub d.ok sub;obtain⟨O,hz,Z⟩:=id J.od;refine⟨_,rfl,_,rfl,_,rfl,a,7,many,rfl,Q.same j,m1,by lia,λx o U s4 ro om=>⟨by show 1<=Pj;decide,λN F=>?_⟩⟩;have s5:=af F (.lst [x]);refine⟨y,N,_,_,rfl,rfl,s5 _ _ (s4 _ _ hz),ag,by rw[PY];have:=Z.length;show _+1<=_;lia,λl L=>?_⟩;have s6:=af L (.lst (O++[x]));have s36:=s4.trans (s5.trans s6);have o6:(i9 aA).rep K (upd (upd U N (.lst [x])) l (.lst (O++[x]))) (.ref l) (S++[o]):=⟨l,_,rfl,Pg.of ag,aJ (λ_ _ z=>aA.mono s6 z) (ck (aJ (λ_ _ z=>aA.mono (s4.trans s5) z) Z) (.cons (aA.mono s5 ro) .nil))⟩
 generalize (upd (upd U N (.lst [x])) l (.lst (O++[x])))=H6 at s6 s36 o6 ⊢;have mem:∀q∈S++[o],q∈Bk.aK many:=λq g=>by
  rcases QJ.mp g with h|h
  .exact d.ok.mem q h
  .rw[Qw.mp h];exact om
 refine⟨.ref l,S++[o],rfl,o6,λjs nd hj=>XD (i4 m1 m4 nd λq g=>mem q (hj q g)) (by decide),λp bs R hp pb nd m=>?_⟩;have s7:=af hp (fX w p bs);have all:∀q∈R,q∈Bk.aK many:=λq g=>mem q ((m q).mp g);have kl:=i4 m1 m4 nd all;refine⟨p,bs,R,rfl,ag,aJ (λ_ _ z=>aA.mono s7 z) pb,λq g=>?_,by lia,λY S7 PM hl Xo perm Rs=>?_⟩
 .have:=(iE m1 (by lia) (all q g)).1;intro e;subst e;have:(0:Nat)=many:=this;lia
 have s8:=af hl (.lst S7);have pl:=perm.length_eq;have S2:Bk.Qn many PM:=⟨m1,by lia,λq g=>all q (perm.mem_iff.mp g),rZ Rs (perm.nodup_iff.mpr nd),by lia,λe=>by lia⟩
 have o8:=OL.new (K:=K) hl Xo;have Yt:=s36.trans (s7.trans s8);refine⟨by show 2<=Pj;decide,λlp C=>?_⟩;have s9:=af C (.lst [.ref G,.ref Y]);exact kk D _ _ ⟨_,la,y,lp,G,Y,many,n,sm,S,_,PM,rfl,n0,J.same (Yt.trans s9),ag,OL.same (Yt.trans s9) o1,OL.same s9 o8,S1,S2⟩ qn qr
theorem ix4 {p:V->Prop}(e:xs.length=4)(h:∀x∈xs,p x):∃v,Si xs (n % 4)=some v/\p v:=by
 obtain⟨k,hk⟩:∃k:Nat,n % 4=(k:Int):=⟨(n % 4).toNat,by lia⟩
 have kl:k<xs.length:=by lia
 rw[hk];exact⟨xs[k],bU (Qu kl),h _ (Wy kl)⟩
abbrev OS (K:O6)(H:Hp)(many:Nat)(v:V):Prop:=∃(a:f') (os:Bk.ak),v=.ref a/\OL K H a os/\Bk.Qn many os
def D7 (K:O6):St->Hp->Prop:=λσ H=>∃(v0:V) (la ld lx:f') (many:Nat) (n:Int) (sm S Sx:Bk.ak),σ=[some v0,some (.int (many:Int)),some (.ref la),some (.ref ld),some (.int n),some (.ref lx),some (.bl (decide (R6 many Sx))),none]/\0<=n/\Dr K H v0 la ld many sm S/\OL K H lx Sx/\Bk.Qn many Sx
theorem LN (hr:RM 14 A s f Pi)(WS:Df P w K mg base Ph 3 "_law_set" ["_law_script","_law_k","_law_many"] (yo K))(WB:WBO P w K mg base CO)(WG:WIG P w K mg base)(h:UI (XL P w K mg base f Pi A outer s H0 E) RT rest (D7 K) B):UI (XL P w K mg base f Pi A outer s H0 E) RT (cr 6::cr 7::rest) (D5 K) B:=by
 obtain⟨u,T,kk⟩:=h;refine⟨_,ae (ay (i:=5) gO.nd rfl (lc rfl) (bj (show SY _ (fL K) from bB) (av gv (pv 5) (bf (ac (az WS (hr.mono (by decide)) rfl pS (ac (pv 0) (ac ao (ac (pv 1) ad)))) (ac (pv 3) ad)))) (av cL (pv 4) ao) (λ_ _=>rfl)))
  (ae (ay (i:=6) gO.nd rfl (lc rfl) (az WG (hr.mono (by decide)) rfl pS (ac (az WB (hr.mono (by decide)) rfl lM (ac (pv 1) (ac (pv 5) ad))) ad))) T),λD σ H b qn O=>?_⟩
 obtain⟨v0,la,c,N,e,g,many,n,sm,S,S1,S2,rfl,Y,d,y,o1,R,k1,k2⟩:=b;obtain⟨a,rfl,U⟩:=d.sc;have m1:=d.m1;have m4:=d.m4;refine⟨_,rfl,_,rfl,_,rfl,a,10,many,rfl,U,m1,m4,λr os J s1 or sub=>?_⟩;refine⟨_,rfl,by show 2<=Pj;decide,λF t=>?_⟩;have s2:=af t (.lst [.ref r,.ref c]);refine⟨N,F,_,_,rfl,rfl,s2 _ _ (s1 _ _ y),ag,by show 4<=Pj;decide,λl m=>?_⟩;have s3:=af m (.lst ([.ref e,.ref g]++[.ref r,.ref c]));have Tv:=s1.trans (s2.trans s3);have M:(upd (upd J F (.lst [.ref r,.ref c])) l (.lst ([.ref e,.ref g]++[.ref r,.ref c]))) l=some (.lst ([.ref e,.ref g]++[.ref r,.ref c])):=ag;have or3:=OL.same (s2.trans s3) or;generalize (upd (upd J F (.lst [.ref r,.ref c])) l (.lst ([.ref e,.ref g]++[.ref r,.ref c])))=H3 at s3 Tv M or3 ⊢;have I:=d.same Tv;obtain⟨v,Q,G,C,rfl,L,j⟩:=ix4 (n:=n) (p:=OS K H3 many) (show [V.ref e,V.ref g,V.ref r,V.ref c].length=4 from rfl) λx hx=>by
  rcases PN.mp hx with rfl|hx
  .exact⟨_,_,rfl,OL.same Tv o1,k1⟩
  rcases PN.mp hx with rfl|hx
  .exact⟨_,_,rfl,OL.same Tv R,k2⟩
  rcases PN.mp hx with rfl|hx
  .exact⟨_,_,rfl,or3,Bk.Qn.of m1 m4 sub⟩
  rw[Qw.mp hx];exact⟨_,_,rfl,I.od,d.ok⟩
 refine⟨_,rfl,_,_,rfl,rfl,(by show(0:Int)<4;decide),l,_,_,_,rfl,rfl,Pg.of M,Q,?_⟩;obtain⟨zs,hz,Z⟩:=id L;have ZA:=j.len;refine⟨_,rfl,_,rfl,.inl ⟨many,G,zs,C,rfl,Pg.of hz,Z,λo W=>jS m1 (by lia) (j.mem o W),m1,by lia,by lia,λt5 lr5 H5 s5 X=>?_⟩⟩;refine⟨_,many,C,rfl,m4,j,X.a,λH6 s6=>?_⟩;exact kk D _ _ ⟨_,la,c,G,many,n,sm,S,C,rfl,Y,I.same (s5.trans s6),OL.same (s5.trans s6) L,j⟩ qn O
theorem LO (hr:RM 14 A s f Pi)(T:Qj K mg CO)(WI:Df P w K mg base Ph 2 "_law_is_group" ["_law_many","_law_some"] (vq K)):HS (XL P w K mg base f Pi A outer s H0 E) RT (cr 8) (D7 K) (D7 K):=by
 refine⟨_,aY (PW.pt (lH (cK (cX (aB bO rfl T.t.SZ dz (ac (pv 6) (ac (eF (v:=.ty "bool") rfl T.t.bool zJ rfl) ad)))))
  (jh (aP iI (pv 6) (az WI (hr.mono (by decide)) rfl pS (ac (pv 1) (ac (pv 5) ad))) (aW _))))) (ai aM) aI,λD x H b o y=>?_⟩
 obtain⟨l,u,j,g,many,n,p,S,e,rfl,m,d,h,c⟩:=b;refine⟨_,rfl,_,_,_,_,_,rfl,rfl,.of (.bl _),F9,_,rfl,ba ?_⟩;refine⟨_,rfl,_,rfl,_,rfl,many,g,e,rfl,d.m4,c,h,λC s1=>⟨rfl,_,rfl,?_⟩⟩;rw[P7 rfl];exact ba (o _ _ ⟨l,u,j,g,many,n,p,S,e,rfl,m,d.same s1,OL.same s1 h,c⟩)
theorem DE {α β:Type}{F G:α->β->Prop}:∀{l:List α}{m:List β},Pl F l m->(∀b∈m,∀a,F a b->G a b)->Pl G l m
 | _,_,.nil,_=>.nil
 | _,_,.cons h t,f=>.cons (f _ (Px ..) _ h) (DE t λb c=>f b (PU _ c))
abbrev j6 (K:O6)(H:Hp)(v:V):Prop:=∃(bt:f') (m:Int) (l:f'),v=.ref bt/\H bt=some (.tup [.int m,.ref l])/\((Yk m/\¬(1<=m/\m<=6))\/
 ∃(many:Nat) (ys:List V) (os:Bk.ak),m=many/\1<=many/\many<=4/\H l=some (.lst ys)/\Pl (λy o=>∃a,y=.ref a/\Tp K H a o) ys os/\os.length<=8/\¬(∀o∈os,i8 many o))
def D9 (K:O6):St->Hp->Prop:=λσ H=>∃(v0 v1 v2 v3 v4 v5 v6 v:V),σ=[some v0,some v1,some v2,some v3,some v4,some v5,some v6,some v]/\j6 K H v
theorem j6.same (s:ar H H'):j6 K H v->j6 K H' v:=by
 rintro⟨d,m,l,rfl,j,h⟩;refine⟨d,m,l,rfl,s _ _ j,h.imp id ?_⟩;rintro⟨many,f,os,e,n,o,c,py,b,g⟩;exact⟨many,f,os,e,n,o,s _ _ c,aJ (λ_ _ ⟨a,e,t⟩=>⟨a,e,t.same s⟩) py,b,g⟩
theorem LP (hr:RM 14 A s f Pi)(T:Qj K mg CO):HS (XL P w K mg base f Pi A outer s H0 E) RT (cr 9) (D7 K) (D9 K):=by
 refine⟨_,ay (i:=7) gO.nd rfl (lc rfl) (bj (show SY _ (fL K) from bB) (bf (ac (cz (ac ao (ac (bf ad) ad))) (ac (cz (ac ao (ac (bf ad) ad)))
  (ac (cz (ac (pv 1) (ac (av gv (pv 2) (bf (ac (aV (dE rfl) rfl T.t.tuple cw (ac (aV dG rfl T.t.range fA (ac (av bT (pv 1) ao) ad)) ad)) ad))) ad)))
  (ac (cz (ac ao (ac (bf ad) ad))) ad))))) (av cL (av fS (pv 4) ao) ao) (λ_ _=>rfl)),λD σ H b qn qr=>?_⟩
 obtain⟨v0,la,ld,lx,many,n,sm,S,Sx,rfl,n0,d,ox,kx⟩:=b;have m1:=d.m1;have m4:=d.m4;have Qk:=d.Qk;refine⟨by show 0<=Pj;decide,λF V8=>⟨by show 2<=Pj;decide,λl Y=>?_⟩⟩;have s1:=(af V8 (.lst [])).trans (af Y (.tup [.int 7,.ref F]));have h1:(upd (upd H F (.lst [])) l (.tup [.int 7,.ref F])) l=some (.tup [.int 7,.ref F]):=ag;generalize (upd (upd H F (.lst [])) l (.tup [.int 7,.ref F]))=H1 at s1 h1 ⊢;have b1:j6 K H1 (.ref l):=⟨l,7,F,rfl,h1,.inl ⟨bI (by lia) (by lia),by lia⟩⟩
 refine⟨by show 0<=Pj;decide,λC Z=>⟨by show 2<=Pj;decide,λj TU=>?_⟩⟩;have s2:=(af Z (.lst [])).trans (af TU (.tup [.int 0,.ref C]));have h2:(upd (upd H1 C (.lst [])) j (.tup [.int 0,.ref C])) j=some (.tup [.int 0,.ref C]):=ag;generalize (upd (upd H1 C (.lst [])) j (.tup [.int 0,.ref C]))=H2 at s2 h2 ⊢;have b2:j6 K H2 (.ref j):=⟨j,0,C,rfl,h2,.inl ⟨bI (by lia) (by lia),by lia⟩⟩
 have d2:=d.same (s1.trans s2);obtain⟨G,hy,py⟩:=id d2.os;have yl:=py.length;refine⟨_,rfl,_,rfl,_,rfl,_,_,rfl,rfl,_,rfl,λO Ra=>⟨O,0,_,rfl,ag,by decide,by decide,by lia,by lia,by rw[PY];lia,λc Q=>?_⟩⟩;have ei:cU 0 ((many:Int)+1-0).toNat=(Mx.aw (many+1)).map V.int:=by rw[cA,show((many:Int)+1-0).toNat=many+1 by lia]
 rw[ei];refine⟨by show 1<=Pj;decide,λM I=>?_⟩;have s3:=(af Ra (.RK 0 ((many:Int)+1))).trans ((af Q (.tup ((Mx.aw (many+1)).map V.int))).trans (af I (.lst [.ref c])));have h3:(upd (upd (upd H2 O (.RK 0 ((many:Int)+1))) c (.tup ((Mx.aw (many+1)).map V.int))) M (.lst [.ref c])) M=some (.lst [.ref c]):=ag;have L:(upd (upd (upd H2 O (.RK 0 ((many:Int)+1))) c (.tup ((Mx.aw (many+1)).map V.int))) M (.lst [.ref c])) c=some (.tup ((Mx.aw (many+1)).map V.int)):=af I _ _ _ ag;generalize (upd (upd (upd H2 O (.RK 0 ((many:Int)+1))) c (.tup ((Mx.aw (many+1)).map V.int))) M (.lst [.ref c]))=H3 at s3 h3 L ⊢;refine⟨la,M,G,_,rfl,rfl,s3 _ _ hy,h3,by rw[PY];show _+1<=_;lia,λe R=>⟨by show 2<=Pj;decide,λh J=>?_⟩⟩;have s4:=(af R (.lst (G++[.ref c]))).trans (af J (.tup [.int many,.ref e]));have h4:(upd (upd H3 e (.lst (G++[.ref c]))) h (.tup [.int many,.ref e])) h=some (.tup [.int many,.ref e]):=ag;have N:(upd (upd H3 e (.lst (G++[.ref c]))) h (.tup [.int many,.ref e])) e=some (.lst (G++[.ref c])):=af J _ _ _ ag;generalize (upd (upd H3 e (.lst (G++[.ref c]))) h (.tup [.int many,.ref e]))=H4 at s4 h4 N ⊢;have b3:j6 K H4 (.ref h):=by
  refine⟨h,many,e,rfl,h4,.inr ⟨many,_,sm++[aw (many+1)],rfl,m1,m4,N,ck (DE py λo ho y ro=>?_) (.cons ⟨c,rfl,Pw.of (s4 _ _ L),by rw[bc];lia,λx hx=>by have:=br.mp hx;exact bI (by lia) (by lia)⟩ .nil),?_,λg=>?_⟩⟩
  .obtain⟨a,rfl,qa⟩:=ce ro;obtain⟨ol,ob⟩:=iE m1 (by lia) (d.all o ho);exact⟨a,rfl,(s3.trans s4).Qh qa,by lia,λx hx=>by have:=ob x hx;exact bI (by lia) (by lia)⟩
  .rw[QI];show _+1<=8;lia
  .have:=(g _ (RA _ (Qw.mpr rfl))).2.2.1;rw[bc] at this;lia
 refine⟨by show 0<=Pj;decide,λu U=>⟨by show 2<=Pj;decide,λm W=>?_⟩⟩;have s5:=(af U (.lst [])).trans (af W (.tup [.int 9,.ref u]));have h5:(upd (upd H4 u (.lst [])) m (.tup [.int 9,.ref u])) m=some (.tup [.int 9,.ref u]):=ag;generalize (upd (upd H4 u (.lst [])) m (.tup [.int 9,.ref u]))=H5 at s5 h5 ⊢;have b4:j6 K H5 (.ref m):=⟨m,9,u,rfl,h5,.inl ⟨bI (by lia) (by lia),by lia⟩⟩
 refine⟨by show 4<=Pj;decide,λlb X=>?_⟩;have s6:=af X (.lst [.ref l,.ref j,.ref h,.ref m]);obtain⟨v,hv,bv⟩:=ix4 (n:=n / 128) (p:=j6 K (upd H5 lb (.lst [.ref l,.ref j,.ref h,.ref m]))) (show [V.ref l,V.ref j,V.ref h,V.ref m].length=4 from rfl) λx hx=>by
  rcases PN.mp hx with rfl|hx
  .exact b1.same (s2.trans (s3.trans (s4.trans (s5.trans s6))))
  rcases PN.mp hx with rfl|hx
  .exact b2.same (s3.trans (s4.trans (s5.trans s6)))
  rcases PN.mp hx with rfl|hx
  .exact b3.same (s5.trans s6)
  rw[Qw.mp hx];exact b4.same s6
 exact⟨_,rfl,_,_,rfl,rfl,⟨by decide,by decide⟩,_,_,rfl,rfl,(by show(0:Int)<4;decide),lb,_,_,v,rfl,rfl,Pg.of ag,hv,qn _ _ ⟨_,_,_,_,_,_,_,v,rfl,bv⟩⟩
theorem KH (hr:RM 14 A s f Pi)(WT:WTO P w K mg base CO):HS (XL P w K mg base f Pi A outer s H0 E) RT (cr 10) (D9 K) B:=by
 refine⟨_,aH (gQ cY (az WT hr rfl lM (ac (Rq K (pv 7) ao) (ac (Rq K (pv 7) ao) ad))) dS (aW _)),λD F H b N d=>?_⟩;obtain⟨C,G,M,O,I,J,L,v,rfl,c,m,l,rfl,g,h⟩:=b;refine⟨_,rfl,c,_,_,_,rfl,rfl,Pw.of g,rfl,_,rfl,c,_,_,_,rfl,rfl,Pw.of g,rfl,m,l,rfl,?_⟩;refine .inr (h.imp (λ⟨a,b⟩=>⟨a,b,λu _=>⟨rfl,λp _=>⟨rfl,d _ _ ?_⟩⟩⟩) λ⟨many,o,os,e,x,y,n,py,j,t⟩=>⟨many,o,os,e,x,y,n,py,j,t,λu _=>⟨rfl,λp _=>⟨rfl,d _ _ ?_⟩⟩⟩)
 all_goals exact congrArg V.bl (P7 rfl)
def sQ (K:O6):Sp:=λvs H Q _=>∃(a:f') (ns:List Int),vs=[.ref a]/\Pg K H a (ns.map V.int)/\∀H',Q (.bl true) H'
theorem GW (F:PR K "law" "law" jd f fd)(T:Qj K mg CO)(WM:WMX P w K mg base)(WO:WOR P w K mg base)(WC:Df P w K mg base Ph 2 "_law_closed" ["_law_many","_law_some"] (nM K))(WT:WTO P w K mg base CO)(WL:Df P w K mg base Ph 7 "_law_book" ["_law_many","_law_orders"] (qi K))(WB:WBO P w K mg base CO)(WG:WIG P w K mg base)(WS:Df P w K mg base Ph 3 "_law_set" ["_law_script","_law_k","_law_many"] (yo K))(WI:Df P w K mg base Ph 2 "_law_is_group" ["_law_many","_law_some"] (vq K)):Py P w K mg base Ph 15 f fd ["_law_script"] (sQ K):=by
 refine F.ok gO (λvs H Q E h=>?_) (λc A outer s H vs Q E b h=>?_)
 .obtain⟨a,ns,rfl,_⟩:=h;rfl
 obtain⟨a,ns,rfl,d,q⟩:=h;have all:UI (XL P w K mg base f c A outer s H E) RT [cr 0,cr 1,cr 2,cr 3,cr 4,cr 5,cr 6,cr 7,cr 8,cr 9,cr 10] (D0 K) (λ_ _=>False):=
  LK b T WM WO WC<|(LL b T WT WL WB WG).cons<|LM b T WM WO<|LN b WS WB WG<|(LO b T WI).cons<|(LP b T).cons<|(KH b WT).cons UI.nil
 obtain⟨t,g,k⟩:=all;refine⟨t,g,k _ _ _ ⟨a,rfl,⟨ns,d⟩⟩ (λ_ _ z=>z.elim) λv j e=>?_⟩;subst e;exact q j
end Ord
set_option maxHeartbeats 0
namespace Vw
open PySem PySem.W L2
noncomputable section
abbrev pw:Pk:=PySem.Challenge.pw_ordernest_k41_whole_groups
def at_ (i:Nat):Pc:=pw.main.body.getD i (.Pass ⟨0,0,0,0⟩)
def s0:Pc:=at_ 0
def s1:Pc:=at_ 1
def s2:Pc:=at_ 2
def s3:Pc:=at_ 3
def s4:Pc:=at_ 4
def s5:Pc:=at_ 5
def s6:Pc:=at_ 6
def s7:Pc:=at_ 7
def s8:Pc:=at_ 8
def s9:Pc:=at_ 9
def TY:Pc:=at_ 10
def Wb:Pc:=at_ 11
def Rz:Pc:=at_ 12
def Tv:Pc:=at_ 13
def Ys:Pc:=at_ 14
def s15:Pc:=at_ 15
def s16:Pc:=at_ 16
def s17:Pc:=at_ 17
def s18:Pc:=at_ 18
def ZB:Pc:=at_ 19
def s20:Pc:=at_ 20
def s21:Pc:=at_ 21
def s22:Pc:=at_ 22
def Yr:Pc:=at_ 23
def s24:Pc:=at_ 24
def Ts:Pc:=at_ 25
def UF:Pc:=at_ 26
def s27:Pc:=at_ 27
def s28:Pc:=at_ 28
def s29:Pc:=at_ 29
def s30:Pc:=at_ 30
def s31:Pc:=at_ 31
def s32:Pc:=at_ 32
def s33:Pc:=at_ 33
def Yp:Pc:=at_ 34
def Zz:Pc:=at_ 35
def s36:Pc:=at_ 36
def s37:Pc:=at_ 37
def Yt:Pc:=at_ 38
def s39:Pc:=at_ 39
def s40:Pc:=at_ 40
def s41:Pc:=at_ 41
def s42:Pc:=at_ 42
def s43:Pc:=at_ 43
def s44:Pc:=at_ 44
def Xv:Pc:=at_ 45
def s46:Pc:=at_ 46
def s47:Pc:=at_ 47
def s48:Pc:=at_ 48
def s49:Pc:=at_ 49
def s50:Pc:=at_ 50
def s51:Pc:=at_ 51
def s52:Pc:=at_ 52
def s53:Pc:=at_ 53
def s54:Pc:=at_ 54
def s55:Pc:=at_ 55
def s56:Pc:=at_ 56
def s57:Pc:=at_ 57
def s58:Pc:=at_ 58
def s59:Pc:=at_ 59
def s60:Pc:=at_ 60
def s61:Pc:=at_ 61
def s62:Pc:=at_ 62
def s63:Pc:=at_ 63
def s64:Pc:=at_ 64
def s65:Pc:=at_ 65
def s66:Pc:=at_ 66
def s67:Pc:=at_ 67
def s68:Pc:=at_ 68
def s69:Pc:=at_ 69
def dk (P:XS)(x:N')(t:Nat)(v:D'):Rc:=⟨PyData.keyHash P x,.str x t,v⟩
def kf (x q:N')(s:Pc)(kV doc pm Pi ct:D'):G':=⟨.type "function",none,.func (fnOf x q (dM s) (cO s) (ap s) .none kV doc pm none Pi ct),#[]⟩
def kg (c:D')(x q:N')(s:Pc)(g:Nat)(dV kV doc pm Pi ct:D'):G':=⟨c,none,.func { name:=x,qualname:=q,params:=dM s,body:=.stmts (cO s),scope:=ap s,globals:=g,closure:=[],defaults:=dV,kwdefaults:=kV,doc:=doc,pyModule:=pm,code:=Pi,closureTuple:=ct },#[]⟩
def kj (c:D')(d:Data):G':=⟨c,none,d,#[]⟩
def kt (l:List D'):G':=⟨.type "tuple",none,.seq ⟨l⟩ 0,#[]⟩
def sR (s:Pc)(i:Nat):Pc:=match s with
 | .ClassDef _ _ _ b _ _ _ _ _ _ _=>b.getD i (.Pass ⟨0,0,0,0⟩)
 | s=>s
def r (a:Nat):D':=.ref a
def i (a:Int)(t:Nat):D':=.int a t
def z (x:N')(t:Nat):D':=.str x t
def kc (x q:N')(a b c l n f r1 r2 r3 r4 r5 t m u:Nat):G':=kj (.type "code") (.fields #[z x a,z q b,z "/claim/cut.py" c,i l 0,i n 0,i 0 0,i 0 0,i f 0,r r1,.bool true,i 181 0,r r2,.none,r r3,r r4,r r5,i t 0,i m 0,z "/claim/cut.py" u])
variable (P:XS)
def lt (n a:Nat):List D':=[i n 0,i 0 0,r a]
def kl (l:List D'):G':=kj .none (.fields ⟨l⟩)
def Sm:=z "ordernest.errors" 187
def RN:=z "ordernest.books" 350
def Tw:=z "ordernest.marks" 546
def Tx:=z "law_ordernest_k41_whole_groups" 711
def zz4:=z "NestError" 197
def zz5:=z "NestError" 189
def zz6:=z "ordernest.orders" 319
def zz7:=z "ordernest.turning" 667
def o11:G':=kt []
def o12:G':=kj .none (.fields #[])
def VA (a:N')(b:Nat)(c:Nat)(d:Nat):G':=kj (.type "code") (.fields #[z a b,z a (b+1),z "/claim/cut.py" (b+2),i c 0,i 0 0,i 0 0,i 0 0,i 0 0,r d,.bool false,i 181 0,r (d+1),.none,.none,.none,.none,i (b+3) 0,i c 0,z "/claim/cut.py" (b+4)])
def o13:G':=VA "<module>" 182 1 11
def o14:G':=⟨(.type "frame"),none,.plain,#[(some (r 13)),(some (r 3)),(some (r 3)),none,(some (z "__main__" 164)),none,(some (r 0))]⟩
def ZC:List Rc:=[dk P "__doc__" 166 .none,dk P "__package__" 167 .none,dk P "__loader__" 168 (.builtin "__main__.__loader__#opaque"),dk P "__spec__" 169 .none,dk P "__annotations__" 170 (r 6),dk P "__builtins__" 171 (r 4),dk P "__file__" 173 (z "/claim/cut.py" 172),dk P "__cached__" 174 .none,dk P "NestError" 206 (r 24)]
def o3:G':=kj (.type "dict") (.dict ⟨dk P "__name__" 165 Sm::ZC P⟩ 10)
def Bf:=lt 2 20
def KJ:G':=kl Bf
def o15:G':=kt [.type "ValueError"]
def We:G':=kj (.type "builtin_function_or_method") (.fields #[.builtin "type.__prepare__",.type "type"])
def o17:G':=kj (.type "dict") (.dict #[dk P "__module__" 196 Sm,dk P "__qualname__" 198 zz4,dk P "__firstlineno__" 200 (i 2 199),dk P "__static_attributes__" 201 (r 22)] 4)
def o20:G':=VA "NestError" 191 2 18
def Wf (a:Nat)(b:D'):G':=⟨(.type "frame"),none,.plain,#[(some (r a)),(some (r 3)),(some (r (a-3))),none,(some b),none,(some (r 0))]⟩
def o21:G':=Wf 20 Sm
def o23:G':=kj (.type "dict") (.dict #[dk P "__module__" 196 Sm,dk P "__firstlineno__" 200 (i 2 199),dk P "__static_attributes__" 201 (r 22),dk P "__weakref__" 203 (r 25),dk P "__doc__" 204 .none] 3)
def Xw (a:List D'):G':=⟨(.type "type"),none,.cls { name:="NestError",bases:=[.type "ValueError"],mro:=[r 24,.type "ValueError",.type "Exception",.type "BaseException",.type "object"],ns:=23,qualname:="NestError",subclasses:=a },#[(some (r 15)),none,(some zz5),(some zz4),(some (.builtin "ValueError.__new__")),(some (.bool true))]⟩
def o24:G':=Xw []
def kk3 (a:Nat)(b:Nat):G':=kj (.type "getset_descriptor") (.fields #[z "__weakref__" a,r b,.builtin "ExceptionGroup.__weakref__",.none])
def o25:G':=kk3 202 24
def Wg (a:Nat):G':=kj (.type "super") (.fields #[r a,r a,r a])
def o26:G':=Wg 24
def Wh (a:Nat):G':=kj (.type "builtin_function_or_method") (.fields #[.builtin "object.__init_subclass__",r a])
def o27:G':=Wh 24
def DF:List Rc:=ZC P++[dk P "BadOrder" 222 (r 37)]
def LQ:G':=kj (.type "dict") (.dict ⟨dk P "__name__" 165 Sm::DF P⟩ 11)
def Bg:=Bf++lt 4 33
def KM:G':=kl Bg
def KN:G':=Xw [r 37]
def Yu:G':=kt [r 24]
def Yv (a:Nat)(b:N')(c:Nat)(d:Nat):G':=kj (.type "dict") (.dict #[dk P "__module__" a Sm,dk P "__qualname__" (a+2) (z b (a+1)),dk P "__firstlineno__" (a+4) (i c (a+3)),dk P "__static_attributes__" (a+5) (r d)] 4)
def o30:G':=Yv P 214 "BadOrder" 4 35
def o31:G':=kt []
def QW:G':=kj .none (.fields #[])
def o33:G':=VA "BadOrder" 209 4 31
def o34:G':=Wf 33 Sm
def P4:G':=kt []
def Yw (a:Nat)(b:Nat)(c:Nat):G':=kj (.type "dict") (.dict #[dk P "__module__" a Sm,dk P "__firstlineno__" (a+4) (i b (a+3)),dk P "__static_attributes__" (a+5) (r c),dk P "__doc__" (a+6) .none] 2)
def o36:G':=Yw P 214 4 35
def Yx (a:N')(b:Nat)(c:Nat):G':=⟨(.type "type"),none,.cls { name:=a,bases:=[r 24],mro:=[r b,r 24,.type "ValueError",.type "Exception",.type "BaseException",.type "object"],ns:=(b-1),qualname:=a,subclasses:=[] },#[(some (r (b-9))),none,(some (z a c)),(some (z a (c+8))),(some (.builtin "ValueError.__new__")),(some (.bool true))]⟩
def o37:G':=Yx "BadOrder" 37 207
def o38:G':=Wg 37
def o39:G':=Wh 37
def DG:List Rc:=DF P++[dk P "BadBook" 238 (r 49)]
def LR:G':=kj (.type "dict") (.dict ⟨dk P "__name__" 165 Sm::DG P⟩ 12)
def Bh:=Bg++lt 6 45
def KO:G':=kl Bh
def KP:G':=Xw [r 37,r 49]
def o42:G':=Yv P 230 "BadBook" 6 47
def o45:G':=VA "BadBook" 225 6 43
def o46:G':=Wf 45 Sm
def o48:G':=Yw P 230 6 47
def o49:G':=Yx "BadBook" 49 223
def o50:G':=Wg 49
def o51:G':=Wh 49
def DH:List Rc:=DG P++[dk P "Unlike" 254 (r 61)]
def LS:G':=kj (.type "dict") (.dict ⟨dk P "__name__" 165 Sm::DH P⟩ 13)
def Bi:=Bh++lt 8 57
def KQ:G':=kl Bi
def KR:G':=Xw [r 37,r 49,r 61]
def o54:G':=Yv P 246 "Unlike" 8 59
def o57:G':=VA "Unlike" 241 8 55
def o58:G':=Wf 57 Sm
def o60:G':=Yw P 246 8 59
def o61:G':=Yx "Unlike" 61 239
def o62:G':=Wg 61
def o63:G':=Wh 61
def DI:List Rc:=DH P++[dk P "BadRule" 270 (r 73)]
def LU:G':=kj (.type "dict") (.dict ⟨dk P "__name__" 165 Sm::DI P⟩ 14)
def Bj:=Bi++lt 10 69
def KS:G':=kl Bj
def KU:G':=Xw [r 37,r 49,r 61,r 73]
def o66:G':=Yv P 262 "BadRule" 10 71
def o69:G':=VA "BadRule" 257 10 67
def o70:G':=Wf 69 Sm
def o72:G':=Yw P 262 10 71
def o73:G':=Yx "BadRule" 73 255
def o74:G':=Wg 73
def o75:G':=Wh 73
def DJ:List Rc:=DI P++[dk P "BadNumber" 286 (r 85)]
def LV:G':=kj (.type "dict") (.dict ⟨dk P "__name__" 165 Sm::DJ P⟩ 15)
def Bl:=Bj++lt 12 81
def KW:G':=kl Bl
def KY:G':=Xw [r 37,r 49,r 61,r 73,r 85]
def o78:G':=Yv P 278 "BadNumber" 12 83
def o81:G':=VA "BadNumber" 273 12 79
def o82:G':=Wf 81 Sm
def o84:G':=Yw P 278 12 83
def o85:G':=Yx "BadNumber" 85 271
def o86:G':=Wg 85
def o87:G':=Wh 85
def DK:List Rc:=DJ P++[dk P "BadWeights" 302 (r 97)]
def LW:G':=kj (.type "dict") (.dict ⟨dk P "__name__" 165 Sm::DK P⟩ 16)
def Bm:=Bl++lt 14 93
def KZ:G':=kl Bm
def K0:G':=Xw [r 37,r 49,r 61,r 73,r 85,r 97]
def o90:G':=Yv P 294 "BadWeights" 14 95
def o93:G':=VA "BadWeights" 289 14 91
def o94:G':=Wf 93 Sm
def o96:G':=Yw P 294 14 95
def o97:G':=Yx "BadWeights" 97 287
def o98:G':=Wg 97
def o99:G':=Wh 97
def DL:List Rc:=DK P++[dk P "BadText" 318 (r 109),dk P "MOST_THINGS" 322 (i 8 321),dk P "is_whole" 329 (r 118),dk P "is_count" 336 (r 125),dk P "look_count" 343 (r 132),dk P "look_order" 349 (r 137),dk P "NO_ROOM" 353 (i 0 352),dk P "END" 355 (i 1 354),dk P "LOWEST" 357 (i 2 356)]
def LX:G':=kj (.type "dict") (.dict ⟨dk P "__name__" 165 RN::DL P⟩ 25)
def Bn:=Bm++lt 16 105++lt 20 117++lt 22 124++lt 24 131++lt 27 136
def K1:G':=kl Bn
def i5:G':=Xw [r 37,r 49,r 61,r 73,r 85,r 97,r 109]
def LY:G':=Yv P 310 "BadText" 16 107
def LZ:G':=VA "BadText" 305 16 103
def L4:G':=Wf 105 Sm
def GX:G':=Yw P 310 16 107
def GY:G':=Yx "BadText" 109 303
def L7:G':=Wg 109
def L8:G':=Wh 109
def L9:G':=kt [z "value" 326]
def Qm (a:N')(b:Pc):G':=kg .none a a b 0 .none .none .none .none .none .none
def Ma:G':=Qm "is_whole" Wb
def bG (a:N')(b:N')(c:Nat)(d:Nat)(e:Nat)(f:Nat)(g:Nat):G':=kc a b c (c+1) (c+2) d e 3 f (f+1) (f+2) (f+3) (f+4) g d (g+1)
def GZ:G':=bG "is_whole" "is_whole" 323 20 1 112 327
def bp (a:N')(b:Pc)(c:D')(d:Nat):G':=kf a a b .none .none c (r d) .none
def G0:G':=bp "is_whole" Wb zz6 117
def Mb:G':=kt [z "many" 333]
def Mc:G':=Qm "is_count" Rz
def G3:G':=bG "is_count" "is_count" 330 22 1 119 334
def G4:G':=bp "is_count" Rz zz6 124
def Md:G':=kt [z "many" 340]
def Me:G':=Qm "look_count" Tv
def G5:G':=bG "look_count" "look_count" 337 24 1 126 341
def G6:G':=bp "look_count" Tv zz6 131
def Mf:G':=Qm "look_order" Ys
def gm (a:N')(b:Nat)(c:Nat)(d:Nat)(e:Nat):G':=kj (.type "code") (.fields #[z a b,z a (b+1),z "/claim/cut.py" (b+2),i c 0,i d 0,i 0 0,i 0 0,i 3 0,r e,.bool true,i 181 0,r (e+1),.none,.none,.none,r (e+2),i (b+3) 0,i c 0,z "/claim/cut.py" (b+4)])
def G7:G':=gm "look_order" 344 27 2 133
def G8:G':=bp "look_order" Ys zz6 136
def DM:List Rc:=DL P++[dk P "Shelf" 394 (r 161),dk P "look_book" 405 (r 172),dk P "look_parts" 412 (r 179),dk P "things_from" 422 (r 186),dk P "look_doors" 433 (r 193)]
def Mg:G':=kj (.type "dict") (.dict ⟨dk P "__name__" 165 RN::DM P⟩ 30)
def Bo:=Bn++lt 39 143++lt 50 171++lt 58 178++lt 67 185++lt 73 192
def K3:G':=kl Bo
def Mh:G':=kj (.type "dict") (.dict #[dk P "__module__" 365 RN,dk P "__qualname__" 367 (z "Shelf" 366),dk P "__firstlineno__" 369 (i 39 368),dk P "__init__" 376 (r 151),dk P "keep" 384 (r 158),dk P "__static_attributes__" 387 (r 159)] 6)
def Mi:G':=kj .none (.fields #[i 41 0,i 4 0,r 150,i 45 0,i 4 0,r 157])
def Mj:G':=VA "Shelf" 360 39 141
def Ml:G':=Wf 143 RN
def Mm:G':=kt [z "self" 373]
def Mo:G':=kg .none "__init__" "Shelf.__init__" (sR ZB 0) 0 .none .none .none .none .none .none
def G9:G':=bG "__init__" "Shelf.__init__" 370 41 1 145 374
def Hb:G':=kf "__init__" "Shelf.__init__" (sR ZB 0) .none .none RN (r 150) .none
def Mp:G':=kt [z "self" 380,z "room" 381]
def Mq:G':=kg .none "keep" "Shelf.keep" (sR ZB 1) 0 .none .none .none .none .none .none
def Hc:G':=bG "keep" "Shelf.keep" 377 45 2 152 382
def He:G':=kf "keep" "Shelf.keep" (sR ZB 1) .none .none RN (r 157) .none
def Mr:G':=kt [z "numbers" 385,z "rooms" 386]
def Hf:G':=kj (.type "dict") (.dict #[dk P "__module__" 365 RN,dk P "__firstlineno__" 369 (i 39 368),dk P "__init__" 376 (r 151),dk P "keep" 384 (r 158),dk P "__static_attributes__" 387 (r 159),dk P "__dict__" 389 (r 162),dk P "__weakref__" 391 (r 163),dk P "__doc__" 392 .none] 4)
def Hg:G':=⟨(.type "type"),none,.cls { name:="Shelf",bases:=[.type "object"],mro:=[r 161,.type "object"],ns:=160,qualname:="Shelf",subclasses:=[] },#[none,none,(some (z "Shelf" 358)),(some (z "Shelf" 366)),(some (.builtin "object.__new__")),(some (.bool true))]⟩
def Ms:G':=kj (.type "getset_descriptor") (.fields #[z "__dict__" 388,r 161,.builtin "function.__dict__",.builtin "function.__dict__#set"])
def Mt:G':=kk3 390 161
def Mu:G':=Wg 161
def Mv:G':=Wh 161
def nO (a:N')(b:Nat)(c:N')(d:N')(e:N')(f:N'):G':=kt [z a b,z c (b+1),z d (b+2),z e (b+3),z f (b+4)]
def Mw:G':=nO "book" 398 "many" "rooms" "first" "things"
def My:G':=Qm "look_book" s20
def Hh:G':=bG "look_book" "look_book" 395 50 1 166 403
def Hi:G':=bp "look_book" s20 RN 171
def Mz:G':=kt [z "book" 409]
def MA:G':=Qm "look_parts" s21
def Hj:G':=bG "look_parts" "look_parts" 406 58 1 173 410
def Hk:G':=bp "look_parts" s21 RN 178
def lE (a:N')(b:Nat)(c:N')(d:N')(e:N'):G':=kt [z a b,z c (b+1),z d (b+2),z e (b+3)]
def MB:G':=lE "many" 416 "rooms" "things" "room"
def MC:G':=Qm "things_from" s22
def Hl:G':=bG "things_from" "things_from" 413 67 2 180 420
def Hm:G':=bp "things_from" s22 RN 185
def MD:G':=nO "many" 426 "room" "number" "last" "door"
def ME:G':=Qm "look_doors" Yr
def Hn:G':=bG "look_doors" "look_doors" 423 73 3 187 431
def Ho:G':=bp "look_doors" Yr RN 192
def DN:List Rc:=DM P++[dk P "is_door" 440 (r 200),dk P "things_of_room" 446 (r 205),dk P "things_through" 456 (r 212),dk P "look_first" 465 (r 219),dk P "look_turn" 474 (r 226),dk P "walk_rooms" 484 (r 233),dk P "book_of" 495 (r 240),dk P "shelve" 501 (r 245),dk P "grown" 512 (r 252),dk P "grow" 526 (r 259),dk P "has" 536 (r 266),dk P "behind_door" 545 (r 273)]
def MF:G':=kj (.type "dict") (.dict ⟨dk P "__name__" 165 Tw::DN P⟩ 42)
def xh:=Bo++lt 85 199++lt 87 204++lt 92 211++lt 98 218++lt 105 225++lt 112 232++lt 118 239++lt 127 244++lt 135 251++lt 139 258++lt 148 265++lt 157 272
def Hq:G':=kl xh
def MG:G':=kt [z "door" 437]
def MH:G':=Qm "is_door" s24
def Hr:G':=bG "is_door" "is_door" 434 85 1 194 438
def Hs:G':=bp "is_door" s24 RN 199
def MI:G':=Qm "things_of_room" Ts
def Ht:G':=gm "things_of_room" 441 87 2 201
def Hu:G':=bp "things_of_room" Ts RN 204
def MJ:G':=lE "door" 450 "things" "thing" "later"
def MK:G':=Qm "things_through" UF
def Hv:G':=bG "things_through" "things_through" 447 92 2 206 454
def Hw:G':=bp "things_through" UF RN 211
def ML:G':=kt [z "many" 460,z "things" 461,z "first" 462]
def MM:G':=Qm "look_first" s27
def Hx:G':=bG "look_first" "look_first" 457 98 3 213 463
def Hy:G':=bp "look_first" s27 RN 218
def MN:G':=kt [z "rooms" 469,z "first" 470,z "walked" 471]
def MO:G':=Qm "look_turn" s28
def Hz:G':=bG "look_turn" "look_turn" 466 105 2 220 472
def HA:G':=bp "look_turn" s28 RN 225
def MP:G':=lE "rooms" 478 "number" "walked" "door"
def MQ:G':=Qm "walk_rooms" s29
def HB:G':=bG "walk_rooms" "walk_rooms" 475 112 3 227 482
def HC:G':=bp "walk_rooms" s29 RN 232
def MR:G':=nO "many" 488 "orders" "order" "shelf" "first"
def MS:G':=Qm "book_of" s30
def HD:G':=bG "book_of" "book_of" 485 118 2 234 493
def HE:G':=bp "book_of" s30 RN 239
def MT:G':=Qm "shelve" s31
def HF:G':=gm "shelve" 496 127 3 241
def HG:G':=bp "shelve" s31 RN 244
def MU:G':=nO "many" 505 "state" "doors_from" "shelf" "first"
def MV:G':=Qm "grown" s32
def HH:G':=bG "grown" "grown" 502 135 3 246 510
def HI:G':=bp "grown" s32 RN 251
def MW:G':=kt [z "shelf" 516,z "state" 517,z "doors_from" 518,z "known" 519,z "doors" 520,z "thing" 521,z "later" 522,z "number" 523]
def MX:G':=Qm "grow" s33
def HJ:G':=bG "grow" "grow" 513 139 4 253 524
def HK:G':=bp "grow" s33 RN 258
def MY:G':=lE "book" 530 "order" "number" "thing"
def MZ:G':=Qm "has" Yp
def HL:G':=bG "has" "has" 527 148 2 260 534
def HM:G':=bp "has" Yp RN 265
def M3:G':=kt [z "room" 540,z "thing" 541,z "door" 542]
def M4:G':=Qm "behind_door" Zz
def HN:G':=bG "behind_door" "behind_door" 537 157 2 267 543
def HP:G':=bp "behind_door" Zz RN 272
def Bp:List Rc:=DN P++[dk P "ways" 556 (r 280),dk P "all_marks" 563 (r 287),dk P "things_in" 569 (r 292),dk P "marks_of" 579 (r 299),dk P "marks_of_room" 585 (r 304),dk P "book_of_marks" 593 (r 311),dk P "state_of_marks" 601 (r 318),dk P "doors_of_marks" 614 (r 325),dk P "swaps_of" 620 (r 330),dk P "swaps_at" 631 (r 337),dk P "rising_marks" 643 (r 344),dk P "swapped" 654 (r 351),dk P "fetched" 666 (r 358)]
def K4:G':=kj (.type "dict") (.dict ⟨dk P "__name__" 165 Tw::Bp P⟩ 55)
def xi:=xh++lt 163 279++lt 168 286++lt 170 291++lt 172 298++lt 178 303++lt 181 310++lt 183 317++lt 189 324++lt 197 329++lt 199 336++lt 205 343++lt 211 350++lt 216 357
def HQ:G':=kl xi
def M5:G':=kt [z "many" 551,z "found" 552,z "count" 553]
def M6:G':=Qm "ways" s37
def HR:G':=bG "ways" "ways" 548 163 1 274 554
def HU:G':=bp "ways" s37 Tw 279
def M7:G':=kt [z "many" 560]
def M8:G':=Qm "all_marks" Yt
def HV:G':=bG "all_marks" "all_marks" 557 168 1 281 561
def HW:G':=bp "all_marks" Yt Tw 286
def M9:G':=Qm "things_in" s39
def HX:G':=gm "things_in" 564 170 1 288
def HY:G':=bp "things_in" s39 Tw 291
def Na:G':=lE "book" 573 "things" "marks" "room"
def Nb:G':=Qm "marks_of" s40
def HZ:G':=bG "marks_of" "marks_of" 570 172 1 293 577
def Ia:G':=bp "marks_of" s40 Tw 298
def Nc:G':=kt []
def Nd:G':=kj .none (.fields #[])
def Nf:G':=Qm "marks_of_room" s41
def Id:G':=gm "marks_of_room" 580 178 3 300
def Ie:G':=bp "marks_of_room" s41 Tw 303
def Ng:G':=kt []
def Nh:G':=kj .none (.fields #[])
def Ni:G':=kt [z "many" 589,z "marks" 590]
def Nj:G':=kt []
def Nk:G':=Qm "book_of_marks" s42
def Ig:G':=bG "book_of_marks" "book_of_marks" 586 181 2 305 591
def Ih:G':=bp "book_of_marks" s42 Tw 310
def Nl:G':=kt []
def Nm:G':=kj .none (.fields #[])
def Nn:G':=kt [z "things" 597,z "marks" 598]
def No:G':=kt []
def Np:G':=Qm "state_of_marks" s43
def Ii:G':=bG "state_of_marks" "state_of_marks" 594 183 2 312 599
def Ij:G':=bp "state_of_marks" s43 Tw 317
def Nq:G':=kt []
def Nr:G':=kj .none (.fields #[])
def Nt:G':=kt [z "state" 605,z "things" 606,z "rows" 607,z "found" 608,z "rank" 609,z "thing" 610,z "marks" 611]
def Nu:G':=kt []
def Nv:G':=Qm "doors_of_marks" s44
def Ik:G':=bG "doors_of_marks" "doors_of_marks" 602 189 1 319 612
def Il:G':=bp "doors_of_marks" s44 Tw 324
def Nw:G':=kt []
def Nx:G':=kj .none (.fields #[])
def Ny:G':=Qm "swaps_of" Xv
def Im:G':=gm "swaps_of" 615 197 1 326
def Io:G':=bp "swaps_of" Xv Tw 329
def Nz:G':=kt []
def NB:G':=kj .none (.fields #[])
def NC:G':=nO "many" 624 "left" "found" "gap" "shift"
def ND:G':=kt []
def NE:G':=Qm "swaps_at" s46
def Ip:G':=bG "swaps_at" "swaps_at" 621 199 2 331 629
def Iq:G':=bp "swaps_at" s46 Tw 336
def NF:G':=kt []
def NG:G':=kj .none (.fields #[])
def NH:G':=kt [z "many" 635,z "left" 636,z "gap" 637,z "alike" 638,z "found" 639,z "rank" 640]
def NI:G':=kt []
def NJ:G':=Qm "rising_marks" s47
def Ir:G':=bG "rising_marks" "rising_marks" 632 205 3 338 641
def Iu:G':=bp "rising_marks" s47 Tw 343
def NK:G':=kt []
def NM:G':=kj .none (.fields #[])
def NO:G':=nO "marks" 647 "swaps" "found" "shift" "rising"
def NP:G':=kt []
def NQ:G':=Qm "swapped" s48
def Iv:G':=bG "swapped" "swapped" 644 211 2 345 652
def Ix:G':=bp "swapped" s48 Tw 350
def NR:G':=kt []
def NS:G':=kj .none (.fields #[])
def NT:G':=kt [z "marks" 658,z "swaps" 659,z "place" 660,z "later" 661,z "found" 662,z "earlier" 663]
def NU:G':=kt []
def NV:G':=Qm "fetched" s49
def Iy:G':=bG "fetched" "fetched" 655 216 4 352 664
def Iz:G':=bp "fetched" s49 Tw 357
def Bq:List Rc:=Bp P++[dk P "MOST_MADE_OF" 670 (i 6 669),dk P "put_behind" 686 (r 365),dk P "made_of" 696 (r 372),dk P "plain_order" 703 (r 379),dk P "is_group" 710 (r 386),dk P "_law_cell" 720 (r 393),dk P "_law_mix" 729 (r 400),dk P "_law_all" 735 (r 405),dk P "_law_set" 741 (r 410),dk P "_law_order" 751 (r 417),dk P "_law_behind" 757 (r 422),dk P "_law_lay" 763 (r 427),dk P "_law_book" 773 (r 434)]
def K7:G':=kj (.type "dict") (.dict ⟨dk P "__name__" 165 Tx::Bq P⟩ 68)
def xj:=xi++lt 223 364++lt 235 371++lt 245 378++lt 247 385++lt 251 392++lt 255 399++lt 259 404++lt 267 409++lt 277 416++lt 280 421++lt 282 426++lt 293 433
def IA:G':=kl xj
def NX:G':=kt []
def NY:G':=kj .none (.fields #[])
def NZ:G':=kt [z "one" 674,z "other" 675,z "many" 676,z "things" 677,z "swaps" 678,z "came" 679,z "number" 680,z "left" 681,z "place" 682,z "door" 683]
def N0:G':=kt []
def N1:G':=Qm "put_behind" s52
def IB:G':=bG "put_behind" "put_behind" 671 223 2 359 684
def IC:G':=bp "put_behind" s52 zz7 364
def N3:G':=kt []
def N4:G':=kj .none (.fields #[])
def N5:G':=lE "many" 690 "orders" "book" "more"
def N7:G':=kt []
def N8:G':=Qm "made_of" s53
def ID:G':=bG "made_of" "made_of" 687 235 2 366 694
def IE:G':=bp "made_of" s53 zz7 371
def N9:G':=kt []
def Oa:G':=kj .none (.fields #[])
def Ob:G':=kt [z "many" 700]
def Oc:G':=kt []
def Od:G':=Qm "plain_order" s54
def IG:G':=bG "plain_order" "plain_order" 697 245 1 373 701
def IH:G':=bp "plain_order" s54 zz7 378
def Oe:G':=kt []
def Og:G':=kj .none (.fields #[])
def Oh:G':=kt [z "book" 707]
def Oi:G':=kt []
def Oj:G':=Qm "is_group" s55
def II:G':=bG "is_group" "is_group" 704 247 1 380 708
def IJ:G':=bp "is_group" s55 zz7 385
def Ol:G':=kt []
def Om:G':=kj .none (.fields #[])
def Oo:G':=kt [z "_law_script" 716,z "_law_k" 717]
def Op:G':=kt []
def Oq:G':=Qm "_law_cell" s57
def IK:G':=bG "_law_cell" "_law_cell" 713 251 2 387 718
def IL:G':=bp "_law_cell" s57 Tx 392
def Os:G':=kt []
def gK:G':=kj .none (.fields #[])
def Ot:G':=kt [z "_law_script" 724,z "_law_k" 725,z "_law_number" 726]
def eZ:G':=kt []
def Ou:G':=Qm "_law_mix" s58
def IM:G':=bG "_law_mix" "_law_mix" 721 255 2 394 727
def IO:G':=bp "_law_mix" s58 Tx 399
def Ov:G':=Qm "_law_all" s59
def IP:G':=gm "_law_all" 730 259 1 401
def IQ:G':=bp "_law_all" s59 Tx 404
def Ow:G':=Qm "_law_set" s60
def IR:G':=gm "_law_set" 736 267 3 406
def IT:G':=bp "_law_set" s60 Tx 409
def Ox:G':=lE "_law_script" 745 "_law_k" "_law_many" "_law_some"
def Oy:G':=Qm "_law_order" s61
def IU:G':=bG "_law_order" "_law_order" 742 277 3 411 749
def IV:G':=bp "_law_order" s61 Tx 416
def Oz:G':=Qm "_law_behind" s62
def IW:G':=gm "_law_behind" 752 280 2 418
def IX:G':=bp "_law_behind" s62 Tx 421
def OA:G':=Qm "_law_lay" s63
def IY:G':=gm "_law_lay" 758 282 4 423
def IZ:G':=bp "_law_lay" s63 Tx 426
def OB:G':=lE "_law_many" 767 "_law_orders" "_law_rooms" "_law_first"
def OC:G':=Qm "_law_book" s64
def I0:G':=bG "_law_book" "_law_book" 764 293 2 428 771
def Ja:G':=bp "_law_book" s64 Tx 433
def Jb:List Rc:=Bq P++[dk P "_law_refusal" 781 (r 441),dk P "_law_closed" 787 (r 446),dk P "_law_is_group" 793 (r 451),dk P "_law_told" 804 (r 458),dk P "law" 810 (r 463)]
def yW:G':=kj (.type "dict") (.dict ⟨dk P "__name__" 165 Tx::Jb P⟩ 73)
def FA:=xj++lt 299 440++lt 308 445++lt 319 450++lt 326 457++lt 334 462
def Br:G':=kl FA
def OD:G':=kt [z "_law_kept" 777,z "_law_kinds" 778]
def OE:G':=Qm "_law_refusal" s65
def Jc:G':=bG "_law_refusal" "_law_refusal" 774 299 1 435 779
def Jd:G':=bp "_law_refusal" s65 Tx 440
def OG:G':=Qm "_law_closed" s66
def Je:G':=gm "_law_closed" 782 308 2 442
def Jf:G':=bp "_law_closed" s66 Tx 445
def OH:G':=Qm "_law_is_group" s67
def Jg:G':=gm "_law_is_group" 788 319 2 447
def Jh:G':=bp "_law_is_group" s67 Tx 450
def OI:G':=nO "_law_many" 797 "_law_some" "_law_kept" "_law_found" "e"
def OJ:G':=Qm "_law_told" s68
def Ji:G':=bG "_law_told" "_law_told" 794 326 2 452 802
def Jj:G':=bp "_law_told" s68 Tx 457
def OK:G':=Qm "law" s69
def Jk:G':=gm "law" 805 334 1 459
def Jl:G':=bp "law" s69 Tx 462
def ev:List G'->List G'
 | x::_::r=>x::ev r
 | l=>l
def od:List G'->List G'
 | _::y::r=>y::od r
 | _=>[]
def tr:Nat->List G'->BT
 | n+1,x::r=>.node x (tr n (ev r)) (tr n (od r))
 | _,_=>.nil
def yX (x3 Rg Rh:G'):List G':=[boot_o_0 P,boot_o_1 P,boot_o_2 P,x3,boot_o_4 P,boot_o_5 P,boot_o_6 P,boot_o_7 P,boot_o_8 P,boot_o_9 P,boot_o_10 P,o11,Rg,o13,o14]
abbrev FC:=yX
def Jm (x3 Rg Rh:G'):List G':=yX P x3 Rg Rh++[o15,We,o17 P,o11,o12,o20,o21,o11,o23 P,Rh,o25,o26,o27]
def Jn (x3 Rg Rh:G'):List G':=Jm P x3 Rg Rh++[Yu,We,o30 P,o31,QW,o33,o34,P4,o36 P,o37,o38,o39]
def Jo (x3 Rg Rh:G'):List G':=Jn P x3 Rg Rh++[Yu,We,o42 P,P4,QW,o45,o46,P4,o48 P,o49,o50,o51]
def Jp (x3 Rg Rh:G'):List G':=Jo P x3 Rg Rh++[Yu,We,o54 P,P4,QW,o57,o58,P4,o60 P,o61,o62,o63]
def Jq (x3 Rg Rh:G'):List G':=Jp P x3 Rg Rh++[Yu,We,o66 P,P4,QW,o69,o70,P4,o72 P,o73,o74,o75]
def Jr (x3 Rg Rh:G'):List G':=Jq P x3 Rg Rh++[Yu,We,o78 P,P4,QW,o81,o82,P4,o84 P,o85,o86,o87]
def Js (x3 Rg Rh:G'):List G':=Jr P x3 Rg Rh++[Yu,We,o90 P,P4,QW,o93,o94,P4,o96 P,o97,o98,o99]
def Jt (x3 Rg Rh:G'):List G':=Js P x3 Rg Rh++[Yu,We,LY P,P4,QW,LZ,L4,P4,GX P,GY,L7,L8,P4,QW,L9,P4,Ma,GZ,G0,P4,QW,Mb,P4,Mc,G3,G4,P4,QW,Md,P4,Me,G5,G6,P4,QW,Mf,G7,G8]
def Ju (x3 Rg Rh:G'):List G':=Jt P x3 Rg Rh++[P4,We,Mh P,P4,Mi,Mj,Ml,P4,QW,Mm,P4,Mo,G9,Hb,P4,QW,Mp,P4,Mq,Hc,He,Mr,Hf P,Hg,Ms,Mt,Mu,Mv,P4,QW,Mw,P4,My,Hh,Hi,P4,QW,Mz,P4,MA,Hj,Hk,P4,QW,MB,P4,MC,Hl,Hm,P4,QW,MD,P4,ME,Hn,Ho]
def Jv (x3 Rg Rh:G'):List G':=Ju P x3 Rg Rh++[P4,QW,MG,P4,MH,Hr,Hs,P4,QW,MI,Ht,Hu,P4,QW,MJ,P4,MK,Hv,Hw,P4,QW,ML,P4,MM,Hx,Hy,P4,QW,MN,P4,MO,Hz,HA,P4,QW,MP,P4,MQ,HB,HC,P4,QW,MR,P4,MS,HD,HE,P4,QW,MT,HF,HG,P4,QW,MU,P4,MV,HH,HI,P4,QW,MW,P4,MX,HJ,HK,P4,QW,MY,P4,MZ,HL,HM,P4,QW,M3,P4,M4,HN,HP]
def DP (x3 Rg Rh:G'):List G':=Jv P x3 Rg Rh++[P4,QW,M5,P4,M6,HR,HU,P4,QW,M7,P4,M8,HV,HW,P4,QW,M9,HX,HY,P4,QW,Na,P4,Nb,HZ,Ia,Nc,Nd,Nf,Id,Ie,Ng,Nh,Ni,Nj,Nk,Ig,Ih,Nl,Nm,Nn,No,Np,Ii,Ij,Nq,Nr,Nt,Nu,Nv,Ik,Il,Nw,Nx,Ny,Im,Io,Nz,NB,NC,ND,NE,Ip,Iq,NF,NG,NH,NI,NJ,Ir,Iu,NK,NM,NO,NP,NQ,Iv,Ix,NR,NS,NT,NU,NV,Iy,Iz]
def DQ (x3 Rg Rh:G'):List G':=DP P x3 Rg Rh++[NX,NY,NZ,N0,N1,IB,IC,N3,N4,N5,N7,N8,ID,IE,N9,Oa,Ob,Oc,Od,IG,IH,Oe,Og,Oh,Oi,Oj,II,IJ,Ol,Om,Oo,Op,Oq,IK,IL,Os,gK,Ot,eZ,Ou,IM,IO,eZ,gK,Ov,IP,IQ,eZ,gK,Ow,IR,IT,eZ,gK,Ox,eZ,Oy,IU,IV,eZ,gK,Oz,IW,IX,eZ,gK,OA,IY,IZ,eZ,gK,OB,eZ,OC,I0,Ja]
def DR (x3 Rg Rh:G'):List G':=DQ P x3 Rg Rh++[eZ,gK,OD,eZ,OE,Jc,Jd,eZ,gK,OG,Je,Jf,eZ,gK,OH,Jg,Jh,eZ,gK,OI,eZ,OJ,Ji,Jj,eZ,gK,OK,Jk,Jl]
def xk:BT:=tr 10 (FC P (boot_o_3 P) (o12) (o14))
def Jw:BT:=tr 10 (Jm P (o3 P) (KJ) (o24))
def Jx:BT:=tr 10 (Jn P (LQ P) (KM) (KN))
def Jy:BT:=tr 10 (Jo P (LR P) (KO) (KP))
def Jz:BT:=tr 10 (Jp P (LS P) (KQ) (KR))
def JA:BT:=tr 10 (Jq P (LU P) (KS) (KU))
def JB:BT:=tr 10 (Jr P (LV P) (KW) (KY))
def JC:BT:=tr 10 (Js P (LW P) (KZ) (K0))
def JD:BT:=tr 10 (Jt P (LX P) (K1) (i5))
def JE:BT:=tr 10 (Ju P (Mg P) (K3) (i5))
def JF:BT:=tr 10 (Jv P (MF P) (Hq) (i5))
def DS:BT:=tr 10 (DP P (K4 P) (HQ) (i5))
def DT:BT:=tr 10 (DQ P (K7 P) (IA) (i5))
def DU:BT:=tr 10 (DR P (yW P) (Br) (i5))
def hA:O8:=⟨⟨yX P (boot_o_3 P) (o12) (o14)⟩,{}⟩
def hF:O8:=⟨⟨DR P (yW P) (Br) (i5)⟩,{}⟩
def K:Frag:=(nat_lit 2,boot_o_2 P)::(nat_lit 3,yW P)::(nat_lit 23,o23 P)::(nat_lit 24,i5)::(nat_lit 36,o36 P)::(nat_lit 37,o37)::(nat_lit 48,o48 P)::(nat_lit 49,o49)::(nat_lit 60,o60 P)::(nat_lit 61,o61)::(nat_lit 72,o72 P)::(nat_lit 73,o73)::(nat_lit 84,o84 P)::(nat_lit 85,o85)::(nat_lit 96,o96 P)::(nat_lit 97,o97)::(nat_lit 108,GX P)::(nat_lit 109,GY)::(nat_lit 117,GZ)::(nat_lit 118,G0)::(nat_lit 124,G3)::(nat_lit 125,G4)::(nat_lit 131,G5)::(nat_lit 132,G6)::(nat_lit 136,G7)::(nat_lit 137,G8)::(nat_lit 150,G9)::(nat_lit 151,Hb)::(nat_lit 157,Hc)::(nat_lit 158,He)::(nat_lit 160,Hf P)::(nat_lit 161,Hg)::(nat_lit 171,Hh)::(nat_lit 172,Hi)::(nat_lit 178,Hj)::(nat_lit 179,Hk)::(nat_lit 185,Hl)::(nat_lit 186,Hm)::(nat_lit 192,Hn)::(nat_lit 193,Ho)::(nat_lit 199,Hr)::(nat_lit 200,Hs)::(nat_lit 204,Ht)::(nat_lit 205,Hu)::(nat_lit 211,Hv)::(nat_lit 212,Hw)::(nat_lit 218,Hx)::(nat_lit 219,Hy)::(nat_lit 225,Hz)::(nat_lit 226,HA)::(nat_lit 232,HB)::(nat_lit 233,HC)::(nat_lit 239,HD)::(nat_lit 240,HE)::(nat_lit 244,HF)::(nat_lit 245,HG)::(nat_lit 251,HH)::(nat_lit 252,HI)::(nat_lit 258,HJ)::(nat_lit 259,HK)::(nat_lit 265,HL)::(nat_lit 266,HM)::(nat_lit 272,HN)::(nat_lit 273,HP)::(nat_lit 279,HR)::(nat_lit 280,HU)::(nat_lit 286,HV)::(nat_lit 287,HW)::(nat_lit 291,HX)::(nat_lit 292,HY)::(nat_lit 298,HZ)::(nat_lit 299,Ia)::(nat_lit 303,Id)::(nat_lit 304,Ie)::(nat_lit 310,Ig)::(nat_lit 311,Ih)::(nat_lit 317,Ii)::(nat_lit 318,Ij)::(nat_lit 324,Ik)::(nat_lit 325,Il)::(nat_lit 329,Im)::(nat_lit 330,Io)::(nat_lit 336,Ip)::(nat_lit 337,Iq)::(nat_lit 343,Ir)::(nat_lit 344,Iu)::(nat_lit 350,Iv)::(nat_lit 351,Ix)::(nat_lit 357,Iy)::(nat_lit 358,Iz)::(nat_lit 364,IB)::(nat_lit 365,IC)::(nat_lit 371,ID)::(nat_lit 372,IE)::(nat_lit 378,IG)::(nat_lit 379,IH)::(nat_lit 385,II)::(nat_lit 386,IJ)::(nat_lit 392,IK)::(nat_lit 393,IL)::(nat_lit 399,IM)::(nat_lit 400,IO)::(nat_lit 404,IP)::(nat_lit 405,IQ)::(nat_lit 409,IR)::(nat_lit 410,IT)::(nat_lit 416,IU)::(nat_lit 417,IV)::(nat_lit 421,IW)::(nat_lit 422,IX)::(nat_lit 426,IY)::(nat_lit 427,IZ)::(nat_lit 433,I0)::(nat_lit 434,Ja)::(nat_lit 440,Jc)::(nat_lit 441,Jd)::(nat_lit 445,Je)::(nat_lit 446,Jf)::(nat_lit 450,Jg)::(nat_lit 451,Jh)::(nat_lit 457,Ji)::(nat_lit 458,Jj)::(nat_lit 462,Jk)::(nat_lit 463,Jl)::[]
def as_:List f':=[2,3,23,24,36,37,48,49,60,61,72,73,84,85,96,97,108,109,117,118,124,125,131,132,136,137,150,151,157,158,160,161,171,172,178,179,185,186,192,193,199,200,204,205,211,212,218,219,225,226,232,233,239,240,244,245,251,252,258,259,265,266,272,273,279,280,286,287,291,292,298,299,303,304,310,311,317,318,324,325,329,330,336,337,343,344,350,351,357,358,364,365,371,372,378,379,385,386,392,393,399,400,404,405,409,410,416,417,421,422,426,427,433,434,440,441,445,446,450,451,457,458,462,463]
def B:List Frame:=[topFrame ⟨0,0,0,0⟩]
def env:QU:={ scope:=pw.main.scope,locals:=mainNs,globals:=mainNs,cells:=[],code:=(.ref 13),frame:=some 14 }
def cE:Code:=.body (behindTheImports pw) env
def sT (t:XS->BT)(n k:Nat)(w:Pd)(os:RE):SharedT:=⟨t w.params,n,{},⟨[]⟩,{},k,os⟩
def sH (h:XS->O8)(k:Nat)(w:Pd)(os:RE):J':=⟨h w.params,⟨[]⟩,{},k,os⟩
def sO (w:Pd)(os:RE):J':=⟨Z7 w.params,⟨[]⟩,boot_drawn,boot_toks,os⟩
theorem OM (w)(os):topGo treeTable pw w 11 (some (.ref 6)) 12 (sO w os) (topStub pw)=some (sH hA 187 w os,⟨denote treeTable cE,cE,⟨0,0,0,0⟩,B⟩):=by
 rewrite [W.Fast.te15667345088766844465,Ta,W.Fast.te11892475500146522536];kernel_rfl
theorem JG (w)(os):segRun treeTable pw w 11 (some (.ref 6)) 1 1 (sH hA 187 w os) (blockOf (behindTheImports pw) env cE ⟨0,0,0,0⟩ B)=some (.next,(sT xk 15 187 w os).abs,cE,⟨0,0,0,0⟩):=by
 rewrite [W.Fast.te14374325043358763698,Ta];kernel_rfl
def JH:List Pc:=[s0,s1]
theorem OO (w)(os):segRunT treeTable pw w 11 (some (.ref 6)) 1 196 (sT xk 15 187 w os) (piecesOf JH env cE ⟨0,0,0,0⟩ B)=some (.next,sT Jw 28 207 w os,cE,⟨2,0,3,8⟩):=by
 rewrite [Ur,Ta];kernel_rfl
def JI:List Pc:=[s2]
theorem OP (w)(os):segRunT treeTable pw w 11 (some (.ref 6)) 1 214 (sT Jw 28 207 w os) (piecesOf JI env cE ⟨2,0,3,8⟩ B)=some (.next,sT Jx 40 223 w os,cE,⟨4,0,5,8⟩):=by
 rewrite [Ur,Ta];kernel_rfl
def JJ:List Pc:=[s3]
theorem OQ (w)(os):segRunT treeTable pw w 11 (some (.ref 6)) 1 214 (sT Jx 40 223 w os) (piecesOf JJ env cE ⟨4,0,5,8⟩ B)=some (.next,sT Jy 52 239 w os,cE,⟨6,0,7,8⟩):=by
 rewrite [Ur,Ta];kernel_rfl
def JK:List Pc:=[s4]
theorem OT (w)(os):segRunT treeTable pw w 11 (some (.ref 6)) 1 214 (sT Jy 52 239 w os) (piecesOf JK env cE ⟨6,0,7,8⟩ B)=some (.next,sT Jz 64 255 w os,cE,⟨8,0,9,8⟩):=by
 rewrite [Ur,Ta];kernel_rfl
def JL:List Pc:=[s5]
theorem OU (w)(os):segRunT treeTable pw w 11 (some (.ref 6)) 1 214 (sT Jz 64 255 w os) (piecesOf JL env cE ⟨8,0,9,8⟩ B)=some (.next,sT JA 76 271 w os,cE,⟨10,0,11,8⟩):=by
 rewrite [Ur,Ta];kernel_rfl
def JM:List Pc:=[s6]
theorem OV (w)(os):segRunT treeTable pw w 11 (some (.ref 6)) 1 214 (sT JA 76 271 w os) (piecesOf JM env cE ⟨10,0,11,8⟩ B)=some (.next,sT JB 88 287 w os,cE,⟨12,0,13,8⟩):=by
 rewrite [Ur,Ta];kernel_rfl
def JN:List Pc:=[s7]
theorem OW (w)(os):segRunT treeTable pw w 11 (some (.ref 6)) 1 214 (sT JB 88 287 w os) (piecesOf JN env cE ⟨12,0,13,8⟩ B)=some (.next,sT JC 100 303 w os,cE,⟨14,0,15,8⟩):=by
 rewrite [Ur,Ta];kernel_rfl
def JO:List Pc:=[s8,s9,TY,Wb,Rz,Tv,Ys,s15,s16,s17,s18]
theorem OX (w)(os):segRunT treeTable pw w 11 (some (.ref 6)) 1 381 (sT JC 100 303 w os) (piecesOf JO env cE ⟨14,0,15,8⟩ B)=some (.next,sT JD 138 358 w os,cE,⟨38,0,38,6⟩):=by
 rewrite [Ur,Ta];kernel_rfl
def JP:List Pc:=[ZB,s20,s21,s22,Yr]
theorem OY (w)(os):segRunT treeTable pw w 11 (some (.ref 6)) 1 382 (sT JD 138 358 w os) (piecesOf JP env cE ⟨38,0,38,6⟩ B)=some (.next,sT JE 194 434 w os,cE,⟨73,0,84,22⟩):=by
 rewrite [Ur,Ta];kernel_rfl
def JQ:List Pc:=[s24,Ts,UF,s27,s28,s29,s30,s31,s32,s33,Yp,Zz,s36]
theorem OZ (w)(os):segRunT treeTable pw w 11 (some (.ref 6)) 1 382 (sT JE 194 434 w os) (piecesOf JQ env cE ⟨73,0,84,22⟩ B)=some (.next,sT JF 274 548 w os,cE,⟨162,0,162,8⟩):=by
 rewrite [Ur,Ta];kernel_rfl
def DV:List Pc:=[s37,Yt,s39,s40,s41,s42,s43,s44,Xv,s46,s47,s48,s49]
theorem K8 (w)(os):segRunT treeTable pw w 11 (some (.ref 6)) 1 400 (sT JF 274 548 w os) (piecesOf DV env cE ⟨162,0,162,8⟩ B)=some (.next,sT DS 359 667 w os,cE,⟨216,0,220,16⟩):=by
 rewrite [Ur,Ta];kernel_rfl
def DW:List Pc:=[s50,s51,s52,s53,s54,s55,s56,s57,s58,s59,s60,s61,s62,s63,s64]
theorem K9 (w)(os):segRunT treeTable pw w 11 (some (.ref 6)) 1 385 (sT DS 359 667 w os) (piecesOf DW env cE ⟨216,0,220,16⟩ B)=some (.next,sT DT 435 774 w os,cE,⟨293,0,298,46⟩):=by
 rewrite [Ur,Ta];kernel_rfl
def DX:List Pc:=[s65,s66,s67,s68,s69]
theorem La (w)(os):segRunT treeTable pw w 11 (some (.ref 6)) 1 142 (sT DT 435 774 w os) (piecesOf DX env cE ⟨293,0,298,46⟩ B)=some (.next,sT DU 464 811 w os,cE,⟨334,0,347,57⟩):=by
 rewrite [Ur,Ta];kernel_rfl
theorem O0 (w)(os):topRun treeTable pw w 11 (some (.ref 6)) 2 (sT DU 464 811 w os).abs (restOf [] env cE ⟨334,0,347,57⟩ B)=some (sH hF 811 w os):=by
 rewrite [W.Fast.te14082659384304107361,Ta];kernel_rfl
theorem Lb:behindTheImports pw=JH++(JI++(JJ++(JK++(JL++(JM++(JN++(JO++(JP++(JQ++(DV++(DW++(DX++[])))))))))))):=by kernel_rfl
theorem O1 (w)(os):topRun treeTable pw w 11 (some (.ref 6)) (12+(1+(196+(214+(214+(214+(214+(214+(214+(381+(382+(382+(400+(385+(142+(2)))))))))))))))) (sO w os) (topStub pw)=some (sH hF 811 w os):=by
 refine go_top (OM w os) (piece_block (JG w os) ?_);rw[Lb];exact Uz (UA (OO w os)) (Uz (UA (OP w os)) (Uz (UA (OQ w os)) (Uz (UA (OT w os)) (Uz (UA (OU w os)) (Uz (UA (OV w os)) (Uz (UA (OW w os)) (Uz (UA (OX w os)) (Uz (UA (OY w os)) (Uz (UA (OZ w os)) (Uz (UA (K8 w os)) (Uz (UA (K9 w os)) (Uz (UA (La w os)) (O0 w os)))))))))))))
def lF:Pk:={ pw with main:={ pw.main with body:=[s1,s2,s3,s4,s5,s6,s7,s8,TY,Wb,Rz,Tv,Ys,s16,s17,s18,ZB,s20,s21,s22,Yr,s24,Ts,UF,s27,s28,s29,s30,s31,s32,s33,Yp,Zz,s37,Yt,s39,s40,s41,s42,s43,s44,Xv,s46,s47,s48,s49,s51,s52,s53,s54,s55,s57,s58,s59,s60,s61,s62,s63,s64,s65,s66,s67,s68,s69] } }
abbrev Dc:WRecords:=RowW.records (OpenRow.toRowW (OpenLaw.row PySem.Challenge.rw_ordernest_k41_whole_groups))
def Xt (s:J'):Bool:=xlAt lF [] s&&recOk Dc s
abbrev H:Hook:=kHook K as_ (λ_=>by kernel_rfl)
theorem Lc (w:Pd):((Z7 w.params).isNs Qx&&(Array.mk ([]:List aaL)).size==0,(Z7 w.params).objs.size,(Z7 w.params).nsMap Qx "__annotations__")=(true,11,(some (.ref 6))):=by kernel_rfl
open PyProof.Rows in
theorem Ld (w:Pd) (os:RE):openSeen lF [] (importedModules pw.main.body) Xt true (sH hF 811 w os)=openGood lF []:=by
 unfold openSeen openGood
 refine VN ?a (VN ?b (VN ?c (VN ?d (VN ?e (VN ?f (VN ?g (VN ?h ?i)))))))
 case a=>rewrite [W.Fast.te5160383126252970620,W.R.mapR_eq,aeN,W.Fast.te5991557255702980513];kernel_rfl
 case b=>kernel_rfl
 case c=>rewrite [W.Fast.te10880121769531294198,aeT,W.R.mapR_eq,aeN,W.Fast.te7409074990110511671,W.Fast.te13664370479719496447,W.Fast.te14722251495701143533,aeO,W.Fast.te10994771534591457954];kernel_rfl
 case d=>rewrite [W.Fast.te479339242167458305];kernel_rfl
 case e=>rewrite [W.Fast.te16090120013241838585,W.Fast.te3247288618530077131];kernel_rfl
 case f=>rewrite [W.Fast.te2386780881361962483,aeT];kernel_rfl
 case g=>rewrite [W.Fast.te11698064438423848299];kernel_rfl
 case h=>rewrite [W.Fast.te7317090234206586261];kernel_rfl
 case i=>rewrite [W.Fast.te7369524293546568484];kernel_rfl
theorem Le (w)(os):(staticsOk (importedModules pw.main.body) (Z7 w.params) (hF w.params)&&namesBound pw (hF w.params)&&gensDone (sH hF 811 w os)&&laidKept (Z7 w.params) (hF w.params))=true:=by
 rewrite [aeO];kernel_rfl
theorem O2 (w)(os):Hook.obs H (sH hF 811 w os)=Hook.val H w:=by kernel_rfl
theorem Dd:opening pw=plainProg pw.main.scope.names:=by kernel_rfl
theorem Lf:LeftO pw lF [] Xt (Hook.obs H) (Hook.val H) 7204:=
 LeftO.of_pieces (H₁:=hF) (boot_open Dd rfl λs=>by kernel_rfl) Lc O1 rfl λw=>funext λos=>VN (Le w os) (VN (Ld w os) (O2 w os))
end
end Vw
namespace L2
open PySem PySem.Spec PyProof.Rows
structure Dn (K)(x)(st)(f:f')(fd):Prop where
 fn:PR K x x st f fd
 ns:Q7 K Qx x=some (some (.ref f))
theorem aX {K:O6}{x:N'}{st:Pc}{f:f'}{oc:D'}{od an:Option f'}{Tl:Array (Option D')}{kV doc pm Pi ct:D'}(a:Q7 K Qx x=some (some (.ref f)))(l:K.lookup f=some ⟨oc,od,.func (VP x x (dM st) (cO st) (ap st) .none kV doc pm an Pi ct),Tl⟩)(c:aaM K Pi x=true)(k:WX K (.ref f)=true):
  Dn K x st f (VP x x (dM st) (cO st) (ap st) .none kV doc pm an Pi ct):=⟨zu l c k,a⟩
theorem Dn.df {P:Pk}{w:Pd}{K:O6}{mg:N'->Option D'}{base h:O8}{CX:R4}{k:Nat}{x:N'}{st:Pc}{f:f'}{fd:PD}{ps:List N'}{sp:Sp}(D:Dn K x st f fd)(X:K.In h)(G:h.Ns Qx mg)(b:bK K fd ps [])(F:Py P w K mg base CX k f fd ps sp):Df P w K mg base CX k x ps sp:=⟨f,fd,F,b,D.fn.kp,SI X G D.ns⟩
theorem Dn.dg (P:Pk)(w:Pd){K:O6}{mg:N'->Option D'}(base:O8){h:O8}{CX:R4}{k:Nat}{x:N'}{st:Pc}{f:f'}{fd:PD}{ps:List N'}{sp:Sp}(D:Dn K x st f fd)(X:K.In h)(G:h.Ns Qx mg)(b:bK K fd ps [])(F:Py P w K mg base CX k f fd ps sp):Df P w K mg base CX k x ps sp:=⟨f,fd,F,b,D.fn.kp,SI X G D.ns⟩
structure Mn (K)(C:f')(x qual)(st)(f:f')(fd):Prop where
 fn:PR K x qual st f fd
 mt:W' K C x f
theorem DY {K:O6}{C:f'}{x qual:N'}{st:Pc}{f:f'}{oc:D'}{od an:Option f'}{Tl:Array (Option D')}{kV doc pm Pi ct:D'}(a:R' K (.ref C) x=some (some (.ref f)))(i:W.isFn K (.ref f)=true)(l:K.lookup f=some ⟨oc,od,.func (VP x qual (dM st) (cO st) (ap st) .none kV doc pm an Pi ct),Tl⟩)(c:aaM K Pi qual=true)(k:WX K (.ref f)=true):
  Mn K C x qual st f (VP x qual (dM st) (cO st) (ap st) .none kV doc pm an Pi ct):=⟨zu l c k,a,i,k⟩
theorem cT {p:List D'->Prop}(h:∀a,p [a])(us:List D')(e:us.length=1):p us:=by
 cases us with
 | nil=>cases e
 | cons a us=>cases us with
 | nil=>exact h a
 | cons x us=>cases e
theorem cu {p:List D'->Prop}(h:∀a b,p [a,b])(us:List D')(e:us.length=2):p us:=by
 cases us with
 | nil=>cases e
 | cons a us=>cases us with
 | nil=>cases e
 | cons b us=>cases us with
 | nil=>exact h a b
 | cons x us=>cases e
theorem gP {p:List D'->Prop}(h:∀a b c,p [a,b,c])(us:List D')(e:us.length=3):p us:=by
 cases us with
 | nil=>cases e
 | cons a us=>cases us with
 | nil=>cases e
 | cons b us=>cases us with
 | nil=>cases e
 | cons c us=>cases us with
 | nil=>exact h a b c
 | cons x us=>cases e
theorem yY {p:List D'->Prop}(h:∀a b c d,p [a,b,c,d])(us:List D')(e:us.length=4):p us:=by
 cases us with
 | nil=>cases e
 | cons a us=>cases us with
 | nil=>cases e
 | cons b us=>cases us with
 | nil=>cases e
 | cons c us=>cases us with
 | nil=>cases e
 | cons d us=>cases us with
 | nil=>exact h a b c d
 | cons x us=>cases e
end L2
namespace Ord
open PySem L2 Mx
theorem Kd.mk' (X:K.In h)(G:h.Ns Qx mg)(ho:Rj K C (.ref C)=some true)(a:Q7 K Qx x=some (some (.ref D)))(c:SH K D=true)(t:Vc K (.ref D)=some (.type "type"))(m:Rj K C (.ref D)=some b):Kd K mg C x b:=by
 refine⟨D,SI X G a,?_⟩;rw[En ⟨c,t⟩ m]
 by_cases e:C=D
 .subst e;rw[ho] at m;cases m;rw[Pf rfl]
 .rw[O9 e]
theorem JR {l:W.OpenLaw}{w:Pd}{K:O6}{h:O8}{mg:N'->Option D'}{fa CO CE C:f'}(X:K.In h)(G:h.Ns Qx mg)(hfa:mg "law"=some (.ref fa)){t8 t0 t1 t2 t6:Tok}{fi fk:f'}{gi gk:PD}{f0 f1 f2 f3 f4 f5 f6 f7 f8 f9 f10 f11 f12 f13 f14 f15 f16 f17 f18 f19 f20 f21 f22 f23 f24 f25 f26 f27 f28 f29 f30 f31 f32 f33 f34 f35 f36 f37 f38 f39 f40 f41 f42 f43 f44 f45 f46 f47 f48 f49:f'}{g0 g1 g2 g3 g4 g5 g6 g7 g8 g9 g10 g11 g12 g13 g14 g15 g16 g17 g18 g19 g20 g21 g22 g23 g24 g25 g26 g27 g28 g29 g30 g31 g32 g33 g34 g35 g36 g37 g38 g39 g40 g41 g42 g43 g44 g45 g46 g47 g48 g49:PD}(d0:Dn K "is_whole" tS f0 g0)(d1:Dn K "is_count" tT f1 g1)(d2:Dn K "look_count" tU f2 g2)(d3:Dn K "look_order" su f3 g3)(d4:Dn K "is_door" uz f4 g4)(d5:Dn K "things_through" nc f5 g5)(d6:Dn K "behind_door" nh f6 g6)(d7:Dn K "look_parts" uC f7 g7)(d8:Dn K "look_first" uB f8 g8)(d9:Dn K "look_doors" uA f9 g9)(d10:Dn K "things_of_room" lY f10 g10)(d11:Dn K "things_from" ya f11 g11)(d12:Dn K "walk_rooms" sC f12 g12)(d13:Dn K "look_turn" uD f13 g13)(d14:Dn K "look_book" sD f14 g14)(d15:Dn K "has" CB f15 g15)(d16:Dn K "shelve" jx f16 g16)(d17:Dn K "book_of" mf f17 g17)(d18:Dn K "ways" yB f18 g18)(d19:Dn K "all_marks" yC f19 g19)(d20:Dn K "things_in" yE f20 g20)(d21:Dn K "marks_of_room" mj f21 g21)(d22:Dn K "marks_of" nF f22 g22)(d23:Dn K "state_of_marks" qu f23 g23)(d24:Dn K "grow" mv f24 g24)(d25:Dn K "grown" ph f25 g25)(d26:Dn K "doors_of_marks" mx f26 g26)(d27:Dn K "book_of_marks" vf f27 g27)(d28:Dn K "rising_marks" qx f28 g28)(d29:Dn K "swaps_at" nH f29 g29)(d30:Dn K "swaps_of" j0 f30 g30)(d31:Dn K "swapped" nI f31 g31)(d32:Dn K "fetched" nJ f32 g32)(d33:Dn K "put_behind" sM f33 g33)(d34:Dn K "plain_order" vm f34 g34)(d35:Dn K "made_of" sP f35 g35)(d36:Dn K "is_group" j2 f36 g36)(d37:Dn K "_law_cell" yj f37 g37)(d38:Dn K "_law_mix" CH f38 g38)(d39:Dn K "_law_all" yk f39 g39)(d40:Dn K "_law_set" uR f40 g40)(d41:Dn K "_law_order" uS f41 g41)(d42:Dn K "_law_behind" j3 f42 g42)(d43:Dn K "_law_lay" jc f43 g43)(d44:Dn K "_law_book" kZ f44 g44)(d45:Dn K "_law_refusal" yS f45 g45)(d46:Dn K "_law_closed" my f46 g46)(d47:Dn K "_law_is_group" pC f47 g47)(d48:Dn K "_law_told" yU f48 g48)(d49:Dn K "law" jd f49 g49)(aC:Q7 K Qx "Shelf"=some (some (.ref C)))(mi:Mn K C "__init__" "Shelf.__init__" yg fi gi)(mk:Mn K C "keep" "Shelf.keep" sF fk gk)(pg:aaI K C N'.empty=true)(hd:abV K C=true)(po:W.plainOver K C=true)(sa:R' K (.ref C) "__setattr__"=some (some (.builtin "object.__setattr__")))(ms:W.makesIn K C=true)(kc:WX K (.ref C)=true)(nR:R' K (.ref C) "rooms"=some none)(nN:R' K (.ref C) "numbers"=some none)(xo:W.excIn K CO bmV "ValueError.__new__"=true)(cn:Q7 K Qx "NestError"=some (some (.ref CE)))(nt:W.instIn K (.ref CE) (.type "tuple")=some false)(xc:Rj K CE (.type "BaseException")=some true)(cl:SH K CE=true){D0 D1 D3 D4 D5 D6:f'}(na0:Q7 K Qx "BadBook"=some (some (.ref D0)))(nc0:SH K D0=true)(ny0:Vc K (.ref D0)=some (.type "type"))(na1:Q7 K Qx "BadNumber"=some (some (.ref D1)))(nc1:SH K D1=true)(ny1:Vc K (.ref D1)=some (.type "type"))(na2:Q7 K Qx "BadOrder"=some (some (.ref CO)))(nc2:SH K CO=true)(ny2:Vc K (.ref CO)=some (.type "type"))(na3:Q7 K Qx "BadRule"=some (some (.ref D3)))(nc3:SH K D3=true)(ny3:Vc K (.ref D3)=some (.type "type"))(na4:Q7 K Qx "BadText"=some (some (.ref D4)))(nc4:SH K D4=true)(ny4:Vc K (.ref D4)=some (.type "type"))(na5:Q7 K Qx "BadWeights"=some (some (.ref D5)))(nc5:SH K D5=true)(ny5:Vc K (.ref D5)=some (.type "type"))(na6:Q7 K Qx "Unlike"=some (some (.ref D6)))(nc6:SH K D6=true)(ny6:Vc K (.ref D6)=some (.type "type"))(ono:Rj K CO (.ref CE)=some true)(eo1:SH K CO=true)(eo2:R' K (.ref CO) "__getattribute__"=some (some (.builtin "BaseException.__getattribute__")))(ZC:R' K (.ref CO) "__getattr__"=some none)(eo4:R' K (.ref CO) "__class__"=some (some (.builtin "object.__class__")))(eo5:Rj K CO (.type "object")=some true)(eo6:Rj K CO (.type "BaseException")=some true)(Wi:Rj K CO (.ref CO)=some true)(eo8:Rj K CO (.type "ValueError")=some true)(mo0:Rj K CO (.ref D0)=some false)(mo1:Rj K CO (.ref D1)=some false)(mo2:Rj K CO (.ref CO)=some true)(mo3:Rj K CO (.ref D3)=some false)(mo4:Rj K CO (.ref D4)=some false)(mo5:Rj K CO (.ref D5)=some false)(mo6:Rj K CO (.ref D6)=some false)(m8:Q7 K Qx "MOST_THINGS"=some (some (.int 8 t8)))(m0:Q7 K Qx "NO_ROOM"=some (some (.int 0 t0)))(m1:Q7 K Qx "END"=some (some (.int 1 t1)))(m2:Q7 K Qx "LOWEST"=some (some (.int 2 t2)))(m6:Q7 K Qx "MOST_MADE_OF"=some (some (.int 6 t6)))(z0:Q7 K Qx "isinstance"=some none)(z1:Q7 K Qx "int"=some none)(z2:Q7 K Qx "bool"=some none)(z3:Q7 K Qx "tuple"=some none)(z4:Q7 K Qx "list"=some none)(z5:Q7 K Qx "range"=some none)(z6:Q7 K Qx "sorted"=some none)(z7:Q7 K Qx "all"=some none)(z8:Q7 K Qx "len"=some none)(z9:Q7 K Qx "enumerate"=some none)(z10:Q7 K Qx "set"=some none)(z11:Q7 K Qx "ValueError"=some none)(z12:Q7 K Qx "sum"=some none): ∃fd:PD,(∀(s:J') (v:D'),δ s fd ⟨[v],[]⟩ [("_law_script",v)])/\∀base:O8,K.In base->base.Ns Qx mg->Py l.prog w K mg base Ph 15 fa fd ["_law_script"] (sQ K):=by
 have e:=hfa.symm.trans (SI X G d49.ns);cases e;have T0:Txt K mg CO:=⟨⟨SI X G na2,xo⟩,⟨t8,SI X G m8⟩,Uw X G z0,Uw X G z1,Uw X G z2,Uw X G z3,Uw X G z4,Uw X G z5,Uw X G z6,Uw X G z7,Uw X G z8,Uw X G z9⟩
 have T:Qj K mg CO:=⟨T0,⟨t0,SI X G m0⟩,⟨t1,SI X G m1⟩,⟨t2,SI X G m2⟩,Uw X G z10⟩
 have TM:TxM K mg CO:=⟨T,⟨t6,SI X G m6⟩⟩
 have E0:Tr K mg CE:=⟨SI X G cn,nt,xc,cl⟩
 have RO:GV K mg CO:=⟨Kd.mk' X G Wi na0 nc0 ny0 mo0,Kd.mk' X G Wi na1 nc1 ny1 mo1,Kd.mk' X G Wi na2 nc2 ny2 mo2,Kd.mk' X G Wi na3 nc3 ny3 mo3,Kd.mk' X G Wi na4 nc4 ny4 mo4,Kd.mk' X G Wi na5 nc5 ny5 mo5,Kd.mk' X G Wi na6 nc6 ny6 mo6,⟨eo1,eo2,ZC,eo4,eo5,eo6⟩,Uw X G z11,Gb eo8,rfl,rfl,λi hi=>by
   have:i=0\/i=1:=by lia
   rcases this with h|h
   .subst h;rfl
   .subst h;rfl,rfl⟩
 have c:Vr K C:=⟨⟨pg,hd,po,sa⟩,nR,nN⟩
 have M:Mk K C fi:=⟨ms,mi.mt.at_,mi.mt.fn,kc⟩
 have mC:=SI X G aC;have bi:=mi.fn.binds (ps:=["self"]) λ_ _ _ _ _ _=>cT λ_=>rfl;have bk:=mk.fn.binds (ps:=["self","room"]) λ_ _ _ _ _ _=>cu λ_ _=>rfl;have b0:=d0.fn.binds (ps:=["value"]) λ_ _ _ _ _ _=>cT λ_=>rfl;have b1:=d1.fn.binds (ps:=["many"]) λ_ _ _ _ _ _=>cT λ_=>rfl;have b2:=d2.fn.binds (ps:=["many"]) λ_ _ _ _ _ _=>cT λ_=>rfl;have b3:=d3.fn.binds (ps:=["many","order"]) λ_ _ _ _ _ _=>cu λ_ _=>rfl;have b4:=d4.fn.binds (ps:=["door"]) λ_ _ _ _ _ _=>cT λ_=>rfl;have b5:=d5.fn.binds (ps:=["door","things"]) λ_ _ _ _ _ _=>cu λ_ _=>rfl;have b6:=d6.fn.binds (ps:=["room","thing"]) λ_ _ _ _ _ _=>cu λ_ _=>rfl;have b7:=d7.fn.binds (ps:=["book"]) λ_ _ _ _ _ _=>cT λ_=>rfl;have b8:=d8.fn.binds (ps:=["many","things","first"]) λ_ _ _ _ _ _=>gP λ_ _ _=>rfl;have b9:=d9.fn.binds (ps:=["many","room","number"]) λ_ _ _ _ _ _=>gP λ_ _ _=>rfl;have b10:=d10.fn.binds (ps:=["room","things"]) λ_ _ _ _ _ _=>cu λ_ _=>rfl;have b11:=d11.fn.binds (ps:=["many","rooms"]) λ_ _ _ _ _ _=>cu λ_ _=>rfl;have b12:=d12.fn.binds (ps:=["rooms","number","walked"]) λ_ _ _ _ _ _=>gP λ_ _ _=>rfl;have b13:=d13.fn.binds (ps:=["rooms","first"]) λ_ _ _ _ _ _=>cu λ_ _=>rfl;have b14:=d14.fn.binds (ps:=["book"]) λ_ _ _ _ _ _=>cT λ_=>rfl;have b15:=d15.fn.binds (ps:=["book","order"]) λ_ _ _ _ _ _=>cu λ_ _=>rfl;have b16:=d16.fn.binds (ps:=["shelf","orders","place"]) λ_ _ _ _ _ _=>gP λ_ _ _=>rfl;have b17:=d17.fn.binds (ps:=["many","orders"]) λ_ _ _ _ _ _=>cu λ_ _=>rfl;have b18:=d18.fn.binds (ps:=["many"]) λ_ _ _ _ _ _=>cT λ_=>rfl;have b19:=d19.fn.binds (ps:=["many"]) λ_ _ _ _ _ _=>cT λ_=>rfl;have b20:=d20.fn.binds (ps:=["bits"]) λ_ _ _ _ _ _=>cT λ_=>rfl;have b21:=d21.fn.binds (ps:=["room","things","marks"]) λ_ _ _ _ _ _=>gP λ_ _ _=>rfl;have b22:=d22.fn.binds (ps:=["book"]) λ_ _ _ _ _ _=>cT λ_=>rfl;have b23:=d23.fn.binds (ps:=["things","marks"]) λ_ _ _ _ _ _=>cu λ_ _=>rfl;have b24:=d24.fn.binds (ps:=["shelf","state","doors_from","known"]) λ_ _ _ _ _ _=>yY λ_ _ _ _=>rfl;have b25:=d25.fn.binds (ps:=["many","state","doors_from"]) λ_ _ _ _ _ _=>gP λ_ _ _=>rfl;have b26:=d26.fn.binds (ps:=["state"]) λ_ _ _ _ _ _=>cT λ_=>rfl;have b27:=d27.fn.binds (ps:=["many","marks"]) λ_ _ _ _ _ _=>cu λ_ _=>rfl;have b28:=d28.fn.binds (ps:=["many","left","gap"]) λ_ _ _ _ _ _=>gP λ_ _ _=>rfl;have b29:=d29.fn.binds (ps:=["many","left"]) λ_ _ _ _ _ _=>cu λ_ _=>rfl;have b30:=d30.fn.binds (ps:=["many"]) λ_ _ _ _ _ _=>cT λ_=>rfl;have b31:=d31.fn.binds (ps:=["marks","swaps"]) λ_ _ _ _ _ _=>cu λ_ _=>rfl;have b32:=d32.fn.binds (ps:=["marks","swaps","place","later"]) λ_ _ _ _ _ _=>yY λ_ _ _ _=>rfl;have b33:=d33.fn.binds (ps:=["one","other"]) λ_ _ _ _ _ _=>cu λ_ _=>rfl;have b34:=d34.fn.binds (ps:=["many"]) λ_ _ _ _ _ _=>cT λ_=>rfl;have b35:=d35.fn.binds (ps:=["many","orders"]) λ_ _ _ _ _ _=>cu λ_ _=>rfl;have b36:=d36.fn.binds (ps:=["book"]) λ_ _ _ _ _ _=>cT λ_=>rfl;have b37:=d37.fn.binds (ps:=["_law_script","_law_k"]) λ_ _ _ _ _ _=>cu λ_ _=>rfl;have b38:=d38.fn.binds (ps:=["_law_script","_law_k"]) λ_ _ _ _ _ _=>cu λ_ _=>rfl;have b39:=d39.fn.binds (ps:=["_law_many"]) λ_ _ _ _ _ _=>cT λ_=>rfl;have b40:=d40.fn.binds (ps:=["_law_script","_law_k","_law_many"]) λ_ _ _ _ _ _=>gP λ_ _ _=>rfl;have b41:=d41.fn.binds (ps:=["_law_script","_law_k","_law_many"]) λ_ _ _ _ _ _=>gP λ_ _ _=>rfl;have b42:=d42.fn.binds (ps:=["_law_one","_law_other"]) λ_ _ _ _ _ _=>cu λ_ _=>rfl;have b43:=d43.fn.binds (ps:=["_law_many","_law_left","_law_orders","_law_rooms"]) λ_ _ _ _ _ _=>yY λ_ _ _ _=>rfl;have b44:=d44.fn.binds (ps:=["_law_many","_law_orders"]) λ_ _ _ _ _ _=>cu λ_ _=>rfl;have b45:=d45.fn.binds (ps:=["_law_kept"]) λ_ _ _ _ _ _=>cT λ_=>rfl;have b46:=d46.fn.binds (ps:=["_law_many","_law_some"]) λ_ _ _ _ _ _=>cu λ_ _=>rfl;have b47:=d47.fn.binds (ps:=["_law_many","_law_some"]) λ_ _ _ _ _ _=>cu λ_ _=>rfl;have b48:=d48.fn.binds (ps:=["_law_many","_law_some"]) λ_ _ _ _ _ _=>cu λ_ _=>rfl;have b49:=d49.fn.binds (ps:=["_law_script"]) λ_ _ _ _ _ _=>cT λ_=>rfl;refine⟨g49,λs v=>?_,λbase KI _=>?_⟩
 .obtain⟨oc,od,kV,doc,pm,an,Pi,ct,Tl,rfl,lk,SL⟩:=d49.fn.ex;exact .of_eq rfl
 have Fi:=EV (P:=l.prog) (w:=w) (mg:=mg) (base:=base) mi.fn c;have Fk:=EW (P:=l.prog) (w:=w) (base:=base) mk.fn T c;have W0:=d0.dg l.prog w base X G b0 (BP d0.fn T.t);have W1:=d1.dg l.prog w base X G b1 (BQ d1.fn T.t W0);have W2:=d2.dg l.prog w base X G b2 (BR d2.fn T.t W1);have W3:=d3.dg l.prog w base X G b3 (Et d3.fn T.t W2 W0);have W4:=d4.dg l.prog w base X G b4 (Cu d4.fn T W0);have W5:=d5.dg l.prog w base X G b5 (yb d5.fn);have W6:=d6.dg l.prog w base X G b6 (yc d6.fn T);have W7:=d7.dg l.prog w base X G b7 (Cv d7.fn T W0 W1);have W8:=d8.dg l.prog w base X G b8 (Cw d8.fn T);have W9:=d9.dg l.prog w base X G b9 (Cy d9.fn T W4);have W10:=d10.dg l.prog w base X G b10 (Aq d10.fn T W5);have W11:=d11.dg l.prog w base X G b11 (ER d11.fn T W9 W10);have W12:=λn=>d12.dg l.prog w base X G b12 (wB d12.fn T b12 (SI X G d12.ns) n);have W13:=d13.dg l.prog w base X G b13 (CA 8 d13.fn T (W12 8));have W14:=d14.dg l.prog w base X G b14 (ET d14.fn W7 W11 W8 W13);have W15:=d15.dg l.prog w base X G b15 (GT d15.fn T W14 W3 W6);have W16:=λn=>d16.dg l.prog w base X G b16 (rA d16.fn T c mk.mt Fk bk b16 (SI X G d16.ns) n);have W17:=d17.dg l.prog w base X G b17 (Py.or (Aw d17.fn T c M Fi bi mC W2 W3 W16) (A9 d17.fn W2 W3));have W18:=d18.dg l.prog w base X G b18 (Fb d18.fn T);have W19:=d19.dg l.prog w base X G b19 (Fc d19.fn W18);have W20:=d20.dg l.prog w base X G b20 (GN d20.fn T);have W21:=d21.dg l.prog w base X G b21 (CV d21.fn T (Uw X G z12) W18);have W22:=d22.dg l.prog w base X G b22 (CW d22.fn T W11 W21 W20);have W23:=d23.dg l.prog w base X G b23 (AY d23.fn T);have GM:=grM (P:=l.prog) (w:=w) (base:=base) d25.fn d24.fn T c M Fi bi mC mk.mt Fk bk b24 (SI X G d24.ns) b25 (SI X G d25.ns) d26.fn (λH0=>AZ (H0:=H0) d26.fn T W18 W23) b26 KI;have W27:=d27.dg l.prog w base X G b27 (C4 d27.fn T W23 GM (SI X G d26.ns));have W28:=d28.dg l.prog w base X G b28 (A3 d28.fn T W18 W19);have W29:=d29.dg l.prog w base X G b29 (yM d29.fn T W18 W28);have W30:=d30.dg l.prog w base X G b30 (yN d30.fn T W29);have W31:=d31.dg l.prog w base X G b31 (yO d31.fn);have W32:=d32.dg l.prog w base X G b32 (yP d32.fn T W31);have W33:=d33.dg l.prog w base X G b33 (Fr d33.fn T W11 W30 W22 W20 W32 W27);have W34:=d34.dg l.prog w base X G b34 (Da d34.fn T);have W35:=d35.dg l.prog w base X G b35 (Fu d35.fn TM W2 W17 W34 W33);have W36:=d36.dg l.prog w base X G b36 (yT d36.fn W14 W15 W34 W33);have W37:=d37.dg l.prog w base X G b37 (EY d37.fn T);have W38:=d38.dg l.prog w base X G b38 (GE d38.fn T W37);have W39:=d39.dg l.prog w base X G b39 (GF d39.fn T);have W40:=d40.dg l.prog w base X G b40 (GG d40.fn T W39 W38);have W41:=d41.dg l.prog w base X G b41 (Db d41.fn T W39 W38);have W42:=d42.dg l.prog w base X G b42 (yV d42.fn T);have W43:=λn=>d43.dg l.prog w base X G b43 (AC d43.fn T b43 (SI X G d43.ns) n);have W44:=d44.dg l.prog w base X G b44 (CJ d44.fn T W43);have W45:=d45.dg l.prog w base X G b45 (Fx d45.fn T);have W46:=d46.dg l.prog w base X G b46 (Be d46.fn T W42);have W47:=d47.dg l.prog w base X G b47 (Fz d47.fn T W42);have W48:=d48.dg l.prog w base X G b48 (Fy d48.fn E0 ono RO W35 W45);exact GW d49.fn T W38 W41 W46 W48 W44 W17 W36 W40 W47
theorem walk {l:W.OpenLaw}{q:Pk}{loose:List N'}{XP:(N'->Option D')->O8->Prop}{YP:Pd->O8->Prop}{d:DefRec}{K:XS->O6}(hn:l.most=some 63)(hdf:d.params.defaults=[])(hY:∀(w:Pd) (h:O8),YP w h->(K w.params).In h)(F:∀(w:Pd) (mg:N'->Option D') (fa:f') (h:O8),(K w.params).In h->h.Ns Qx mg->mg d.name=some (.ref fa)->
   ∃fd:PD,(∀(s:J') (u:D'),δ s fd ⟨[u],[]⟩ [("_law_script",u)])/\∀base:O8,(K w.params).In base->base.Ns Qx mg->Py l.prog w (K w.params) mg base Ph 15 fa fd ["_law_script"] (sQ (K w.params))):
  W.WalkO q loose XP YP l.row.toRowW d [] (λf vs=>ad4 f vs):=
 L2.Ei (n:=63) (k:=15) (x:="_law_script") (CX:=λ_=>Ph) (sp:=λw=>sQ (K w.params)) hn (by decide) hdf ⟨rfl,by decide,by decide,rfl⟩ hY F (λ_ _ a ns hl _ hS=>⟨a,ns,rfl,hS,λ_=>rfl⟩) λ_ _ _ _ _ z=>z
end Ord
open PySem PySem.W PyProof.Rows
set_option maxRecDepth 100000 in
set_option maxHeartbeats 0 in
theorem PySem.Challenge.cw_ordernest_k41_whole_groups_holds : PySem.Challenge.rw_ordernest_k41_whole_groups.Holds := by
 w_on;refine holds_law (by kernel_rfl) λsaid=>?_
 refine holds_open (q:=Vw.lF) (loose:=[]) (Xt:=Vw.Xt) (XP:=XL Vw.lF []) (Yf:=Hook.obs Vw.H) (Ya:=Hook.val Vw.H)
  (YP:=Hook.says Vw.H) (N:=7204) Vw.Lf (Hook.of Vw.H) (Hook.keeps Vw.H) (λs e=>xl_of s (afo.mp (id e:(xlAt Vw.lF [] s&&recOk Vw.Dc s)=true)).1) XL.keeps
  (by rfl) (by rfl) (by rfl) (λs e=>recFacts_of (afo.mp (id e:(xlAt Vw.lF [] s&&recOk Vw.Dc s)=true)).2) (by rfl)
  (by assumption) (by decide +kernel) ⟨rfl,rfl,rfl,rfl,rfl,by decide +kernel⟩ ?hw ?hc
 (case hw=>w_witness2)
 refine Ord.walk (l:=PySem.Challenge.rw_ordernest_k41_whole_groups) rfl rfl (λw h Y=>W.kIn_of Y) ?F
 case F=>
  intro w mg fa h KX G hmg
  k_fill
  refine' Ord.JR KX G hmg (L2.aX ?a0 ?l0 ?c0 ?k0) (L2.aX ?a1 ?l1 ?c1 ?k1) (L2.aX ?a2 ?l2 ?c2 ?k2) (L2.aX ?a3 ?l3 ?c3 ?k3) (L2.aX ?a4 ?l4 ?c4 ?k4) (L2.aX ?a5 ?l5 ?c5 ?k5) (L2.aX ?a6 ?l6 ?c6 ?k6) (L2.aX ?a7 ?l7 ?c7 ?k7) (L2.aX ?a8 ?l8 ?c8 ?k8) (L2.aX ?a9 ?l9 ?c9 ?k9) (L2.aX ?a10 ?l10 ?c10 ?k10) (L2.aX ?a11 ?l11 ?c11 ?k11) (L2.aX ?a12 ?l12 ?c12 ?k12) (L2.aX ?a13 ?l13 ?c13 ?k13) (L2.aX ?a14 ?l14 ?c14 ?k14) (L2.aX ?a15 ?l15 ?c15 ?k15) (L2.aX ?a16 ?l16 ?c16 ?k16) (L2.aX ?a17 ?l17 ?c17 ?k17) (L2.aX ?a18 ?l18 ?c18 ?k18) (L2.aX ?a19 ?l19 ?c19 ?k19) (L2.aX ?a20 ?l20 ?c20 ?k20) (L2.aX ?a21 ?l21 ?c21 ?k21) (L2.aX ?a22 ?l22 ?c22 ?k22) (L2.aX ?a23 ?l23 ?c23 ?k23) (L2.aX ?a24 ?ZA ?c24 ?k24) (L2.aX ?a25 ?l25 ?c25 ?k25) (L2.aX ?a26 ?l26 ?c26 ?k26) (L2.aX ?a27 ?l27 ?c27 ?k27) (L2.aX ?a28 ?l28 ?c28 ?k28) (L2.aX ?a29 ?l29 ?c29 ?k29) (L2.aX ?a30 ?l30 ?c30 ?k30) (L2.aX ?a31 ?l31 ?c31 ?k31) (L2.aX ?a32 ?l32 ?c32 ?k32) (L2.aX ?a33 ?l33 ?c33 ?k33) (L2.aX ?a34 ?l34 ?c34 ?k34) (L2.aX ?a35 ?l35 ?c35 ?k35) (L2.aX ?a36 ?l36 ?c36 ?k36) (L2.aX ?a37 ?l37 ?c37 ?k37) (L2.aX ?a38 ?l38 ?c38 ?k38) (L2.aX ?a39 ?l39 ?c39 ?k39) (L2.aX ?a40 ?l40 ?c40 ?k40) (L2.aX ?a41 ?l41 ?c41 ?k41) (L2.aX ?a42 ?l42 ?c42 ?k42) (L2.aX ?a43 ?l43 ?c43 ?k43) (L2.aX ?a44 ?l44 ?c44 ?k44) (L2.aX ?a45 ?l45 ?c45 ?k45) (L2.aX ?a46 ?l46 ?c46 ?k46) (L2.aX ?a47 ?l47 ?c47 ?k47) (L2.aX ?a48 ?l48 ?c48 ?k48) (L2.aX ?a49 ?l49 ?c49 ?k49) ?aC (L2.DY ?ia ?ii ?il ?ic ?ik) (L2.DY ?ka ?ki ?kl ?kcc ?kk) ?pg ?hd ?po ?sa ?ms ?kc ?nR ?nN ?xo ?cn ?nt ?xc ?cl ?na0 ?nc0 ?ny0 ?na1 ?nc1 ?ny1 ?na2 ?nc2 ?ny2 ?na3 ?nc3 ?ny3 ?na4 ?nc4 ?ny4 ?na5 ?nc5 ?ny5 ?na6 ?nc6 ?ny6 ?ono ?eo1 ?eo2 ?ZC ?eo4 ?eo5 ?eo6 ?Wi ?eo8 ?mo0 ?mo1 ?mo2 ?mo3 ?mo4 ?mo5 ?mo6 ?m8 ?m0 ?m1 ?m2 ?m6 ?z0 ?z1 ?z2 ?z3 ?z4 ?z5 ?z6 ?z7 ?z8 ?z9 ?z10 ?z11 ?z12
  case a0|l0|c0|k0|a1|l1|c1|k1|a2|l2|c2|k2|a3|l3|c3|k3|a4|l4|c4|k4|a5|l5|c5|k5|a6|l6|c6|k6|a7|l7|c7|k7|a8|l8|c8|k8|a9|l9|c9|k9|a10|l10|c10|k10|a11|l11|c11|k11|a12|l12|c12|k12|a13|l13|c13|k13|a14|l14|c14|k14|a15|l15|c15|k15|a16|l16|c16|k16|a17|l17|c17|k17|a18|l18|c18|k18|a19|l19|c19|k19|a20|l20|c20|k20|a21|l21|c21|k21|a22|l22|c22|k22|a23|l23|c23|k23|a24|ZA|c24|k24|a25|l25|c25|k25|a26|l26|c26|k26|a27|l27|c27|k27|a28|l28|c28|k28|a29|l29|c29|k29|a30|l30|c30|k30|a31|l31|c31|k31|a32|l32|c32|k32|a33|l33|c33|k33|a34|l34|c34|k34|a35|l35|c35|k35|a36|l36|c36|k36|a37|l37|c37|k37|a38|l38|c38|k38|a39|l39|c39|k39|a40|l40|c40|k40|a41|l41|c41|k41|a42|l42|c42|k42|a43|l43|c43|k43|a44|l44|c44|k44|a45|l45|c45|k45|a46|l46|c46|k46|a47|l47|c47|k47|a48|l48|c48|k48|a49|l49|c49|k49|aC|ia|ii|il|ic|ik|ka|ki|kl|kcc|kk|pg|hd|po|sa|ms|kc|nR|nN|na2=>k_is
  (case xo=>k_exc);(case cn=>k_is);(case nt=>k_is);(case xc=>k_is);(case cl=>k_is);(case na0=>k_is);(case nc0=>k_is);(case ny0=>k_is);(case na1=>k_is);(case nc1=>k_is);(case ny1=>k_is);(case nc2=>k_is);(case ny2=>k_is);(case na3=>k_is);(case nc3=>k_is);(case ny3=>k_is);(case na4=>k_is);(case nc4=>k_is);(case ny4=>k_is);(case na5=>k_is);(case nc5=>k_is);(case ny5=>k_is);(case na6=>k_is);(case nc6=>k_is);(case ny6=>k_is);(case ono=>k_is);(case eo1=>k_is);(case eo2=>k_is);(case ZC=>k_is);(case eo4=>k_is);(case eo5=>k_is);(case eo6=>k_is);(case Wi=>k_is);(case eo8=>k_is);(case mo0=>k_is);(case mo1=>k_is);(case mo2=>k_is);(case mo3=>k_is);(case mo4=>k_is);(case mo5=>k_is);(case mo6=>k_is);(case m8=>k_is);(case m0=>k_is);(case m1=>k_is);(case m2=>k_is);(case m6=>k_is)
  case z0|z1|z2|z3|z4|z5|z6|z7|z8|z9|z10|z11|z12=>k_is
