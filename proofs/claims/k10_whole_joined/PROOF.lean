import PyProof.Rows.All
import Wide.All
import OpenK.AllK
import Wide.FinOn
import Lean
import PyProof.EqAt
import PyProof.EqKinds
import PyProof.TupleCall
import KE.KIsAll
import PyProof.ExcAttrAll.ValueError
import KE.KDictList
import KE.KDictLaws
import PyProof.Rows.SortShellK
import PySem.SetOps
import PyProof.SetScanFacts
import PyProof.Rows.SetFrom
import PyProof.DictRoadsH
import KE.KDictOf
import PySem.Challenge.RW_ordernest_k10_whole_joined
set_option compiler.extract_closed false
set_option Elab.async false
set_option linter.all false
set_option maxRecDepth 100000
open PySem renaming Addr->D',Arguments->Wb,Around->ML,BindsTo->XW,Builtin->PH,DictEntry->Op,Env->NK,Expr->MK,FuncData->MY,GenState->Z8,Heap->Mp,IsPart->U1,Model->Tl,NameKind->Th,Obj->Mc,OsState->OV,Paired->MC,Params->U2,PassesOwn->abg,Pos->Ni,Program->MD,Within->acU,call->ac1,mem_of_lookup->Ru,Scope->OE,Sem->Pb,SetTable->NJ,Shared->Md,Stmt->Mv,Str->Me,Value->G',World->Mt,bootBuiltins->Pz,builtinLookup_eq_fast->acb,cLine->MQ,call_meets->V9,codeAny_builtin->Sr,codeAny_call_builtin->ach,codeAny_compStart_list->ab2,codeAny_mono->Ug,compTurn_list->acQ,compareOp->OM,entryFor_alias->acL,isSubtype_type->ZV,lookup_relabel_local->Xl,mainGlobals->No,model->Mr,noFill_tuple_add->acv,plainId_quiet->ZZ,seq_tuple_add->acP,sizeLine->Mz,sizeLine_eq->Nf,slot_dict_contains->acn,starEach->NM,strLen_append->acR,sysModules->Po,tupleKind_room_in1->aaH,typeIs_int->abe,typeLookup_type->acG,wpAny->Ml,wpAny_Assign_Subscript->ab3,wpAny_Call_Name_kw->Xp,wpAny_FormattedValue_repr->adW,wpAny_askSetting->ZP,wpAny_assign_Name->Xv,wpAny_attempt->acT,wpAny_bind->Mf,wpAny_call->Z5,wpAny_callSpecial?_slot->Zy,wpAny_call_entry->Ra,wpAny_comprehension_free->abV,wpAny_dictEntries->ZM,wpAny_dictEpoch->Ss,wpAny_execs_nil->ZQ,wpAny_field->V7,wpAny_forIn_list->Rb,wpAny_holding->O2,wpAny_isInstance->aaO,wpAny_list_append_plain->abY,wpAny_loadPart_at->ZI,wpAny_mono->QZ,wpAny_newFunctionEnv->aaz,wpAny_newList->V1,wpAny_newObj_type->S8,wpAny_passesOwn->VR,wpAny_pure->Mm,wpAny_pyIter_list->acp,wpAny_rule->Qa,wpAny_runValue->acJ,wpAny_seqItems->aaV,wpAny_sequenceKey->acr,wpAny_setEntries_of->acj,wpAny_setField->ZW,wpAny_setFlight_noneW->ab7,wpAny_setState_of->Pm,wpAny_specialOf->VW,wpAny_standAt->UX,wpAny_storeSet_of->ZL,wpAny_truthy_bool->Q9,wpAny_typeOf->V6
open PyProof.Rows renaming AllBare->Sy,IntsAre->Ry,KK_mirror_equal->acD,Keyed->R8,NonIncK->R6,KeyKind->aaA,callWith_type1->adJ,entry_list_sort->aak,envOfC->Pl,slot_list_sort->aam,slot_tuple_getitem->abN,SortKind->XV,SortSt->PM,SortedToK->Pa,args_list_sort->aaT,args_sorted1->aa6,arrOf->M3,entry_sorted->aa5,get?_update_seq->XE,kind_sorted->abb,listItems_at->XM,listUpdate_at->aaX,mirror_perm->abc,pairsOf_size->aa7,pairsOf_toList->acK,plain_sorted->aa4,seqObj->M5,wpS_bind->Oe,wpS_forRange->XN,wpS_get->XX,wpS_pure->Pi,wpS_reverse->abd
open PySem.Around renaming frames_deeper->ael,under->aa1,under_plainId->VI
open Array.Perm renaming refl->acE
open Array renaming forIn_toList->ZF,getD->Q0,getElem?_eq_getElem->RV,getElem?_eq_none->ZA,getElem?_eq_some_iff->RS,getElem?_setIfInBounds_ne->adF,getElem?_setIfInBounds_self_of_lt->adD,getElem?_toList->S7,getElem_setIfInBounds->adL,length_toList->Od,mem_toList_iff->aay,perm_iff_toList_perm->abP,replicate->acF,toList_append->aev,toList_filterMap->ab5
open Bool renaming and_eq_true->QW,and_eq_true_iff->aeo,and_false->aaU,eq_false_iff->ZJ,eq_iff_iff->Ta,false_and->ZT,false_eq_true->NT,false_ne_true->Oo,not_true->QX
open PySem.Builtin.Dict renaming updateFrom->aea
open PySem.Builtin.Frozenset renaming addrOf->abW,copyOf->aat,isAnySet->abQ,merge->ad9,updateFrom->aal
open PySem.Builtin.List renaming listExtendWith->adK,listItems->ab4,listLengthHint->adM,listTooLong->abU
open PySem.Builtin.Slice renaming sliceAdjust->abR,sliceApplied->adR,slicePlaces->aan
open PySem.Builtin.Tuple renaming tupleExact->aaq,tupleHashOf->VB,tupleItemsOf->adS
open PySem.Builtin renaming bitOr->acN
open PySem.Calls renaming Constant_str->aey,Name_function_global->adQ,callWith_builtin->aec,call_function_entry->aao,evalArgs_plain->acg,spliced_cons->Xo,spliced_nil->acq,evalArgs_plain->adU
open Classical renaming byContradiction->Rt,propDecidable->aav
open PySem.Code renaming isFrame->acV,quiet_builtin->acl
open PySem.F renaming slot_gs_get->acS,slot_tuple_hash->ZK,typeOf_object_class->ab8,args_dict_get_3->ad5,args_list_index_2->adV,args_tuple_add_2->abT,entry_dict_get->aed,entry_list_index->ad1,entry_tuple_add->abX,plainAttrs_dict->ad6,plainAttrs_list->RW,plain_list_iadd->ad7,plain_set_new->aei,slot_dict_get->aca,slot_dict_getitem->aap,slot_dict_setdefault->adG,slot_list_append->T7,slot_list_count->ad4,slot_list_index->aau,slot_set_iter->aej,slot_set_or->aeu,slot_tuple_add->ab1,slot_tuple_getattribute->abO,type_list_append->T8,type_list_index->aeb
open False renaming elim->Pp
open ForInStep renaming yield->VT
open PySem.Heap.DictOf renaming new->aeI
open PySem.Heap renaming SameBut->QY,get?_push_of_some->MZ,get?_push_size->NV,get?_update_other->S0,get?_update_self->ZB,lt_size->MS,size_push->XH
open PySem.Heap.SameBut renaming refl->aaL,update->Xn
open PySem.Heap.UpToSlots renaming ns->aeE
open Int renaming emod_lt_of_pos->VM,emod_nonneg->VX,le_refl->acZ,min_eq_left->acI,min_eq_right->acz,toNat_natCast->UV,toNat_of_nonneg->aaF
open Int.ofNat renaming inj->aeL
open PyProof.Rows.KeyOrd renaming kle_antisymm->aer,kle_of_klt->aaJ,kle_refl->XF,kle_trans->aaP
open List renaming Nodup->V',all_cons->XI,all_eq_true->Sq,any_cons->Td,append_assoc->VP,append_eq_nil_iff->aeg,append_nil->QD,concat_eq_append->ace,drop->PD,drop_eq_getElem_cons->adZ,drop_of_length_le->aeh,drop_zero->aaW,eq_nil_iff_forall_not_mem->aaj,eq_nil_or_concat->aek,exists_cons_of_ne_nil->TY,exists_mem_of_ne_nil->SX,filterMap_cons->QA,filterMap_cons_none->aas,filterMap_cons_some->VC,filter_append->VO,filter_cons->aaQ,filter_cons_of_neg->VD,filter_cons_of_pos->SZ,filter_sublist->VL,find?_append->aaM,find?_cons->VU,find?_cons_of_neg->VF,find?_cons_of_pos->aef,find?_eq_none->ZG,flatMap_cons->aaK,flatten_cons->ZH,foldl->abf,foldl_append->Ua,foldl_cons->VS,forIn_cons->acC,getD_eq_getElem?_getD->Zx,getElem?_append_left->SW,getElem?_append_right->US,getElem?_cons_zero->abZ,getElem?_eq_getElem->Om,getElem?_eq_none->ab9,getElem?_eq_some_iff->NP,getElem?_inj->acu,getElem?_map->O0,getElem?_range->aet,getElem?_set_ne->acf,getElem?_set_self->ab0,getElem?_take->aaI,getElem?_take_of_lt->abS,getElem_cons_drop->aee,getElem_mem->VQ,idxOf_append->act,idxOf_lt_length_of_mem->adN,isEmpty_eq_false_iff->ad0,length->Rw,length_append->NQ,length_cons->N',length_drop->XB,length_eq_zero_iff->SY,length_erase_of_mem->aar,length_filter_le->ZC,length_map->Ng,length_nil->Ud,length_pos_iff->ZD,length_pos_of_mem->Zz,length_range->acs,length_singleton->ab6,length_take->Ph,lookup->UY,lookup_cons->UW,map_append->Qn,map_congr_left->Xm,map_cons->Nt,map_map->Z3,map_nil->Z1,mem_append->Ny,mem_append_left->P6,mem_append_right->OA,mem_cons->M0,mem_cons_of_mem->Na,mem_cons_self->MO,mem_erase_of_ne->aci,mem_filter->O9,mem_filterMap->Qm,mem_flatMap->Uc,mem_iff_getElem->aaB,mem_iff_getElem?->UT,mem_map->Nm,mem_of_find?_eq_some->adY,mem_of_getElem?->N1,mem_of_mem_take->aaD,mem_range->P8,mem_singleton->N3,nil_prefix->acH,nodup_append->Ub,nodup_cons->Py,nodup_nil->Ue,nodup_range->aaN,not_mem_nil->QC,of_mem_zip->acB,pairwise_append->VH,pairwise_cons->Xr,pairwise_iff_getElem->adX,pairwise_lt_range->aaw,pairwise_map->Sn,pairwise_singleton->ad8,perm_ext_iff_of_nodup->Zw,prefix_append->Xu,prefix_rfl->P7,range->Ox,replicate->O1,replicate_succ->VJ,size_toArray->ND,sum_cons->V3,take_add_one->So,take_append_drop->T9,take_length->QB,take_of_length_le->Xk,take_prefix->aaR,take_sublist->Xw,take_succ_cons->aes,take_take->ZX,zip_cons_cons->Xq
open List.Pairwise renaming nil->T'
open List.Perm renaming eq_of_pairwise->ad2,refl->ZU,swap->aeJ
open List.Sublist renaming refl->ZN
open List.cons renaming inj->aeK
open PySem.NameKind renaming free->V0
open Nat renaming add_assoc->aaZ,add_zero->aa2,eq_of_testBit_eq->aaC,eq_zero_or_pos->acm,le_of_ble_eq_true->aax,le_of_eq->V5,le_of_lt->Uf,le_of_not_lt->acw,le_refl->MJ,le_succ->UZ,le_trans->OT,lt_irrefl->RX,lt_of_le_of_lt->ack,lt_of_lt_of_le->NH,lt_or_ge->Pn,lt_succ_of_lt->Xx,lt_succ_self->XA,lt_trans->Z2,lt_trichotomy->Xz,min_eq_left->VY,mul_le_mul->acM,mul_le_mul_right->VG,mul_succ->aa9,ne_of_gt->Su,ne_of_lt->M8,not_lt_zero->ZR,pow_le_pow_right->aem,sub_self->aa8,succ_mul->acW,testBit_two_pow->aaE,testBit_two_pow_sub_one->adO,zero_add->aa3,zero_le->NX,zero_testBit->acy
open Ne renaming symm->M'
open PySem.Obj renaming data_mapDictKeys->aen,data_mapFields->Xs,isFreed_of_fields->acd,mapFields->Z0,mapSeq->OU,putSet->Wa
open Option renaming getD_none->aeF,getD_some->aeH,isSome_iff_exists->TZ,isSome_map->aeC,map_eq_some_iff->VE,map_some->ZS,toList_some->VN
open Option.some renaming inj->Rv
open Or renaming inl->MX,inr->NR
open PySem.Paired renaming length->VZ
open PySem.PassesOwn renaming leaving->aeD,never->Tb
open Prod renaming ext->XU
open PySem.PyData renaming keyHash->ZY
open PyProof.Rows.F renaming entry_set_update_loop->adE,plain_set_update_loop->abM
open PySem.SeqAt renaming EqAt->R3,list_indexAt->aeB,notIn_listAt->aez,notIn_tupleAt->aep
open PySem.SeqAt.EqAt renaming int_int->aaG,int_str->aew,of_refs->ZE,same->XD,str_int->aex
open PySem.SeqAt.RcAt renaming lists->aeG,lists_lengths->ad3,tuples->Xy
open PySem.SeqAt.RcNeAt renaming lists->aeA,lists_lengths->adT,tuples->aeq
open PySem.SetTable renaming fill->RY,fits->aa0,roomFor->acA,tooFull->acx
open PySem.Shared renaming TypeIs->XJ
open PySem.Spec renaming bitNot->V8
open PySem.Str renaming ofString->RZ
open Sum renaming inl->Oy,inr->Tj
open Sum.inl renaming inj->XQ
open True renaming intro->P9
open PySem.Value renaming bool->R0,builtin->V2,float->acY,int->Ov,isInt->XO,isInt_shape->aco,none->Sv,ref->Nd,str->Z6,type->QE
open PySem.W renaming CodeHd->Ui,Frag->Mi,codeIn->Z9,emptyDict->Uh,excIn->Wc,findIn->OO,fnOf->Tk,funFrames_hide->ZO,hasDictIn->aba,hideAll->Rx,hideAll_get->Tc,hideAll_none->XG,instObj->U0,isClsIn->PB,keepIn->Sx,kia_one->Rc,kitOne->Re,kla_obj->Z7,looks_findIn->aaS,looks_mroIn->aaY,mg_none_of->Qo,mg_of->PK,mroIn->Np,nsIn->Og,of_hideAll->V4,plainGet->Z4,plainGet_of->acO,tabIn->ε,typeIn->Sw,boot_heap->XR,items_int->abh,looks_pair->Tf,piece_app->R4,segRun_of->R5
open PySem.W.Fast renaming te10110043849684766642->Rs,te14364793385576792824->Qz,te3399658132070893891->adH,te5923862056798008813->adI,te821141287760084731->adP
open PySem.W.Looks renaming ld->ac2
open PySem.World renaming withFollow->XC
open PySem.pickOrder renaming go->acX
abbrev Mw:=@absurd
abbrev M4:=@decide_eq_false
abbrev M6:=@decide_eq_true
abbrev Mq:=@if_neg
abbrev Mu:=@if_pos
abbrev S9:=@of_decide_eq_true
namespace L2
open PySem PySem.Spec PyProof.Rows
abbrev Key:=Sum Int Me
def ip:Key->G'->Bool
 | .inl k,v=>XO k v
 | .inr x,v=>G'.isStrOf x v
def Dx (w:Mt):Key->Int
 | .inl k=>hashInt k
 | .inr x=>hashStr w x
theorem bZ:∀{k:Key}{v:G'},ip k v=true->(∃i t,k=Oy i/\v=Ov i t)\/(∃x t,k=Tj x/\v=Z6 x t)
 | .inl i,v,h=>by
  obtain⟨t,e⟩:=aco (k:=i) (v:=v) h;exact .inl ⟨i,t,rfl,e⟩
 | .inr x,v,h=>by
  obtain⟨t,e⟩:=G'.isStrOf_shape (x:=x) (v:=v) h;exact .inr ⟨x,t,rfl,e⟩
theorem pQ (i:Int)(t):ip (.inl i) (.int i t)=true:=by simp[ip,XO]
theorem xM (x)(t):ip (.inr x) (.str x t)=true:=by simp[ip,G'.isStrOf]
theorem Dy (a b:Int):decide ((Oy a:Key)=Oy b)=(a==b):=by
 by_cases e:a=b
 .subst e;simp
 .have h:¬(Oy a:Key)=Oy b:=λq=>e (XQ q);rw[M4 h];exact(beq_eq_false_iff_ne.mpr e).symm
theorem Dz (a b):decide ((Tj a:Key)=Tj b)=decide (a=b):=by
 by_cases e:a=b
 .subst e;simp
 .have h:¬(Tj a:Key)=Tj b:=λq=>e (Tj.inj q);rw[M4 h,M4 e]
theorem DA (a:Int)(b):decide ((Oy a:Key)=Tj b)=false:=M4 (λq=>nomatch q)
theorem DB (a)(b:Int):decide ((Tj a:Key)=Oy b)=false:=M4 (λq=>nomatch q)
def aL (prog)(w):PySem.KeyKind prog w Key where
 is:=ip
 hash:=Dx w
 inj:=λv a b ha hb=>by
  rcases bZ ha with⟨i,t,rfl,rfl⟩|⟨x,t,rfl,rfl⟩
  .rcases bZ hb with⟨j,u,rfl,e⟩|⟨y,u,rfl,e⟩
   .injection e with e1 _;rw[e1]
   .exact nomatch e
  .rcases bZ hb with⟨j,u,rfl,e⟩|⟨y,u,rfl,e⟩
   .exact nomatch e
   .injection e with e1 _;rw[e1]
 byValue:=λk v h=>by
  rcases bZ h with⟨i,t,rfl,rfl⟩|⟨x,t,rfl,rfl⟩ <;> rfl
 pyHash:=λhv h=>by
  rcases bZ hv with⟨i,t,rfl,rfl⟩|⟨x,t,rfl,rfl⟩
  .exact wpAny_pyHash_int h
  .exact wpAny_pyHash_str h
 eqBool:=λhu hv h=>by
  rcases bZ hu with⟨i,t,rfl,rfl⟩|⟨x,t,rfl,rfl⟩
  .rcases bZ hv with⟨j,u,rfl,rfl⟩|⟨y,u,rfl,rfl⟩
   .rw[Dy] at h;exact wpAny_eqBool_int h
   .rw[DA] at h;exact aew i t y u _ _ _ _ h
  .rcases bZ hv with⟨j,u,rfl,rfl⟩|⟨y,u,rfl,rfl⟩
   .rw[DB] at h;exact aex x t j u _ _ _ _ h
   .rw[Dz] at h;exact wpAny_eqBool_str h
 «strs»:=λk x t v h=>by
  rcases bZ h with⟨i,u,rfl,e⟩|⟨y,u,rfl,e⟩
  .exact nomatch e
  .injection e with e1 _
   subst e1;cases v <;> rfl
theorem wg (prog)(w)(k)(v):(aL prog w).is k v=ip k v:=rfl
theorem uO (prog)(w)(i:Int)(t):(aL prog w).is (.inl i) (.int i t)=true:=pQ i t
theorem cw (prog)(w)(x)(t):(aL prog w).is (.inr x) (.str x t)=true:=xM x t
inductive V where
 | MV|bl (b:Bool)|int (i:Int)|str (x:Me)|Q1 (b:Array UInt8)|U9 (b:UInt64)|ref (a:D')|ty (n:String)
 deriving DecidableEq
def ax:V->G'->Prop
 | .MV,u=>u=Sv
 | .bl b,u=>u=R0 b
 | .int i,u=>∃t,u=Ov i t
 | .str x,u=>∃t,u=Z6 x t
 | .Q1 b,u=>∃t,u=G'.bytes b t
 | .U9 b,u=>∃t,u=acY b t
 | .ref a,u=>u=Nd a
 | .ty n,u=>u=QE n
abbrev aw:List V->List G'->Prop:=MC ax
theorem aw.length (r:aw xs us):xs.length=us.length:=VZ r
theorem aw.get:∀{xs:List V}{us:List G'}{i:Nat}{x:V},aw xs us->xs[i]?=some x->∃u,us[i]?=some u/\ax x u
 | _,_,_,_,.nil,e=>by simp at e
 | _,_,0,_,.cons r _,e=>by simp at e;subst e;exact⟨_,rfl,r⟩
 | _,_,i+1,x,.cons _ t,e=>by
  obtain⟨u,h1,h2⟩:=aw.get (i:=i) (x:=x) t (by simpa using e);exact⟨u,by simpa using h1,h2⟩
theorem aw.append:∀{xs ys:List V}{us ws:List G'},aw xs us->aw ys ws->aw (xs++ys) (us++ws)
 | _,_,_,_,.nil,s=>s
 | _,_,_,_,.cons r t,s=>.cons r (aw.append t s)
theorem aw.take:∀{xs:List V}{us:List G'}(n:Nat),aw xs us->aw (xs.take n) (us.take n)
 | _,_,0,_=>.nil
 | _,_,_+1,.nil=>.nil
 | _,_,n+1,.cons r t=>.cons r (aw.take n t)
theorem aw.drop:∀{xs:List V}{us:List G'}(n:Nat),aw xs us->aw (xs.drop n) (us.drop n)
 | _,_,0,r=>r
 | _,_,_+1,.nil=>.nil
 | _,_,n+1,.cons _ t=>aw.drop n t
def dQ:Option V->Option G'->Prop
 | some v,some u=>ax v u
 | none,none=>True
 | _,_=>False
def KV {κ:Type}:List (κ×V)->List (κ×G')->Prop:=MC λ(p:κ×V) (q:κ×G')=>p.1=q.1/\ax p.2 q.2
def kV:Key->V
 | .inl i=>.int i
 | .inr x=>.str x
inductive HO where
  | lst (xs:List V)
  | tup (xs:List V)
  | dK (kvs:List (Key×V))|dT (kvs:List (List Key×V))
  | set (S:Int->Bool) (n:Nat)
  | ins (C dx:D') (fs:List (Me×V))
  | own (x:D')
  | xd (fs:List (Me×V))
  | met (f x:D')
  | Rj (lo hi:Int)
  | NO (o:Mc) (u:HO)
  | Pu (ps:Array G')
  | ext (φ:Mp->Prop)
abbrev Hp:=D'->Option HO
def upd (H:Hp)(a:D')(o:HO):Hp:=λb=>if b=a then some o else H b
theorem ag:upd H a o a=some o:=by unfold upd;rw[Mu rfl]
theorem ao (h:b≠a):upd H a o b=H b:=by unfold upd;rw[Mq h]
theorem vb:upd (upd H a o) a u=upd H a u:=by
 funext b;unfold upd;split <;> rfl
theorem iq {H:Hp}(h:H a=some o)(h':H b=some u)(d:o≠u):a≠b:=by
 intro e;subst e;rw[h] at h';exact d (Rv h')
theorem aq {H:Hp}(h:H a=some o)(h':H b=none):a≠b:=by
 intro e;subst e;rw[h] at h';cases h'
def eY (h:Mp)(a:D')(items:Array G'):Prop:=∃o,h.get? a=some o/\o.cls=.type "tuple"/\∃n,o.data=.seq items n/\o.dict=none
theorem eY.tup (x:eY h a items):IsTup h a items:=let ⟨o,e,c,n,d,_⟩:=x;⟨o,e,c,n,d⟩
theorem eY.new (h:Mp)(items:Array G'):eY (h.push { cls:=.type "tuple",data:=.seq items }) h.objs.size items:=⟨_,NV _ rfl,rfl,_,rfl,rfl⟩
section
variable (P:MD) (w:Mt)
def bg (H:Hp)(h:Mp)(a:D'):HO->Prop
 | .lst xs=>xs.length<=Mz/\∃(Mh:List G') (n:Nat),aw xs Mh/\h.get? a=some { cls:=.type "list",data:=.seq Mh.toArray n }
 | .tup xs=>xs.length<=Mz/\∃Mh:List G',aw xs Mh/\eY h a Mh.toArray
 | .dK kvs=>kvs.length<=Mz/\(a==Po)=false/\∃vs,KV kvs vs/\h.DictOf (aL P w) a vs
 | .dT kvs=>kvs.length<=Mz/\(a==Po)=false/\∃xs:List (List Key×D'×G'),
   MC (λ(p:List Key×V) (q:List Key×D'×G')=>p.1=q.1/\H q.2.1=some (.tup (p.1.map kV))/\ax p.2 q.2.2) kvs xs/\
   ∃o es ep,h.get? a=some o/\o.ExactDict/\o.data=.dict es ep/\es.toList=xs.map (entryOfKey (tupleKind (aL P w)))/\(xs.map (·.1)).Nodup
 | .set S n=>h.SetOf (intKind P w) a S n
 | .ins C dx fs=>H dx=some (.own a)/\fs.length<=1000/\dx≠a/\h.get? a=some (U0 C dx)/\
   ∃mA,h.Ns1 dx mA/\(∀f,dQ (fs.lookup f) (mA f))/\acU mA (fs.map (·.1))
 | .own _=>∃o,h.get? a=some o
 | .xd fs=>∃mA,h.Ns1 a mA/\∀f,dQ (fs.lookup f) (mA f)
 | .Rj lo hi=>∃t u v,h.get? a=some { cls:=.type "range",data:=.fields #[.int lo t,.int hi u,.int 1 v] }
 | .NO o u=>h.get? a=some o/\bg H h a u
 | .Pu ps=>h.get? a=some { cls:=.none,data:=.fields ps }
 | .met f x=>h.get? a=some (W.methodObj (.ref f) (.ref x))
 | .ext φ=>φ h/\(∃o,h.get? a=some o)/\∀h1 h2:Mp,φ h1->(∀o,h1.get? a=some o->h2.get? a=some o)->φ h2
def N5 (H:Hp)(h:Mp):Prop:=∀a o,H a=some o->bg P w H h a o
end
section
theorem bg.lt (x:bg P w H h a o):a<h.objs.size:=by
 cases o with
 | lst xs=>obtain⟨_,_,_,_,e⟩:=x;exact MS e
 | tup xs=>obtain⟨_,_,_,p⟩:=x;exact p.tup.lt
 | dK kvs=>obtain⟨_,_,_,_,o,_,_,e,_⟩:=x;exact MS e
 | dT kvs=>obtain⟨_,_,_,_,o,_,_,e,_⟩:=x;exact MS e
 | set S n=>obtain⟨o,_,_,_,e,_⟩:=x;exact MS e
 | ins C dx fs=>obtain⟨_,_,_,e,_⟩:=x;exact MS e
 | own y=>obtain⟨_,e⟩:=x;exact MS e
 | xd fs=>obtain⟨_,⟨_,_,_,e,_⟩,_⟩:=x;exact MS e
 | Rj lo hi=>obtain⟨_,_,_,e⟩:=x;exact MS e
 | NO ob u=>obtain⟨e,_⟩:=x;exact MS e
 | Pu ps=>exact MS (show h.get? a=some _ from x)
 | met f y=>exact MS (show h.get? a=some _ from x)
 | ext φ=>obtain⟨_,⟨_,e⟩,_⟩:=x;exact MS e
theorem Paired.abz {α β:Type}{F G:α->β->Prop}:∀{O3:List α}{O4:List β},MC F O3 O4->(∀a b,F a b->G a b)->MC G O3 O4
 | _,_,.nil,_=>.nil
 | _,_,.cons r t,f=>.cons (f _ _ r) (Paired.abz t f)
theorem bg.RA (x:bg P w H h a o)(k:∀b u,(b=a\/H b=some (.own a))->h.get? b=some u->h'.get? b=some u)(ho:∀b,H b=some (.own a)->H' b=some (.own a))(ht:∀b xs,H b=some (.tup xs)->H' b=some (.tup xs)):bg P w H' h' a o:=by
 induction o with
 | lst xs=>obtain⟨z,Mh,n,r,e⟩:=x;exact⟨z,Mh,n,r,k _ _ (.inl rfl) e⟩
 | tup xs=>obtain⟨z,Mh,r,ob,e,c⟩:=x;exact⟨z,Mh,r,ob,k _ _ (.inl rfl) e,c⟩
 | dK kvs=>obtain⟨z,y,vs,r,ob,es,ep,e,c⟩:=x;exact⟨z,y,vs,r,ob,es,ep,k _ _ (.inl rfl) e,c⟩
 | dT kvs=>
  obtain⟨z,y,xs,r,ob,es,ep,e,c⟩:=x;exact⟨z,y,xs,Paired.abz r λp q z=>⟨z.1,ht _ _ z.2.1,z.2.2⟩,ob,es,ep,k _ _ (.inl rfl) e,c⟩
 | set S n=>obtain⟨ob,es,ep,t,e,c⟩:=x;exact⟨ob,es,ep,t,k _ _ (.inl rfl) e,c⟩
 | ins C dx fs=>
  obtain⟨d,z,ne,e,mA,⟨od,es,ep,e2,c⟩,r⟩:=x;exact⟨ho _ d,z,ne,k _ _ (.inl rfl) e,mA,⟨od,es,ep,k _ _ (.inr d) e2,c⟩,r⟩
 | own y=>obtain⟨ob,e⟩:=x;exact⟨ob,k _ _ (.inl rfl) e⟩
 | xd fs=>obtain⟨mA,⟨od,es,ep,e,c⟩,r⟩:=x;exact⟨mA,⟨od,es,ep,k _ _ (.inl rfl) e,c⟩,r⟩
 | Rj lo hi=>obtain⟨t,u,v,e⟩:=x;exact⟨t,u,v,k _ _ (.inl rfl) e⟩
 | NO ob u ih=>obtain⟨e,q⟩:=x;exact⟨k _ _ (.inl rfl) e,ih q⟩
 | Pu ps=>
  have e:h.get? a=some { cls:=.none,data:=.fields ps }:=x;show h'.get? a=some { cls:=.none,data:=.fields ps };exact k a _ (.inl rfl) e
 | met f y=>
  have e:h.get? a=some (W.methodObj (.ref f) (.ref y)):=x;show h'.get? a=some (W.methodObj (.ref f) (.ref y));exact k a _ (.inl rfl) e
 | ext φ=>obtain⟨p,⟨o,e⟩,st⟩:=x;exact⟨st _ _ p λo q=>k _ _ (.inl rfl) q,⟨o,k _ _ (.inl rfl) e⟩,st⟩
theorem N5.lt (x:N5 P w H h)(e:H a=some o):a<h.objs.size:=(x a o e).lt
variable {a:D'} in
theorem N5.fresh (x:N5 P w H h)(e:h.objs.size<=a):H a=none:=by
 cases q:H a with
 | none=>rfl
 | some u=>exact Mw (NH (x.lt q) e) (RX _)
theorem N5.kept (x:N5 P w H h)(k:∀b u,h.get? b=some u->h'.get? b=some u):N5 P w H h':=λa o e=>
 (x a o e).RA (λb u _ q=>k b u q) (λ_ q=>q) λ_ _ q=>q
variable {a:D'} in
theorem N5.laid (x:N5 P w H h)(k:∀b u,h.get? b=some u->h'.get? b=some u)(hp:h.objs.size<=a)(new:bg P w (upd H a o) h' a o):N5 P w (upd H a o) h':=λb u e=>by
 have hn:=x.fresh hp
 by_cases hb:b=a
 .subst hb;rw[ag] at e;cases e;exact new
 .rw[ao hb] at e;exact(x b u e).RA (λc v _ q=>k c v q) (λc q=>by rw[ao (aq q hn)];exact q) λc xs q=>by rw[ao (aq q hn)];exact q
end
def Rd (H:Hp)(a:D')(u:HO):Prop:=H a=some u\/∃o,H a=some (.NO o u)
theorem Rd.ok (r:Rd H a u)(x:N5 P w H h):bg P w H h a u:=by
 rcases r with r|⟨o,r⟩
 .exact x a u r
 .obtain⟨_,q⟩:=x a _ r;exact q
def Ym:Option HO->Prop
 | some (.lst _)=>True
 | some (.dK _)=>True
 | some (.dT _)=>True
 | some (.set _ _)=>True
 | some (.ins _ _ _)=>True
 | some (.ext _)=>True
 | _=>False
section
theorem N5.write (ok:N5 P w H h)(mu:Ym (H x))(he:e=x\/H e=some (.own x))(k:∀b u,b≠e->h.get? b=some u->h'.get? b=some u)(Wi:∃u,h'.get? e=some u)(new:bg P w (upd H x o') h' x o'):N5 P w (upd H x o') h':=λb u q=>by
 have adh:∀c y,H c=some (.own y)->c≠x:=λc y r z=>by subst z;rw[r] at mu;exact mu
 have afe:∀c xs,H c=some (.tup xs)->c≠x:=λc xs r z=>by subst z;rw[r] at mu;exact mu
 by_cases hb:b=x
 .subst hb;rw[ag] at q;cases q;exact new
 .rw[ao hb] at q
  by_cases U':b=e
  .have q':H b=some (.own x):=by
    rcases he with z|z
    .exact Mw (U'.trans z) hb
    .rw[U'];exact z
   rw[q] at q';cases q';obtain⟨v,hv⟩:=Wi;exact⟨v,by rw[U'];exact hv⟩
  .refine(ok b u q).RA (λc v hc r=>k c v ?_ r) (λc r=>by rw[ao (adh c b r)];exact r) λc xs r=>by rw[ao (afe c xs r)];exact r
   rcases hc with rfl|hc
   .exact U'
   .rintro rfl;rcases he with z|z
    .exact adh c b hc z
    .rw[hc] at z;cases z;exact hb rfl
end
structure Un (fs ex:List D')(H H':Hp)(h h':Mp):Prop where
 keep:∀b o,h.get? b=some o->H b=none->b∉fs->b∉ex->h'.get? b=some o
 slot:∀b o,h.get? b=some o->H b=none->b∈fs->b∉ex->∃sl,h'.get? b=some { o with slots:=sl }
 free:∀b o,h.get? b=some o->H b=none->b∉ex->H' b=none
 there:∀b o,h.get? b=some o->b∉ex->∃o',h'.get? b=some o'
 OG:∀b xs,H b=some (.tup xs)->H' b=some (.tup xs)
 QF:∀b o u,H b=some (.NO o u)->H' b=some (.NO o u)
 QG:∀b ps,H b=some (.Pu ps)->∃more,H' b=some (.Pu (ps++more))
section
theorem Un.any (u:Un fs ex H H1 h h1)(q:h.get? b=some ob)(n:H b=none)(hx:b∉ex):∃sl,h1.get? b=some { ob with slots:=sl }:=by
 by_cases hb:b∈fs
 .exact u.slot b ob q n hb hx
 .exact⟨ob.slots,u.keep b ob q n hb hx⟩
theorem Un.kept (k:∀b u,h.get? b=some u->h'.get? b=some u):Un fs ex H H h h':=
 ⟨λb ob q _ _ _=>k b ob q,λb ob q _ _ _=>⟨ob.slots,k b ob q⟩,λ_ _ _ n _=>n,λb ob q _=>⟨ob,k b ob q⟩,λ_ _ q=>q,λ_ _ _ q=>q,λ_ ps q=>⟨#[],by rw[q];simp⟩⟩
theorem Un.refl:Un fs ex H H h h:=Un.kept λ_ _ q=>q
theorem Un.laid (k:∀b u,h.get? b=some u->h'.get? b=some u)(hp:h.objs.size<=a)(hn:H a=none):Un fs ex H (upd H a o) h h' where
 keep:=λb u q _ _ _=>k b u q
 slot:=λb u q _ _ _=>⟨u.slots,k b u q⟩
 free:=λb u q n _=>by rw[ao (M8 (NH (MS q) hp))];exact n
 there:=λb u q _=>⟨u,k b u q⟩
 OG:=λb xs q=>by rw[ao (aq q hn)];exact q
 QF:=λb u xs q=>by rw[ao (aq q hn)];exact q
 QG:=λb ps q=>⟨#[],by rw[ao (aq q hn),q];simp⟩
theorem Un.write (mu:Ym (H x))(he:e=x\/H e=some (.own x))(k:∀b u,b≠e->h.get? b=some u->h'.get? b=some u)(Wi:∃u,h'.get? e=some u):Un fs ex H (upd H x o) h h':=by
 have hx:∀b,H b=none->b≠x:=λb n z=>by subst z;rw[n] at mu;exact mu
 have hb:∀b,H b=none->b≠e:=λb n z=>by
  subst z;rcases he with r|r
  .exact hx b n r
  .rw[n] at r;cases r
 have hm:∀b u,H b=some u->¬Ym (some u)->b≠x:=λb u q nm z=>by subst z;rw[q] at mu;exact nm mu
 refine⟨λb u q n _ _=>k b u (hb b n) q,λb u q n _ _=>⟨u.slots,k b u (hb b n) q⟩,λb u q n _=>by rw[ao (hx b n)];exact n,λb u q _=>?_,
  λb xs q=>by rw[ao (hm b _ q λz=>z)];exact q,λb u xs q=>by rw[ao (hm b _ q λz=>z)];exact q,λb ps q=>⟨#[],by rw[ao (hm b _ q λz=>z),q];simp⟩⟩
 by_cases U':b=e
 .subst U';exact Wi
 .exact⟨u,k b u U' q⟩
end
def trk (h:Mp)(H:Hp):List D':=(Ox h.objs.size).filter λa=>(H a).isSome
def gO (h:Mp)(H:Hp):Mp:=Rx h (trk h H)
theorem xN (h)(H):(gO h H).objs.size=h.objs.size:=W.hideAll_size _ _
theorem Ai (e:h.get? b=some o)(n:H b=none):(gO h H).get? b=some o:=
 Tc _ e λhm=>by
  have q:(H b).isSome=true:=(O9.mp hm).2;rw[n] at q;simp at q
theorem Ci (e:(gO h H).get? b=some o):h.get? b=some o/\H b=none:=by
 have e':h.get? b=some o:=V4 (trk h H) e;refine⟨e',?_⟩;cases q:H b with
 | none=>rfl
 | some x=>
  have hm:b∈trk h H:=O9.mpr ⟨P8.mpr (MS e'),by simp[q]⟩;have z:(gO h H).get? b=none:=XG (trk h H) hm;rw[z] at e;cases e
structure Mod (K:Mi)(mg:Me->Option G')(base:Mp):Prop where
 Us:K.In base
 glob:base.Ns No mg
 blt:∃mb,base.Ns builtinsNs mb/\∀x:Me,x≠"__name__"->mb x=Pz x
 nolimit:base.NoLimit
structure Cx where
 prog:MD
 w:Mt
 K:Mi
 mg:Me->Option G'
 base:Mp
 A:ML
 N:List Me
 Nv:Md
 U4:Hp
 env:NK
 outer:List NK
 stack:List NK
 ex:List D'
 fn:Me->Bool
 calm:Bool
 pn:List (D'×Mc)
 xe:G'->Md->Prop
def Nq (l:List NK):List D':=l.filterMap (·.frame)
abbrev Cx.fs (X:Cx):List D':=Nq X.outer
def Yn (sc:OE)(x:Me):Prop:=sc.names.lookup x=some .local \/sc.names.lookup x=some .cell\/sc.names.lookup x=some .free
def Loc (sc:OE)(x:Me):Prop:=sc.names.lookup x=some .local \/sc.names.lookup x=some .cell
def DC (env:NK)(h:Mp)(m:Me->Option G')(x:Me)(u:G'):Prop:=
 (env.kindOf x=some .local /\m x=some u)\/((env.kindOf x=some .cell\/env.kindOf x=some .free)/\∃c,env.cells.lookup x=some c/\h.IsCell c (some u))
structure Cx.Ok (X:Cx):Prop where
 mod:Mod X.K X.mg X.base
 kind:X.env.scope.kind=.function
 glob:X.env.globals=No
 blt:X.env.builtins=builtinsNs
 above:X.Nv.heap.objs.size<=X.env.locals
 inj:∀x y c,X.env.cells.lookup x=some c->X.env.cells.lookup y=some c->x=y
 has:∀x,(X.env.kindOf x=some .cell\/X.env.kindOf x=some .free)->∃c,X.env.cells.lookup x=some c
 Ut:∀x c,X.fn x=true->X.env.cells.lookup x=some c->X.Nv.heap.objs.size<=c
 hd:X.calm=true->X.A.handled=none
 frames:X.A.frames=some X.stack
 Wj:X.stack=X.outer\/(X.stack=X.env::X.outer/\X.env.frame=some X.env.locals)
 exf:∀b∈X.ex,b≠X.env.locals/\∀x c,X.env.cells.lookup x=some c->c≠b
 bs:∀b o,X.base.get? b=some o->X.Nv.heap.get? b=some o/\X.U4 b=none
 R':X.base.objs.size<=X.Nv.heap.objs.size
 Qc:∀b o,X.base.get? b=some o->b∉X.ex
 Wg:∀b∈X.ex,b∉X.fs
 Qd:X.Nv.heap.FunFrames X.base X.outer
 Sb:∀b∈X.fs,X.U4 b=none
structure Inv (X:Cx)(aa:List (D'×Mc))(σ:List (Option V))(H:Hp)(s:Md):Prop where
 ok:X.Ok
 os:s.os=X.Nv.os
 bare:Sy s.gens
 base:Un X.fs X.ex X.U4 H X.Nv.heap s.heap
 loc:∃m,s.heap.Ns X.env.locals m/\∀(i:Nat) (x:Me) (v:V),X.N[i]?=some x->σ[i]?=some (some v)->Yn X.env.scope x->∃u,ax v u/\DC X.env s.heap m x u
 cell:∀x c,X.env.cells.lookup x=some c->∃v,s.heap.IsCell c v
 free:H X.env.locals=none
 Qp:∀x c,X.env.cells.lookup x=some c->H c=none
 pin:∀p∈X.pn++aa,s.heap.get? p.1=some p.2/\H p.1=none/\p.1≠X.env.locals/\p.1∉X.fs/\∀v,p.2.data≠.cell v
 My:N5 X.prog X.w H s.heap
 len:σ.length=X.N.length
section
variable {X:Cx} in
theorem Cx.Ok.aff (ok:X.Ok)(e:X.base.get? b=some o):b∉X.fs:=λhb=>by
 have:=(ok.Qd.mem hb).1;rw[e] at this;cases this
theorem Inv.bs (I:Inv X aa σ H s):∀b o,X.base.get? b=some o->s.heap.get? b=some o/\H b=none:=λb o e=>
 ⟨I.base.keep b o (I.ok.bs b o e).1 (I.ok.bs b o e).2 (I.ok.aff e) (I.ok.Qc b o e),I.base.free b o (I.ok.bs b o e).1 (I.ok.bs b o e).2 (I.ok.Qc b o e)⟩
theorem Inv.bk (I:Inv X aa σ H s):∀b o,X.base.get? b=some o->s.heap.get? b=some o:=λb o e=>(I.bs b o e).1
theorem Inv.mod (I:Inv X aa σ H s):Mod X.K X.mg X.base:=I.ok.mod
theorem Inv.NZ (I:Inv X aa σ H s):X.K.In s.heap:=I.ok.mod.Us.keeps I.bk
theorem Inv.lt (I:Inv X aa σ H s):X.env.locals<s.heap.objs.size:=let ⟨_,hn,_⟩:=I.loc;hn.lt
theorem Inv.sz (I:Inv X aa σ H s):X.Nv.heap.objs.size<=s.heap.objs.size:=OT I.ok.above (Uf I.lt)
theorem Inv.adi (I:Inv X aa σ H s){a:D'}(h:s.heap.objs.size<=a):a∉X.fs:=λhb=>by
 obtain⟨_,o,ho,_⟩:=I.ok.Qd.mem hb;exact Mw (NH (MS ho) (OT I.sz h)) (RX _)
theorem Inv.SF (I:Inv X aa σ H s):∀x c,X.env.cells.lookup x=some c->c≠X.env.locals:=λx c e z=>by
 obtain⟨v,o,ho,hd⟩:=I.cell x c e;obtain⟨m,⟨o',es,ep,OC,Rk,_⟩,_⟩:=I.loc;rw[z,OC] at ho;cases ho;rw[Rk] at hd;cases hd
theorem Inv.Qd (I:Inv X aa σ H s):s.heap.FunFrames X.base X.outer:=by
 have all:∀(l:List NK),(∀b∈Nq l,b∈X.fs)->X.Nv.heap.FunFrames X.base l->s.heap.FunFrames X.base l:=by
  intro l
  induction l with
  | nil=>intro _ _;trivial
  | cons env r ih=>
   intro hs hl;obtain⟨hk,⟨L,o,hf,hn,ho,hd⟩,hr⟩:=hl;have hL:L∈X.fs:=hs L (by unfold Nq;rw[QA,hf];exact MO);obtain⟨sl,e⟩:=I.base.slot L o ho (I.ok.Sb L hL) hL λz=>I.ok.Wg L z hL;exact⟨hk,⟨L,_,hf,hn,e,hd⟩,ih (λb hb=>hs b (by unfold Nq;rw[QA,hf];exact Na _ hb)) hr⟩
 exact all X.outer (λ_ hb=>hb) I.ok.Qd
theorem Inv.stack (I:Inv X aa σ H s):s.heap.FunFrames X.base X.stack:=by
 rcases I.ok.Wj with e|⟨e,hf⟩
 .rw[e];exact I.Qd
 .rw[e];obtain⟨m,hn,_⟩:=I.loc;refine .cons (by rw[I.ok.kind];decide) hf hn ?_ I.Qd;exact Mp.get?_none_of_le (OT I.ok.R' I.ok.above)
theorem Inv.Rf (I:Inv X aa σ H s):∀b∈Nq X.stack,b∈X.env.locals::X.fs:=λb hb=>by
 rcases I.ok.Wj with e|⟨e,hf⟩
 .rw[e] at hb;exact Na _ hb
 .rw[e] at hb;unfold Nq at hb;rw[QA,hf] at hb;exact hb
theorem Inv.ζ (I:Inv X aa σ H s):∀b∈Nq X.stack,H b=none:=λb hb=>by
 rcases M0.mp (I.Rf b hb) with e|hb
 .rw[e];exact I.free
 .obtain⟨_,o,ho,_⟩:=I.ok.Qd.mem hb;exact I.base.free b o ho (I.ok.Sb b hb) λz=>I.ok.Wg b z hb
variable {X:Cx}{aa:List (D'×Mc)}{σ:List (Option V)}{H:Hp}{H':Hp}{s:Md}{h':Mp} in
theorem Inv.step {g':Array Z8}{t':Nat}{d':Drawn}{ch:List D'}(I:Inv X aa σ H s)(OD:∀b∈ch,(b∈X.ex\/X.Nv.heap.objs.size<=b)/\b≠X.env.locals/\(∀x c,X.env.cells.lookup x=some c->c≠b)/\∀p∈X.pn++aa,p.1≠b)(keep:∀b o,b≠X.env.locals->b∉X.fs->b∉ch->s.heap.get? b=some o->H b=none->h'.get? b=some o)(slot:∀b o,b≠X.env.locals->b∈X.fs->b∉ch->s.heap.get? b=some o->H b=none->∃sl,h'.get? b=some { o with slots:=sl })(free:∀b o,b∉ch->s.heap.get? b=some o->H b=none->H' b=none)(there:∀b o,b∉ch->s.heap.get? b=some o->∃o',h'.get? b=some o')(OG:∀b xs,H b=some (.tup xs)->H' b=some (.tup xs))(QF:∀b o u,H b=some (.NO o u)->H' b=some (.NO o u))(QG:∀b ps,H b=some (.Pu ps)->∃more,H' b=some (.Pu (ps++more)))(ns:∀m,s.heap.Ns X.env.locals m->h'.Ns X.env.locals m)(My:N5 X.prog X.w H' h')(hg:Sy g'):
  Inv X aa σ H' { s with heap:=h',gens:=g',drawn:=d',toks:=t' }:=by
 have Sc:∀b o,X.Nv.heap.get? b=some o->b≠X.env.locals:=λb o e=>M8 (NH (MS e) I.ok.above);have Pj:∀b o,X.Nv.heap.get? b=some o->b∉X.ex->b∉ch:=λb o e hx hb=>by
  rcases(OD b hb).1 with z|z
  .exact hx z
  .exact Mw (NH (MS e) z) (RX _)
 have cellK:∀x c,X.env.cells.lookup x=some c->∀v,s.heap.IsCell c v->h'.IsCell c v:=λx c e v ⟨o,ho,hd⟩=>by
  have Uu:c∉ch:=λz=>(OD c z).2.2.1 x c e rfl
  by_cases hc:c∈X.fs
  .obtain⟨sl,q⟩:=slot c o (I.SF x c e) hc Uu ho (I.Qp x c e);exact⟨_,q,hd⟩
  .exact⟨o,keep c o (I.SF x c e) hc Uu ho (I.Qp x c e),hd⟩
 refine⟨I.ok,I.os,hg,⟨λb o e n hb hx=>?_,λb o e n hb hx=>?_,λb o e n hx=>?_,λb o e hx=>?_,λb xs e=>OG b xs (I.base.OG b xs e),λb o xs e=>QF b o xs (I.base.QF b o xs e),λb ps e=>?_⟩,?_,λx c e=>?_,?_,λx c e=>?_,λp hp=>?_,My,I.len⟩
 .exact keep b o (Sc b o e) hb (Pj b o e hx) (I.base.keep b o e n hb hx) (I.base.free b o e n hx)
 .obtain⟨sl,e1⟩:=I.base.slot b o e n hb hx;obtain⟨Va,e2⟩:=slot b _ (Sc b o e) hb (Pj b o e hx) e1 (I.base.free b o e n hx);exact⟨Va,e2⟩
 .obtain⟨o',e1⟩:=I.base.there b o e hx;exact free b o' (Pj b o e hx) e1 (I.base.free b o e n hx)
 .obtain⟨o',e1⟩:=I.base.there b o e hx;exact there b o' (Pj b o e hx) e1
 .obtain⟨m1,e1⟩:=I.base.QG b ps e;obtain⟨m2,e2⟩:=QG b _ e1;exact⟨m1++m2,by rw[e2,Array.append_assoc]⟩
 .obtain⟨m,hn,hl⟩:=I.loc;refine⟨m,ns m hn,λi x v e1 e2 e3=>?_⟩;obtain⟨u,r,l⟩:=hl i x v e1 e2 e3;refine⟨u,r,?_⟩;rcases l with l|⟨k,c,e,z⟩
  .exact .inl l
  .exact .inr ⟨k,c,e,cellK x c e _ z⟩
 .obtain⟨v,z⟩:=I.cell x c e;exact⟨v,cellK x c e v z⟩
 .obtain⟨m,⟨o,_,_,ho,_⟩,_⟩:=I.loc;exact free _ o (λz=>(OD _ z).2.1 rfl) ho I.free
 .obtain⟨v,o,ho,hd⟩:=I.cell x c e;exact free c o (λz=>(OD c z).2.2.1 x c e rfl) ho (I.Qp x c e)
 .obtain⟨e,n,ne,nf,d⟩:=I.pin p hp;have Uu:p.1∉ch:=λz=>(OD p.1 z).2.2.2 p hp rfl;exact⟨keep p.1 p.2 ne nf Uu e n,free p.1 p.2 Uu e n,ne,nf,d⟩
theorem Inv.un {t':Nat}(I:Inv X aa σ H s)(u:Un X.fs [] H H' s.heap h')(My:N5 X.prog X.w H' h'):Inv X aa σ H' { s with heap:=h',toks:=t' }:=by
 obtain⟨m,⟨o,es,ep,ho,r⟩,_⟩:=id I.loc;obtain⟨sl,hL⟩:=u.any ho I.free (by simp);exact I.step (g':=s.gens) (d':=s.drawn) (ch:=[]) (λ_ z=>nomatch z) (λb o _ hb _ e n=>u.keep b o e n hb (by simp)) (λb o _ hb _ e n=>u.slot b o e n hb (by simp)) (λb o _ e n=>u.free b o e n (by simp)) (λb o _ e=>u.there b o e (by simp)) u.OG u.QF u.QG (λm' hm=>by
  obtain⟨o',OI,QK,OC,r'⟩:=hm;rw[ho] at OC;cases OC;exact⟨_,OI,QK,hL,r'⟩) My I.bare
theorem Inv.call {t':Nat}{d':Drawn}(I:Inv X aa σ H s)(u:Un (Nq X.stack) ch H H' s.heap h')(My:N5 X.prog X.w H' h')(hg:Sy g')(OD:∀b∈ch,(b∈X.ex\/X.Nv.heap.objs.size<=b)/\b≠X.env.locals/\(∀x c,X.env.cells.lookup x=some c->c≠b)/\∀p∈X.pn++aa,p.1≠b):
  Inv X aa σ H' { s with heap:=h',gens:=g',drawn:=d',toks:=t' }:=by
 obtain⟨m,⟨o,es,ep,ho,r⟩,_⟩:=id I.loc;obtain⟨sl,hL⟩:=u.any ho I.free λz=>(OD _ z).2.1 rfl;exact I.step (ch:=ch) OD (λb o hL hb hc e n=>u.keep b o e n (λz=>(M0.mp (I.Rf b z)).elim hL hb) hc) (λb o _ _ hc e n=>u.any e n hc) (λb o hc e n=>u.free b o e n hc) (λb o hc e=>u.there b o e hc) u.OG u.QF u.QG (λm' hm=>by
  obtain⟨o',OI,QK,OC,r'⟩:=hm;rw[ho] at OC;cases OC;exact⟨_,OI,QK,hL,r'⟩) My hg
theorem Inv.turned {t':Nat}(I:Inv X aa σ H s)(k:∀b o,b≠it->s.heap.get? b=some o->h'.get? b=some o)(hn:H it=none)(hL:it≠X.env.locals)(h1:it∈X.ex\/X.Nv.heap.objs.size<=it)(h2:∀x c,X.env.cells.lookup x=some c->c≠it)(h3:∀p∈X.pn++aa,p.1≠it):Inv X aa σ H { s with heap:=h',toks:=t' }:=by
 have nit:∀b u,H b=some u->b≠it:=λb u e z=>by rw[z,hn] at e;cases e
 refine I.step (g':=s.gens) (d':=s.drawn) (ch:=[it]) (λb hb=>?_) (λb o _ _ hc e _=>k b o (λz=>hc (by simp[z])) e) (λb o _ _ hc e _=>⟨o.slots,k b o (λz=>hc (by simp[z])) e⟩) (λ_ _ _ _ n=>n)
  (λb o hc e=>⟨o,k b o (λz=>hc (by simp[z])) e⟩) (λ_ _ e=>e) (λ_ _ _ e=>e) (λb ps e=>⟨#[],by rw[e];simp⟩) (λm hm=>?_) (λb u e=>?_) I.bare
 .have e:b=it:=by simpa using hb
  subst e;exact⟨h1,hL,h2,h3⟩
 .obtain⟨o,es,ep,ho,r⟩:=hm;exact⟨o,es,ep,k _ o (M' hL) ho,r⟩
 .refine(I.My b u e).RA (λc v hc q=>k c v ?_ q) (λ_ q=>q) λ_ _ q=>q;rcases hc with z|z
  .rw[z];exact nit b u e
  .exact nit c _ z
theorem Inv.tok (I:Inv X aa σ H s)(t:Nat):Inv X aa σ H { s with toks:=t }:=I.un (h':=s.heap) (t':=t) Un.refl I.My
theorem Inv.kept {t':Nat}(I:Inv X aa σ H s)(k:∀b u,s.heap.get? b=some u->h'.get? b=some u):Inv X aa σ H { s with heap:=h',toks:=t' }:=I.un (Un.kept k) (I.My.kept k)
theorem Inv.laid {a:D'}{t':Nat}(I:Inv X aa σ H s)(k:∀b u,s.heap.get? b=some u->h'.get? b=some u)(hp:s.heap.objs.size<=a)(new:bg X.prog X.w (upd H a o) h' a o):
  Inv X aa σ (upd H a o) { s with heap:=h',toks:=t' }:=I.un (Un.laid k hp (I.My.fresh hp)) (I.My.laid k hp new)
theorem Inv.write {t':Nat}(I:Inv X aa σ H s)(mu:Ym (H x))(he:e=x\/H e=some (.own x))(k:∀b u,b≠e->s.heap.get? b=some u->h'.get? b=some u)(Wi:∃u,h'.get? e=some u)(new:bg X.prog X.w (upd H x o) h' x o):Inv X aa σ (upd H x o) { s with heap:=h',toks:=t' }:=I.un (Un.write mu he k Wi) (I.My.write mu he k Wi new)
theorem Inv.Uk {Tm:List (D'×Mc)}(I:Inv X aa σ H s)(h:∀p∈Tm,s.heap.get? p.1=some p.2/\H p.1=none/\p.1≠X.env.locals/\p.1∉X.fs/\∀v,p.2.data≠.cell v):Inv X Tm σ H s:=
 ⟨I.ok,I.os,I.bare,I.base,I.loc,I.cell,I.free,I.Qp,λp hp=>(Ny.mp hp).elim (λz=>I.pin p (P6 _ z)) (h p),I.My,I.len⟩
theorem lU {N:List Me}(hN:N.Nodup){i j:Nat}{x:Me}(a:N[i]?=some x)(b:N[j]?=some x):i=j:=by
 obtain⟨h1,e1⟩:=NP.mp a;obtain⟨h2,e2⟩:=NP.mp b;exact(List.getElem_inj hN).mp (e1.trans e2.symm)
theorem jL (I:Inv X aa σ H s)(hN:X.N.Nodup)(hi:X.N[i]?=some x)(hx:Loc X.env.scope x)(r:ax v u)(h:∀s',Inv X aa (σ.set i (some v)) H s'->(∃a,QY a s.heap s'.heap/\(a=X.env.locals\/X.env.cells.lookup x=some a))->Q () s')(hf:X.fn x=true\/X.env.scope.names.lookup x=some .local :=by first|exact .inl rfl|exact .inr rfl|assumption):Ml M A (storeName X.env x u) Q E s:=by
 obtain⟨m,hn,hl⟩:=id I.loc;have afg:(X.env.scope.kind==.class ||(X.env.scope.kind==.module&&X.env.locals != X.env.globals))=false:=by rw[I.ok.kind];rfl
 have ρ:i<σ.length:=by rw[I.len];exact(NP.mp hi).1
 have SF:=I.SF;have tracked:∀{a:D'}{h':Mp},(∃o,s.heap.get? a=some o/\H a=none)->QY a s.heap h'->N5 X.prog X.w H h':=λ{a h'} ha hs b ob e=>by
  obtain⟨_,_,ac6⟩:=ha;refine(I.My b ob e).RA (λc w' hc q=>(hs.2 c ?_).trans q) (λ_ q=>q) λ_ _ q=>q;rintro rfl;rcases hc with rfl|hc
  .rw[ac6] at e;cases e
  .rw[ac6] at hc;cases hc
 rcases hx with hk|hk
 .refine wpAny_storeName_local hk hn (λh' hn' hs=>?_) afg;obtain⟨oL,_,_,hoL,_⟩:=id hn;refine h _ ⟨I.ok,I.os,I.bare,⟨λb o e n hb hx=>?_,λb o e n hb hx=>?_,I.base.free,λb o e hx=>?_,I.base.OG,I.base.QF,I.base.QG⟩,⟨_,hn',λj y v' e1 e2 e3=>?_⟩,λy c e=>?_,I.free,I.Qp,λp hp=>?_,tracked ⟨oL,hoL,I.free⟩ hs,by simpa using I.len⟩ ⟨_,hs,.inl rfl⟩
  .exact(hs.2 b (M8 (NH (MS e) I.ok.above))).trans (I.base.keep b o e n hb hx)
  .obtain⟨sl,e1⟩:=I.base.slot b o e n hb hx;exact⟨sl,(hs.2 b (M8 (NH (MS e) I.ok.above))).trans e1⟩
  .obtain⟨o',e1⟩:=I.base.there b o e hx;exact⟨o',(hs.2 b (M8 (NH (MS e) I.ok.above))).trans e1⟩
  .by_cases hj:j=i
   .subst hj;rw[hi] at e1;cases e1;rw[ab0 ρ] at e2;cases e2;exact⟨u,r,.inl ⟨hk,by simp⟩⟩
   .rw[acf (M' hj)] at e2;obtain⟨u',r',q⟩:=hl j y v' e1 e2 e3;refine⟨u',r',?_⟩;rcases q with⟨k,e⟩|⟨k,c,e,z⟩
    .refine .inl ⟨k,?_⟩;have:y≠x:=λe=>hj (lU hN e1 (e▸hi));simp[this,e]
    .exact .inr ⟨k,c,e,z.sameBut hs (SF y c e)⟩
  .obtain⟨w',z⟩:=I.cell y c e;exact⟨w',z.sameBut hs (SF y c e)⟩
  .obtain⟨e,n,ne,nf,d⟩:=I.pin p hp;exact⟨(hs.2 p.1 ne).trans e,n,ne,nf,d⟩
 .have Yo:X.fn x=true:=by
   rcases hf with z|z
   .exact z
   .rw[z] at hk;cases hk
  obtain⟨c,hc⟩:=I.ok.has x (.inl hk);obtain⟨w',z⟩:=I.cell x c hc;refine wpAny_storeName_cell I.ok.kind hk hc z (λh' Vb hs=>?_);obtain⟨oc,Yp,afh⟩:=id z;refine h { s with heap:=h' } ⟨I.ok,I.os,I.bare,⟨λb o e n hb hx=>?_,λb o e n hb hx=>?_,I.base.free,λb o e hx=>?_,I.base.OG,I.base.QF,I.base.QG⟩,⟨m,hn.sameBut hs (M' (SF x c hc)),λj y v' e1 e2 e3=>?_⟩,λy c' e=>?_,I.free,I.Qp,λp hp=>?_,tracked ⟨oc,Yp,I.Qp x c hc⟩ hs,by simpa using I.len⟩ ⟨c,hs,.inr hc⟩
  .exact(hs.2 b (M8 (NH (MS e) (I.ok.Ut x c Yo hc)))).trans (I.base.keep b o e n hb hx)
  .obtain⟨sl,e1⟩:=I.base.slot b o e n hb hx;exact⟨sl,(hs.2 b (M8 (NH (MS e) (I.ok.Ut x c Yo hc)))).trans e1⟩
  .obtain⟨o',e1⟩:=I.base.there b o e hx;exact⟨o',(hs.2 b (M8 (NH (MS e) (I.ok.Ut x c Yo hc)))).trans e1⟩
  .by_cases hj:j=i
   .subst hj;rw[hi] at e1;cases e1;rw[ab0 ρ] at e2;cases e2;exact⟨u,r,.inr ⟨.inl hk,c,hc,Vb⟩⟩
   .rw[acf (M' hj)] at e2;obtain⟨u',r',q⟩:=hl j y v' e1 e2 e3;refine⟨u',r',?_⟩;rcases q with q|⟨k,c',e,z'⟩
    .exact .inl q
    .refine .inr ⟨k,c',e,z'.sameBut hs ?_⟩;rintro rfl;exact hj (lU hN e1 (I.ok.inj _ _ _ e hc▸hi))
  .by_cases hcc:c'=c
   .subst hcc;exact⟨_,Vb⟩
   .obtain⟨w2,z2⟩:=I.cell y c' e;exact⟨w2,z2.sameBut hs hcc⟩
  .obtain⟨e,n,ne,nf,d⟩:=I.pin p hp;refine⟨(hs.2 p.1 ?_).trans e,n,ne,nf,d⟩;intro q;rw[q,Yp] at e;have q':oc=p.2:=Rv e;exact d w' (by rw[<-q'];exact afh)
theorem fS (I:Inv X aa σ H s)(hN:X.N.Nodup)(hi:X.N[i]?=some x)(hx:Loc X.env.scope x)(r:ax v u)(h:∀s',Inv X aa (σ.set i (some v)) H s'->Q () s')(hf:X.fn x=true\/X.env.scope.names.lookup x=some .local :=by first|exact .inl rfl|exact .inr rfl|assumption):Ml M A (storeName X.env x u) Q E s:=
 jL I hN hi hx r (λs' I' _=>h s' I') hf
theorem Inv.XZ (I:Inv X aa σ H s)(ho:s'.os=s.os)(u:Un (Nq X.stack) ch H H' s.heap s'.heap)(My:N5 X.prog X.w H' s'.heap)(hg:Sy s'.gens)(OD:∀b∈ch,(b∈X.ex\/X.Nv.heap.objs.size<=b)/\b≠X.env.locals/\(∀x c,X.env.cells.lookup x=some c->c≠b)/\∀p∈X.pn++aa,p.1≠b):Inv X aa σ H' s':=by
 obtain⟨h',g',d',t',o'⟩:=s';have e:o'=s.os:=ho;subst e;exact I.call (g':=g') (t':=t') (d':=d') u My hg OD
end
abbrev XK:=G'->Option D'->Hp->Prop
abbrev St:=List (Option V)
abbrev VK:=V->Hp->Prop
abbrev TE:=St->Hp->VK->Prop
abbrev TT:=St->Hp->(Bool->Hp->Prop)->Prop
abbrev TA:=St->Hp->(List V->Hp->Prop)->Prop
structure Ends where
 nx:St->Hp->Prop
 rt:VK
 bk:St->Hp->Prop:=λ_ _=>False
 ct:St->Hp->Prop:=λ_ _=>False
abbrev TS:=Ends->St->Hp->Prop
def EP (X:Cx)(aa:List (D'×Mc))(σ:St)(Q:VK)(u:G')(s':Md):Prop:=∃v H',Inv X aa σ H' s'/\ax v u/\Q v H'
def TP (X:Cx)(aa:List (D'×Mc))(σ:St)(Q:Bool->Hp->Prop)(b:Bool)(s':Md):Prop:=∃H',Inv X aa σ H' s'/\Q b H'
def AP (X:Cx)(aa:List (D'×Mc))(σ:St)(Q:List V->Hp->Prop)(us:List G')(s':Md):Prop:=∃vs H',Inv X aa σ H' s'/\aw vs us/\Q vs H'
def SP (X:Cx)(aa:List (D'×Mc))(D:Ends)(f:Flow)(s':Md):Prop:=
 match f with
 | .next=>∃MP H',Inv X aa MP H' s'/\D.nx MP H'
 | .brk=>∃MP H',Inv X aa MP H' s'/\D.bk MP H'
 | .cont=>∃MP H',Inv X aa MP H' s'/\D.ct MP H'
 | .ret u=>∃v MP H',Inv X aa MP H' s'/\ax v u/\D.rt v H'
def PE (X:Cx)(e:MK)(t:TE):Prop:=
 ∀(aa:List (D'×Mc)) (s:Md) (σ:St) (H:Hp) (Q:VK),Inv X aa σ H s->t σ H Q->Ml (Mr X.prog X.w) X.A (eval e X.env) (EP X aa σ Q) X.xe s
def PT (X:Cx)(e:MK)(t:TT):Prop:=
 ∀(aa:List (D'×Mc)) (s:Md) (σ:St) (H:Hp) (Q:Bool->Hp->Prop),Inv X aa σ H s->t σ H Q->Ml (Mr X.prog X.w) X.A (isTrue e X.env (eval e X.env)) (TP X aa σ Q) X.xe s
def PW (X:Cx)(e:MK)(t:TT):Prop:=
 ∀(whole:Pb G') (aa:List (D'×Mc)) (s:Md) (σ:St) (H:Hp) (Q:Bool->Hp->Prop),Inv X aa σ H s->t σ H Q->Ml (Mr X.prog X.w) X.A (isTrue e X.env whole) (TP X aa σ Q) X.xe s
theorem PW.pt (h:PW X e t):PT X e t:=h _
def PA (X:Cx)(es:List MK)(t:TA):Prop:=
 ∀(pos:Ni) (aa:List (D'×Mc)) (s:Md) (σ:St) (H:Hp) (Q:List V->Hp->Prop),Inv X aa σ H s->t σ H Q->Ml (Mr X.prog X.w) X.A (spliced (backTo pos (NM es X.env))) (AP X aa σ Q) X.xe s
def PS (X:Cx)(st:Mv)(t:TS):Prop:=
 ∀(aa:List (D'×Mc)) (s:Md) (σ:St) (H:Hp) (D:Ends),Inv X aa σ H s->t D σ H->Ml (Mr X.prog X.w) X.A (exec st X.env) (SP X aa D) X.xe s
def PY (X:Cx)(st:List Mv)(t:TS):Prop:=
 ∀(aa:List (D'×Mc)) (s:Md) (σ:St) (H:Hp) (D:Ends),Inv X aa σ H s->t D σ H->Ml (Mr X.prog X.w) X.A (execs st X.env) (SP X aa D) X.xe s
theorem ME {α:Type}{t:Pb α}{Q Q':α->Md->Prop}{M:Tl}{A:ML}{E:G'->Md->Prop}{s:Md}(h:Ml M A t Q E s)(hQ:∀a s,Q a s->Q' a s):Ml M A t Q' E s:=QZ h hQ λ_ _ x=>x
section
def dF (i:Nat):TE:=λσ H Q=>∃v,σ[i]?=some (some v)/\Q v H
def tC (v:V):TE:=λ_ H Q=>Q v H
theorem xO (hN:X.N[i]?=some x)(hv:Yn X.env.scope x)(hd:(x==("__debug__":Me))=false:=by decide)(O6:(x==("__classdict__":Me))=false:=by decide):PE X (.Name x pos) (dF i):=by
 intro aa s σ H Q I h;obtain⟨v,e,h⟩:=h;obtain⟨m,hn,hl⟩:=I.loc;obtain⟨u,r,l⟩:=hl i x v hN e hv;have fin:EP X aa σ Q u s:=⟨v,H,I,r,h⟩
 rcases l with⟨hk,hm⟩|⟨hk,c,hc,ac7⟩
 .exact wpAny_Name (wpAny_loadName_local I.ok.kind hk hn hm fin) hd
 .rcases hk with hk|hk
  .exact wpAny_Name (wpAny_loadName_cell I.ok.kind hk hc ac7 fin) hd
  .exact wpAny_Name (wpAny_loadName_free I.ok.kind hk hc ac7 fin O6) hd
theorem ap {i j pos}:PE X (.Constant (.int i) j pos) (tC (.int i)):=λ_ _ _ H _ I h=>wpAny_Constant_int ⟨.int i,H,I.tok _,⟨_,rfl⟩,h⟩
theorem mR {b j pos}:PE X (.Constant (.bool b) j pos) (tC (.bl b)):=λ_ _ _ H _ I h=>Constant_bool ⟨.bl b,H,I,rfl,h⟩
theorem gP {j pos}:PE X (.Constant .none j pos) (tC .MV):=λ_ _ _ H _ I h=>Constant_none ⟨.MV,H,I,rfl,h⟩
theorem aU {x j pos}:PE X (.Constant (.str x) j pos) (tC (.str x)):=λ_ _ _ H _ I h=>aey ⟨.str x,H,I.tok _,⟨_,rfl⟩,h⟩
def Gl (X:Cx)(x:Me):Prop:=X.env.kindOf x=some .globalImplicit
theorem gJ {σ:St}(I:Inv X aa σ H s)(hg:Gl X x)(hm:X.mg x=some u)(h:Q u s)(hd:(x==("__debug__":Me))=false:=by decide):Ml (Mr X.prog X.w) X.A (eval (.Name x pos) X.env) Q E s:=
 adQ I.ok.kind hg (Calls.loadGlobal_global (by rw[I.ok.glob];exact I.mod.glob.keeps I.bk) hm h) hd
theorem mS {σ:St}(I:Inv X aa σ H s)(hg:Gl X x)(hm:X.mg x=none)(hv:Pz x=some u)(h:Q u s)(hn:x≠"__name__":=by decide)(hd:(x==("__debug__":Me))=false:=by decide):Ml (Mr X.prog X.w) X.A (eval (.Name x pos) X.env) Q E s:=by
 obtain⟨mb,h1,h2⟩:=I.mod.blt;exact adQ I.ok.kind hg (Calls.loadGlobal_builtin (by rw[I.ok.glob];exact I.mod.glob.keeps I.bk) hm (by rw[I.ok.blt];exact h1.keeps I.bk) ((h2 x hn).trans hv) h) hd
theorem aH (hg:Gl X x)(hm:X.mg x=some u)(r:ax v u)(hd:(x==("__debug__":Me))=false:=by decide):PE X (.Name x pos) (tC v):=
 λ_ _ _ H _ I h=>gJ I hg hm ⟨v,H,I,r,h⟩ hd
theorem eB (hg:Gl X x)(hm:X.mg x=none)(hv:Pz x=some u)(r:ax v u)(hn:x≠"__name__":=by decide)(hd:(x==("__debug__":Me))=false:=by decide):PE X (.Name x pos) (tC v):=
 λ_ _ _ H _ I h=>mS I hg hm hv ⟨v,H,I,r,h⟩ hn hd
def PC (X:Cx)(op:CmpOp)(a b:MK)(t:TE):Prop:=
 ∀(aa:List (D'×Mc)) (s:Md) (σ:St) (H:Hp) (Q:VK),Inv X aa σ H s->t σ H Q->
  Ml (Mr X.prog X.w) X.A (eval a X.env) (λv MN=>Ml (Mr X.prog X.w) X.A (eval b X.env) (λu M1=>Ml (Mr X.prog X.w) X.A (OM op v u) (EP X aa σ Q) X.xe M1) X.xe MN) X.xe s
def tB (t:TE):TT:=λσ H Q=>t σ H λx H1=>∃c,x=.bl c/\Q c H1
theorem xP (h:PC X op a b t)(h1:behindInMarks op b=false:=by first|exact af2 _ (by decide) (by decide)|rfl):PT X (.Compare a [op] [b] pos) (tB t):=by
 intro aa s σ H Q I hw;refine wpAny_isTrue_Compare1 (ME (h aa s σ H _ I hw) λv s1 h1=>ME h1 λu s2 h2=>ME h2 λc s3 ⟨x,H1,I1,r1,q1⟩=>?_) h1;obtain⟨d,rfl,q⟩:=q1;cases r1;exact Q9 ⟨H1,I1,q⟩
theorem dZ (h:PE X e t)(he:∀whole,isTrue e X.env whole=(do let v <-whole;standAt e.pos;holding [v] (truthy v)):=by intro _;rfl):PT X e (tB t):=by
 intro aa s σ H Q I hw;refine isTrue_plain (ME (h aa s σ H _ I hw) λv s1 ⟨x,H1,I1,r1,q1⟩=>?_) (he _);obtain⟨d,rfl,q⟩:=q1;cases r1;exact Q9 ⟨H1,I1,q⟩
def wj (t u:TT):TT:=λσ H Q=>t σ H λc H1=>if c=true then u σ H1 Q else Q false H1
def tOr (t u:TT):TT:=λσ H Q=>t σ H λc H1=>if c=true then Q true H1 else u σ H1 Q
def IM (t:TT):TT:=λσ H Q=>t σ H λc H1=>Q (!c) H1
theorem vc (ha:PT X a tA):PW X (.BoolOp .And [a] pos) tA:=by
 intro wh aa s σ H Q I h;refine isTrue_and (ME (ha aa s σ H Q I h) λc s1 e=>?_);cases c with
 | true=>exact isTrue_and_nil e
 | false=>exact e
theorem iM (ha:PT X a tA):PW X (.BoolOp .Or [a] pos) tA:=by
 intro wh aa s σ H Q I h;refine isTrue_or (ME (ha aa s σ H Q I h) λc s1 e=>?_);cases c with
 | false=>exact isTrue_or_nil e
 | true=>exact e
theorem xQ (ha:PT X a tA)(hb:PW X (.BoolOp .And (b::rest) pos) tB'):PW X (.BoolOp .And (a::b::rest) pos) (wj tA tB'):=by
 intro wh aa s σ H Q I h;refine isTrue_and (ME (ha aa s σ H _ I h) λc s1 ⟨H1,I1,q1⟩=>?_);cases c with
 | true=>exact hb wh aa s1 σ H1 Q I1 q1
 | false=>exact⟨H1,I1,q1⟩
theorem kJ (ha:PT X a tA)(hb:PW X (.BoolOp .Or (b::rest) pos) tB'):PW X (.BoolOp .Or (a::b::rest) pos) (tOr tA tB'):=by
 intro wh aa s σ H Q I h;refine isTrue_or (ME (ha aa s σ H _ I h) λc s1 ⟨H1,I1,q1⟩=>?_);cases c with
 | true=>exact⟨H1,I1,q1⟩
 | false=>exact hb wh aa s1 σ H1 Q I1 q1
theorem cW (ha:PT X a tA):PT X (.UnaryOp .Not a pos) (IM tA):=by
 intro aa s σ H Q I h;exact isTrue_not (ha aa s σ H (λc H1=>Q (!c) H1) I h)
def Hn (ta tb:TE):TE:=λσ H Q=>ta σ H λx H1=>∃c,x=.bl c/\if c=true then tb σ H1 Q else Q (.bl false) H1
def IO (ta tb:TE):TE:=λσ H Q=>ta σ H λx H1=>∃c,x=.bl c/\if c=true then Q (.bl true) H1 else tb σ H1 Q
def Ho (ta:TE):TE:=λσ H Q=>ta σ H λx H1=>∃c,x=.bl c/\Q (.bl (!c)) H1
theorem jM {op}(h:PE X a t):PE X (.BoolOp op [a] pos) t:=λaa s σ H Q I hw=>BoolOp_one (h aa s σ H Q I hw)
theorem iO (ha:PE X a ta)(hb:PE X (.BoolOp .And (b::rest) pos) tb):PE X (.BoolOp .And (a::b::rest) pos) (Hn ta tb):=by
 intro aa s σ H Q I h;refine BoolOp_and (ME (ha aa s σ H _ I h) λv s1 ⟨x,H1,I1,r1,q1⟩=>?_);obtain⟨c,rfl,q1⟩:=q1;cases r1;refine Q9 ?_;cases c with
 | true=>exact hb aa s1 σ H1 Q I1 q1
 | false=>exact⟨.bl false,H1,I1,rfl,q1⟩
theorem Hq (ha:PE X a ta)(hb:PE X (.BoolOp .Or (b::rest) pos) tb):PE X (.BoolOp .Or (a::b::rest) pos) (IO ta tb):=by
 intro aa s σ H Q I h;refine BoolOp_or (ME (ha aa s σ H _ I h) λv s1 ⟨x,H1,I1,r1,q1⟩=>?_);obtain⟨c,rfl,q1⟩:=q1;cases r1;refine Q9 ?_;cases c with
 | false=>exact hb aa s1 σ H1 Q I1 q1
 | true=>exact⟨.bl true,H1,I1,rfl,q1⟩
theorem DD (ha:PE X a ta):PE X (.UnaryOp .Not a pos) (Ho ta):=by
 intro aa s σ H Q I h;refine UnaryOp_ (ME (ha aa s σ H _ I h) λv s1 ⟨x,H1,I1,r1,q1⟩=>?_);obtain⟨c,rfl,q1⟩:=q1;cases r1;exact not_of (Q9 ⟨.bl (!c),H1,I1,rfl,q1⟩)
def tIf (t:TT)(ta tb:TE):TE:=λσ H Q=>t σ H λc H1=>if c=true then ta σ H1 Q else tb σ H1 Q
theorem jd (hc:PT X c tA)(ha:PE X a ta)(hb:PE X b tb):PE X (.IfExp c a b pos) (tIf tA ta tb):=by
 intro aa s σ H Q I h;refine wpAny_IfExp (ME (hc aa s σ H _ I h) λd s1 ⟨H1,I1,q1⟩=>?_);cases d with
 | true=>exact ha aa s1 σ H1 Q I1 q1
 | false=>exact hb aa s1 σ H1 Q I1 q1
end
def MA (K:Mi)(H:Hp)(a:D')(xs:List V):Prop:=
 Rd H a (.lst xs)\/
  ∃(o:Mc) (Mh:Array G') (n:Nat),K.lookup a=some o/\o.cls=.type "list"/\o.dict=none/\o.data=.seq Mh n/\Mh.size<=Mz/\aw xs Mh.toList
def MR (K:Mi)(H:Hp)(a:D')(xs:List V):Prop:=
 Rd H a (.tup xs)\/
  ∃(o:Mc) (Mh:Array G') (n:Nat),K.lookup a=some o/\o.cls=.type "tuple"/\o.data=.seq Mh n/\Mh.size<=Mz/\aw xs Mh.toList/\o.dict=none
def IP:G'->Option V
 | .none=>some .MV
 | .bool b=>some (.bl b)
 | .int i _=>some (.int i)
 | .str x _=>some (.str x)
 | .bytes b _=>some (.Q1 b)
 | .float b _=>some (.U9 b)
 | .ref a=>some (.ref a)
 | .type n=>some (.ty n)
 | _=>none
theorem ax.abs (r:ax x u):IP u=some x:=by
 cases x with
 | MV=>cases r;rfl
 | bl _=>cases r;rfl
 | int _=>obtain⟨t,rfl⟩:=r;rfl
 | str _=>obtain⟨t,rfl⟩:=r;rfl
 | Q1 _=>obtain⟨t,rfl⟩:=r;rfl
 | U9 _=>obtain⟨t,rfl⟩:=r;rfl
 | ref _=>cases r;rfl
 | ty _=>cases r;rfl
theorem ax.inj (r:ax x u)(q:ax y u):x=y:=Rv (r.abs.symm.trans q.abs)
theorem aw.inj:∀{xs ys:List V}{us:List G'},aw xs us->aw ys us->xs=ys
 | _,_,_,.nil,.nil=>rfl
 | _,_,_,.cons r t,.cons r' t'=>by rw[r.inj r',aw.inj t t']
section
theorem MA.of {K:Mi}(h:H a=some (.lst xs)):MA K H a xs:=.inl (.inl h)
theorem MR.of {K:Mi}(h:H a=some (.tup xs)):MR K H a xs:=.inl (.inl h)
variable {σ:St} in
theorem Inv.list (I:Inv X aa σ H s)(h:MA X.K H a xs):∃Mh:List G',aw xs Mh/\PlainL s.heap a Mh.toArray/\xs.length<=Mz:=by
 rcases h with h|⟨o,Mh,n,hk,hc,hd,hs,hz,r⟩
 .obtain⟨z,Mh,n,r,e⟩:=h.ok I.My;exact⟨Mh,r,⟨_,n,e,rfl,rfl,rfl⟩,z⟩
 .refine⟨Mh.toList,r,⟨o,n,I.NZ a o hk,hc,hd,by simpa using hs⟩,?_⟩;have e:=r.length;simp only[Od] at e;lia
variable {σ:St} in
theorem Inv.tuple (I:Inv X aa σ H s)(h:MR X.K H a xs):∃Mh:List G',aw xs Mh/\IsTup s.heap a Mh.toArray/\xs.length<=Mz:=by
 rcases h with h|⟨o,Mh,n,hk,hc,hs,hz,r,_⟩
 .obtain⟨z,Mh,r,p⟩:=h.ok I.My;exact⟨Mh,r,p.tup,z⟩
 .refine⟨Mh.toList,r,⟨o,I.NZ a o hk,hc,n,by simpa using hs⟩,?_⟩;have e:=r.length;simp only[Od] at e;lia
variable {σ:St} in
theorem Inv.abj (I:Inv X aa σ H s)(h:MA X.K H a xs)(h':MA X.K H a ys):xs=ys:=by
 obtain⟨Mh,r,⟨o,n,e,_,_,d⟩,_⟩:=I.list h;obtain⟨its',r',⟨o',n',e',_,_,d'⟩,_⟩:=I.list h';rw[e] at e';cases e';rw[d] at d';injection d' with d1 _
 have:Mh=its':=by simpa using congrArg Array.toList d1
 subst this;exact r.inj r'
variable {σ:St} in
theorem Inv.XS (I:Inv X aa σ H s)(h:MR X.K H a xs)(h':MR X.K H a ys):xs=ys:=by
 obtain⟨Mh,r,⟨o,e,_,n,d⟩,_⟩:=I.tuple h;obtain⟨its',r',⟨o',e',_,n',d'⟩,_⟩:=I.tuple h';rw[e] at e';cases e';rw[d] at d';injection d' with d1 _
 have:Mh=its':=by simpa using congrArg Array.toList d1
 subst this;exact r.inj r'
end
abbrev Cx.Qr (X:Cx)(E:G'->Md->Prop):Cx:={ X with xe:=E }
abbrev Cx.Qt (X:Cx):Cx:=X.Qr λ_ _=>False
theorem Cx.Ok.Qr {X:Cx}(ok:X.Ok)(E:G'->Md->Prop):(X.Qr E).Ok:=
 ⟨ok.mod,ok.kind,ok.glob,ok.blt,ok.above,ok.inj,ok.has,ok.Ut,ok.hd,ok.frames,ok.Wj,ok.exf,ok.bs,ok.R',ok.Qc,ok.Wg,ok.Qd,ok.Sb⟩
theorem Cx.Ok.R7 {X:Cx}(ok:(X.Qr E).Ok):X.Ok:=
 ⟨ok.mod,ok.kind,ok.glob,ok.blt,ok.above,ok.inj,ok.has,ok.Ut,ok.hd,ok.frames,ok.Wj,ok.exf,ok.bs,ok.R',ok.Qc,ok.Wg,ok.Qd,ok.Sb⟩
section
variable {σ:St} in
theorem Inv.Qr (I:Inv X aa σ H s)(E:G'->Md->Prop):Inv (X.Qr E) aa σ H s:=⟨I.ok.Qr E,I.os,I.bare,I.base,I.loc,I.cell,I.free,I.Qp,I.pin,I.My,I.len⟩
variable {σ:St} in
theorem Inv.R7 (I:Inv (X.Qr E) aa σ H s):Inv X aa σ H s:=⟨I.ok.R7,I.os,I.bare,I.base,I.loc,I.cell,I.free,I.Qp,I.pin,I.My,I.len⟩
theorem SP.R7 (h:SP (X.Qr E) aa D f s'):SP X aa D f s':=by
 cases f with
 | next=>obtain⟨MP,H',I,q⟩:=h;exact⟨MP,H',I.R7,q⟩
 | brk=>obtain⟨MP,H',I,q⟩:=h;exact⟨MP,H',I.R7,q⟩
 | cont=>obtain⟨MP,H',I,q⟩:=h;exact⟨MP,H',I.R7,q⟩
 | ret u=>obtain⟨v,MP,H',I,r,q⟩:=h;exact⟨v,MP,H',I.R7,r,q⟩
theorem PY.Qt {st:List Mv}(h:PY X.Qt st t):PY X st t:=λaa s σ H D I hw=>
 QZ (h aa s σ H D (I.Qr _) hw) (λ_ _ q=>q.R7) λ_ _ z=>Pp z
end
section
def rj:TS:=λD σ H=>D.nx σ H
def rR (t u:TS):TS:=λD σ H=>t { D with nx:=u D } σ H
theorem az:PY X [] rj:=λ_ _ σ H _ I h=>ZQ ⟨σ,H,I,h⟩
variable {st:Mv} in
theorem af (h1:PS X st t)(h2:PY X rest u):PY X (st::rest) (rR t u):=by
 intro aa s σ H D I h;refine wpAny_execs_cons (ME (h1 aa s σ H { D with nx:=u D } I h) λf s1 q=>?_);cases f with
 | next=>
  obtain⟨MP,H',I',q⟩:=q;exact h2 aa s1 MP H' D I' q
 | ret v=>exact q
 | brk=>exact q
 | cont=>exact q
variable {st:Mv} in
theorem al (h1:PS X st t):PY X [st] t:=by
 intro aa s σ H D I h;refine wpAny_execs_cons (ME (h1 aa s σ H D I h) λf s1 q=>?_);cases f with
 | next=>exact ZQ q
 | ret v=>exact q
 | brk=>exact q
 | cont=>exact q
theorem Inv.quiet {σ:St}(I:Inv X aa σ H s):interactive X.env=false:=by simp[interactive,I.ok.kind]
def Hr (te:TE):TS:=λD σ H=>te σ H λ_ H1=>D.nx σ H1
theorem bA (he:PE X e te)(hs:swapsWith e none pos.line X.env=pure false:=by rfl):PS X (.Expr e pos) (Hr te):=by
 intro aa s σ H D I h;exact wpAny_Expr_any (ME (he aa s σ H _ I h) λv s1 ⟨x,H1,I1,r1,q1⟩=>⟨σ,H1,I1,q1⟩) I.quiet hs
def lV (te:TE):TS:=λD σ H=>te σ H D.rt
theorem aM (he:PE X e te):PS X (.Return (some e) pos) (lV te):=by
 intro aa s σ H D I h;exact wpAny_Return_some (ME (he aa s σ H _ I h) λv s1 ⟨x,H1,I1,r1,q1⟩=>⟨x,σ,H1,I1,r1,q1⟩)
def Hs:TS:=λD _ H=>D.rt .MV H
theorem oB:PS X (.Return none pos) Hs:=λ_ _ σ H _ I h=>wpAny_Return_none ⟨.MV,σ,H,I,rfl,h⟩
def wl (c:TT)(t u:TS):TS:=λD σ H=>c σ H λb H1=>if b=true then t D σ H1 else u D σ H1
theorem aQ (hc:PT X c tc)(ha:PY X a t)(hb:PY X b u):PS X (.If c a b pos) (wl tc t u):=by
 intro aa s σ H D I h;refine wpAny_If (ME (hc aa s σ H _ I h) λd s1 ⟨H1,I1,q1⟩=>?_);cases d with
 | true=>exact ha aa s1 σ H1 D I1 q1
 | false=>exact hb aa s1 σ H1 D I1 q1
def DE:TS:=λ_ _ _=>False
variable {st:Mv} in
theorem aZ:PS X st DE:=λ_ _ _ _ _ _ h=>h.elim
end
abbrev TG:=V->St->Hp->(St->Hp->Prop)->Prop
abbrev Vc:=List V->St->Hp->(St->Hp->Prop)->Prop
def PG (X:Cx)(target:MK)(t:TG):Prop:=
 ∀(aa:List (D'×Mc)) (s:Md) (σ:St) (H:Hp) (v:V) (u:G') (Q:St->Hp->Prop),Inv X aa σ H s->ax v u->t v σ H Q->
  Ml (Mr X.prog X.w) X.A (assign target X.env u) (λ_ s'=>∃MP H',Inv X aa MP H' s'/\Q MP H') X.xe s
def PGs (X:Cx)(ts:List MK)(t:Vc):Prop:=
 ∀(aa:List (D'×Mc)) (s:Md) (σ:St) (H:Hp) (vs:List V) (us:List G') (Q:St->Hp->Prop),Inv X aa σ H s->aw vs us->t vs σ H Q->
  Ml (Mr X.prog X.w) X.A (assignInOrder ((assignEach ts X.env).map (·.2)) us) (λ_ s'=>∃MP H',Inv X aa MP H' s'/\Q MP H') X.xe s
section
def mT (i:Nat):TG:=λv σ H Q=>Q (σ.set i (some v)) H
theorem cB (hN:X.N.Nodup)(hi:X.N[i]?=some x)(hx:Loc X.env.scope x)(hf:X.fn x=true\/X.env.scope.names.lookup x=some .local :=by first|exact .inl rfl|exact .inr rfl|assumption):PG X (.Name x pos) (mT i):=by
 intro aa s σ H v u Q I r h;exact Xv (fS I hN hi hx r (λs' I'=>⟨_,H,I',h⟩) hf)
def IQ:Vc:=λvs σ H Q=>vs=[]/\Q σ H
def Ht (t:TG)(u:Vc):Vc:=λvs σ H Q=>∃v r,vs=v::r/\t v σ H λMP H'=>u r MP H' Q
theorem vd:PGs X [] IQ:=by
 intro aa s σ H vs us Q I r h;obtain⟨e,h⟩:=h;subst e;cases r;exact assignInOrder_nil ⟨σ,H,I,h⟩
theorem je (h1:PG X e t)(h2:PGs X es u)(hs:(assignEach (e::es) X.env).map (·.2)=assign e X.env::(assignEach es X.env).map (·.2):=by rfl):PGs X (e::es) (Ht t u):=by
 intro aa s σ H vs us Q I r h;obtain⟨v,vr,e1,h⟩:=h;subst e1;cases r with
 | cons r rr=>
  rw[hs];refine assignInOrder_cons (ME (h1 aa s σ H _ _ _ I r h) λ_ s1 ⟨PZ,H1,I1,q1⟩=>?_);exact h2 aa s1 PZ H1 _ _ Q I1 rr q1
def IR (K:Mi)(n:Nat)(t:Vc):TG:=λv σ H Q=>∃a xs,v=.ref a/\MR K H a xs/\xs.length=n/\t xs σ H Q
theorem xR (hc:X.calm=true)(h:PGs X es t)(hn:(assignEach es X.env).length=n:=by rfl)(RE:(assignEach es X.env).findIdx? (·.1)=none:=by rfl):PG X (.Tuple es k pos) (IR X.K n t):=by
 intro aa s σ H v u Q I r hw;obtain⟨a,xs,e1,hq,hl,hw⟩:=hw;subst e1;cases r;obtain⟨Mh,rv,ht,hz⟩:=I.tuple hq;refine assign_Tuple_tuple (I.ok.hd hc) ht (by simp[hn,<-hl,rv.length]) RE λh' hx=>?_;have I1:Inv X aa σ H { s with heap:=h' }:=I.kept (t':=s.toks) λb o e=>hx b o (M8 (MS e)) e;exact h aa _ σ H xs _ Q I1 (by simpa using rv) hw
def wm (te:TE)(g:TG):TS:=λD σ H=>te σ H λx H1=>g x σ H1 D.nx
theorem DF (he:PE X e te)(hg:PG X tg g)(hs:swapsWithSole [tg] e pos.line X.env=pure false:=by rfl)(hw:swappedStores [tg] e X.env=pure none:=by rfl)(h1:(assignEach [tg] X.env).map (·.2)=[assign tg X.env]:=by rfl):PS X (.Assign [tg] e pos) (wm te g):=by
 intro aa s σ H D I h;refine wpAny_Assign_stores (ME (he aa s σ H _ I h) λv s1 ⟨x,H1,I1,r1,q1⟩=>?_) hs hw;rw[h1];exact ME (hg aa s1 σ H1 x v _ I1 r1 q1) λ_ s2 q=>q
theorem aA (hN:X.N.Nodup)(hi:X.N[i]?=some x)(hx:Loc X.env.scope x)(he:PE X e te)(hs:swapsWith e (some (.Name x pos')) pos.line X.env=pure false:=by rfl)(hf:X.fn x=true\/X.env.scope.names.lookup x=some .local :=by first|exact .inl rfl|exact .inr rfl|assumption):
  PS X (.Assign [.Name x pos'] e pos) (wm te (mT i)):=by
 intro aa s σ H D I h;refine wpAny_Assign_Name (ME (he aa s σ H _ I h) λv s1 ⟨y,H1,I1,r1,q1⟩=>?_) hs;exact fS I1 hN hi hx r1 (λs2 I2=>⟨_,H1,I2,q1⟩) hf
end
section
def xS (c:TT)(tb:TS):TS:=λD σ H=>∃W:Nat->St->Hp->Prop,(∃m,W m σ H)/\∀m σ H,W m σ H->
 c σ H λb H1=>if b=true then ∃N:St->Hp->Prop,(∀MP H',N MP H'->∃m',m' < m/\W m' MP H')/\tb { D with nx:=N,ct:=N,bk:=D.nx } σ H1 else D.nx σ H1
theorem Aj (hp:abg (Mr X.prog X.w) X.A X.env X.xe)(hc:PT X c tc)(hb:PY X body tb):PS X (.While c body [] pos) (xS tc tb):=by
 intro aa s σ H D I h;obtain⟨W,⟨m0,w0⟩,turn⟩:=h;refine wpAny_While (codeAny_whileLoop (λn s'=>∃MP H',Inv X aa MP H' s'/\W n MP H') ?_ m0 ⟨σ,H,I,w0⟩);rintro n s1 ⟨PZ,H1,I1,w1⟩;refine VR hp (ME (hc aa s1 PZ H1 _ I1 (turn n PZ H1 w1)) λb s2 ⟨H2,I2,q2⟩=>?_);cases b with
 | true=>
  obtain⟨N,hN,q2⟩:=q2;rw[Mu rfl];refine VR hp (ME (hb aa s2 PZ H2 _ I2 q2) λf s3 q3=>?_);cases f with
  | next=>
   obtain⟨Sd,H3,I3,n3⟩:=q3;obtain⟨m',hm,w3⟩:=hN Sd H3 n3;exact⟨m',hm,Sd,H3,I3,w3⟩
  | cont=>
   obtain⟨Sd,H3,I3,n3⟩:=q3;obtain⟨m',hm,w3⟩:=hN Sd H3 n3;exact⟨m',hm,Sd,H3,I3,w3⟩
  | brk=>exact q3
  | ret v=>exact q3
 | false=>
  rw[Mq Oo];exact ZQ ⟨PZ,H2,I2,q2⟩
end
structure It where
 go:Nat->Hp->Prop
 Wl:Nat->Hp->V->Hp->Prop
 stop:Nat->Hp->Prop
def fT (X:Cx)(aa:List (D'×Mc))(H:Hp)(b:D'):Prop:=
 H b=none/\b≠X.env.locals/\b∉X.fs/\(b∈X.ex\/X.Nv.heap.objs.size<=b)/\(∀x c,X.env.cells.lookup x=some c->c≠b)/\∀p∈X.pn++aa,p.1≠b
theorem Inv.X2 {X:Cx}{aa:List (D'×Mc)}{σ:St}{H H':Hp}{s:Md}{b:D'}(I:Inv X aa σ H s)(hb:s.heap.objs.size<=b)(hn:H' b=none):fT X aa H' b:=by
 refine⟨hn,Su (NH I.lt hb),I.adi hb,.inr (OT I.sz hb),λx c e z=>?_,λp hp z=>?_⟩
 .obtain⟨v,q⟩:=I.cell x c e;exact Mw (NH q.lt (by rw[z];exact hb)) (RX _)
 .exact Mw (NH (MS (I.pin p hp).1) (by rw[z];exact hb)) (RX _)
structure Turn (P:MD)(w:Mt)(K:Mi)(tg:MK)(J:It)(fp:List D')(it:D')(tn:Nat->Mp->Prop):Prop where
 mem:it∈fp
 obj:∀i h,tn i h->∀b∈fp,∃o,h.get? b=some o/\∀v,o.data≠.cell v
 keep:∀i h h',tn i h->(∀b∈fp,∀o,h.get? b=some o->h'.get? b=some o)->tn i h'
 item:∀(X:Cx),X.prog=P->X.w=w->X.K=K->X.calm=true->∀(i:Nat) (aa:List (D'×Mc)) (s:Md) (σ:St) (H:Hp) (E:G'->Md->Prop),Inv X aa σ H s->(∀b∈fp,fT X aa H b)->tn i s.heap->J.go i H->
  Ml (Mr P w) X.A (pyNext (.ref it)) (λr s1=>∃u,r=some u/\
   Ml (Mr P w) X.A (letOwnedTupleGo tg (.ref it) u) (λ_ s2=>∃x H',Inv X aa σ H' s2/\ax x u/\J.Wl i H x H'/\tn (i+1) s2.heap/\∀b∈fp,H' b=none) E s1) E s
 done:∀(X:Cx),X.prog=P->X.w=w->X.K=K->X.calm=true->∀(i:Nat) (aa:List (D'×Mc)) (s:Md) (σ:St) (H:Hp) (E:G'->Md->Prop),Inv X aa σ H s->(∀b∈fp,fT X aa H b)->tn i s.heap->J.stop i H->
  Ml (Mr P w) X.A (pyNext (.ref it)) (λr s1=>r=none/\Inv X aa σ H s1) E s
 self:∀(A:ML) (i:Nat) (s:Md) (Q:G'->Md->Prop) (E:G'->Md->Prop),tn i s.heap->Q (.ref it) s->Ml (Mr P w) A (pyIter (.ref it)) Q E s
abbrev TI:=St->Hp->(It->Hp->Prop)->Prop
def PIE (X:Cx)(aa:List (D'×Mc))(σ:St)(tg:MK)(R:It->Hp->Prop)(Yq:G')(s2:Md):Prop:=
 ∃(it:D') (fp:List D') (tn:Nat->Mp->Prop) (J:It) (H':Hp),Yq=.ref it/\Inv X aa σ H' s2/\Turn X.prog X.w X.K tg J fp it tn/\tn 0 s2.heap/\(∀b∈fp,fT X aa H' b)/\R J H'
def PI (X:Cx)(tg iter:MK)(wi:TI):Prop:=
 ∀(aa:List (D'×Mc)) (s:Md) (σ:St) (H:Hp) (R:It->Hp->Prop),Inv X aa σ H s->wi σ H R->
  Ml (Mr X.prog X.w) X.A (eval iter X.env) (λv s1=>Ml (Mr X.prog X.w) X.A (pyIter v) (PIE X aa σ tg R) X.xe s1) X.xe s
theorem rp (ho:s.heap.get? it=some o)(hc:o.cls=.type n)(hd:o.data=.fields vs)(hn:["enumerate","zip","dict_itemiterator","dict_reverseitemiterator","odict_iterator","itertools.zip_longest","itertools.pairwise"].contains n=false)(hQ:Q () s):Ml M A (letOwnedTupleGo tg (.ref it) u) Q E s:=by
 unfold letOwnedTupleGo;cases tg <;> first
  | exact Mm hQ
  | (cases u <;> first
    | exact Mm hQ
    | (refine Mf (wpAny_load ho ?_);rw[hc,hd];show Ml M A (if (["enumerate","zip","dict_itemiterator","dict_reverseitemiterator","odict_iterator","itertools.zip_longest","itertools.pairwise"].contains n&&vs[0]?==some (rawInt _))=true then _ else _) Q E s;rw[Mq (by intro h;rw[hn,ZT] at h;cases h)];exact Mm hQ))
def Vd (K:Mi)(a:D'):It:=
 ⟨λi H=>∃xs x,MA K H a xs/\xs[i]?=some x,λi H x H'=>H'=H/\∀xs,MA K H a xs->xs[i]?=some x,λi H=>∃xs,MA K H a xs/\xs.length<=i⟩
def Wm (K:Mi)(a:D'):It:=
 ⟨λi H=>∃xs x,MR K H a xs/\xs[i]?=some x,λi H x H'=>H'=H/\∀xs,MR K H a xs->xs[i]?=some x,λi H=>∃xs,MR K H a xs/\xs.length<=i⟩
def Ve (lo:Int)(n:Nat):It:=⟨λi _=>i<n,λi H x H'=>H'=H/\x=.int (lo+i),λi _=>n<=i⟩
theorem xT {K:Mi}(a it:D'):Turn P w K tg (Vd K a) [it] it (λi h=>h.IsListIter it a i) where
 mem:=by simp
 obj:=λi h st b hb=>by
  have e:b=it:=by simpa using hb
  subst e;obtain⟨o,e,c,d⟩:=st;exact⟨o,e,λv z=>by rw[d] at z;cases z⟩
 keep:=λi h h' st k=>st.at λo e=>k it (by simp) o e
 item:=by
  intro X hP hw hK hc i aa s σ H E I hf st hg;subst hP hw hK;obtain⟨xs,x,hq,hx⟩:=hg;obtain⟨Mh,rv,p,hz⟩:=I.list hq;obtain⟨u,hu,ru⟩:=rv.get hx;obtain⟨f0,f1,f2,f3,f4,f5⟩:=hf it (by simp);refine wpAny_pyNext_list_item st p.isList (x:=u) (by simpa using hu) λh' MI sb=>?_;have I1:Inv X aa σ H { s with heap:=h' }:=I.turned (t':=s.toks) (λb o hb e=>(sb.2 b hb).trans e) f0 f1 f3 f4 f5;obtain⟨o,e,c,d⟩:=id MI;exact⟨u,rfl,rp (s:={ s with heap:=h' }) e c d (by decide) ⟨x,H,I1,ru,⟨rfl,λys hy=>by rw[I.abj hy hq];exact hx⟩,MI,λb hb=>(hf b hb).1⟩⟩
 done:=by
  intro X hP hw hK hc i aa s σ H E I hf st hg;subst hP hw hK;obtain⟨xs,hq,hx⟩:=hg;obtain⟨Mh,rv,p,hz⟩:=I.list hq;obtain⟨f0,f1,f2,f3,f4,f5⟩:=hf it (by simp);have hl:=rv.length;exact wpAny_pyNext_list_end (I.ok.hd hc) st p.isList (by simp;lia) λh' eb=>⟨rfl,I.turned (t':=s.toks) (λb o hb e=>eb b o hb e) f0 f1 f3 f4 f5⟩
 self:=λ_ _ _ _ _ st h=>wpAny_pyIter_listiter st h
theorem wn {K:Mi}(a it:D'):Turn P w K tg (Wm K a) [it] it (λi h=>h.IsTupleIter it a i) where
 mem:=by simp
 obj:=λi h st b hb=>by
  have e:b=it:=by simpa using hb
  subst e;obtain⟨o,e,c,d⟩:=st;exact⟨o,e,λv z=>by rw[d] at z;cases z⟩
 keep:=λi h h' st k=>st.at λo e=>k it (by simp) o e
 item:=by
  intro X hP hw hK hc i aa s σ H E I hf st hg;subst hP hw hK;obtain⟨xs,x,hq,hx⟩:=hg;obtain⟨Mh,rv,p,hz⟩:=I.tuple hq;obtain⟨u,hu,ru⟩:=rv.get hx;obtain⟨f0,f1,f2,f3,f4,f5⟩:=hf it (by simp);refine wpAny_pyNext_tuple_item st (show s.heap.IsTuple a Mh.toArray from p) (x:=u) (by simpa using hu) λh' MI sb=>?_;have I1:Inv X aa σ H { s with heap:=h' }:=I.turned (t':=s.toks) (λb o hb e=>(sb.2 b hb).trans e) f0 f1 f3 f4 f5;obtain⟨o,e,c,d⟩:=id MI;exact⟨u,rfl,rp (s:={ s with heap:=h' }) e c d (by decide) ⟨x,H,I1,ru,⟨rfl,λys hy=>by rw[I.XS hy hq];exact hx⟩,MI,λb hb=>(hf b hb).1⟩⟩
 done:=by
  intro X hP hw hK hc i aa s σ H E I hf st hg;subst hP hw hK;obtain⟨xs,hq,hx⟩:=hg;obtain⟨Mh,rv,p,hz⟩:=I.tuple hq;obtain⟨f0,f1,f2,f3,f4,f5⟩:=hf it (by simp);have hl:=rv.length;exact wpAny_pyNext_tuple_end (I.ok.hd hc) st (show s.heap.IsTuple a Mh.toArray from p) (by simp;lia) λh' eb=>⟨rfl,I.turned (t':=s.toks) (λb o hb e=>eb b o hb e) f0 f1 f3 f4 f5⟩
 self:=λ_ _ _ _ _ st h=>wpAny_pyIter_tupleiter st h
theorem wq {K:Mi}(it:D')(lo:Int)(n:Nat):Turn P w K tg (Ve lo n) [it] it (λi h=>IsRangeIter h it (lo+(i:Nat)*1) ((n:Int)-(i:Nat)) 1) where
 mem:=by simp
 obj:=λi h st b hb=>by
  have e:b=it:=by simpa using hb
  subst e;exact⟨_,st,λv z=>by
   have z':Data.fields _=Data.cell v:=z;cases z'⟩
 keep:=λi h h' st k=>k it (by simp) _ st
 item:=by
  intro X hP hw hK hc i aa s σ H E I hf st hg;subst hP hw hK;obtain⟨f0,f1,f2,f3,f4,f5⟩:=hf it (by simp);have W:=Walks.range (prog:=X.prog) (w:=X.w) (I.ok.hd hc) it lo 1 n;refine W.item i s _ _ hg st λv h' tk hv MI kk=>?_;obtain⟨t,rfl⟩:=hv;have I1:Inv X aa σ H { s with heap:=h',toks:=tk }:=I.turned (λb o hb e=>kk b o (by simpa using hb) e) f0 f1 f3 f4 f5;refine⟨_,rfl,rp (s:={ s with heap:=h',toks:=tk }) (n:="range_iterator") MI rfl rfl (by decide) ⟨.int (lo+i),H,I1,⟨t,?_⟩,⟨rfl,rfl⟩,MI,λb hb=>(hf b hb).1⟩⟩;rw[Int.mul_one]
 done:=by
  intro X hP hw hK hc i aa s σ H E I hf st hg;subst hP hw hK;obtain⟨f0,f1,f2,f3,f4,f5⟩:=hf it (by simp);exact wpAny_pyNext_range_end (I.ok.hd hc) st (by have:n<=i:=hg;lia) λh' eb=>⟨rfl,I.turned (t':=s.toks) (λb o hb e=>eb b o hb e) f0 f1 f3 f4 f5⟩
 self:=λ_ _ _ _ _ st h=>wpAny_pyIter_rangeiter st h
section
def Hu (K:Mi)(tl:TE):TI:=λσ H R=>tl σ H λx H1=>∃a,x=.ref a/\(∃xs,MA K H1 a xs)/\R (Vd K a) H1
def IT (K:Mi)(tl:TE):TI:=λσ H R=>tl σ H λx H1=>∃a,x=.ref a/\(∃xs,MR K H1 a xs)/\R (Wm K a) H1
theorem cu (hl:PE X l tl):PI X tg l (Hu X.K tl):=by
 intro aa s σ H R I h;refine ME (hl aa s σ H _ I h) λv s1 ⟨x,H1,I1,r1,q1⟩=>?_;obtain⟨a,e,⟨xs,hq⟩,q⟩:=q1;subst e;cases r1;obtain⟨Mh,rv,p,hz⟩:=I1.list hq;refine acp p.isList ?_;refine⟨s1.heap.objs.size,[s1.heap.objs.size],_,_,H1,rfl,I1.kept (t':=s1.toks) λb o e=>MZ _ e,xT a _,⟨_,NV _ rfl,rfl,rfl⟩,λb hb=>?_,q⟩;have e:b=s1.heap.objs.size:=by simpa using hb
 subst e;exact I1.X2 (MJ _) (I1.My.fresh (MJ _))
theorem jN (hl:PE X l tl):PI X tg l (IT X.K tl):=by
 intro aa s σ H R I h;refine ME (hl aa s σ H _ I h) λv s1 ⟨x,H1,I1,r1,q1⟩=>?_;obtain⟨a,e,⟨xs,hq⟩,q⟩:=q1;subst e;cases r1;obtain⟨Mh,rv,p,hz⟩:=I1.tuple hq;refine wpAny_pyIter_tuple (show s1.heap.IsTuple a Mh.toArray from p) ?_;refine⟨s1.heap.objs.size,[s1.heap.objs.size],_,_,H1,rfl,I1.kept (t':=s1.toks) λb o e=>MZ _ e,wn a _,⟨_,NV _ rfl,rfl,rfl⟩,λb hb=>?_,q⟩;have e:b=s1.heap.objs.size:=by simpa using hb
 subst e;exact I1.X2 (MJ _) (I1.My.fresh (MJ _))
variable {X:Cx}{tg:MK} in
theorem Ak {aa:List (D'×Mc)}{σ:St}{H:Hp}{s:Md}{R:It->Hp->Prop}{E:G'->Md->Prop}{lo hi:Int}{t u v:Tok}{tk:Nat}(I:Inv X aa σ H s)(h1:-(2 ^ 62)<=lo)(h2:lo<2 ^ 62)(h3:-(2 ^ 62)<=hi)(h4:hi<2 ^ 62)(q:R (Ve lo (hi-lo).toNat) H):Ml (Mr X.prog X.w) X.A (pyIter (.ref s.heap.objs.size)) (PIE X aa σ tg R) E { s with heap:=s.heap.push { cls:=.type "range",data:=.fields #[.int lo t,.int hi u,.int 1 v] },toks:=tk }:=by
 refine wpAny_pyIter_range (IsRange.new ..) (small_one h1 h2 h3 h4) ?_;have I1:Inv X aa σ H { s with heap:=s.heap.push { cls:=.type "range",data:=.fields #[.int lo t,.int hi u,.int 1 v] },toks:=tk }:=I.kept λb o e=>MZ _ e;refine⟨(s.heap.push { cls:=.type "range",data:=.fields #[.int lo t,.int hi u,.int 1 v] }).objs.size,[(s.heap.push { cls:=.type "range",data:=.fields #[.int lo t,.int hi u,.int 1 v] }).objs.size],_,_,H,rfl,
  I1.kept (t':=tk) λb o e=>MZ _ e,wq _ lo (hi-lo).toNat,?_,λb hb=>?_,q⟩
 .have e1:lo+((0:Nat):Int)*1=lo:=by simp
  have e2:(((hi-lo).toNat:Nat):Int)-((0:Nat):Int)=PH.Range.rangeSize lo hi 1:=by rw[rangeSize_one];split <;> lia
  show IsRangeIter _ _ (lo+((0:Nat):Int)*1) ((((hi-lo).toNat:Nat):Int)-((0:Nat):Int)) 1;rw[e1,e2];exact NV _ rfl
 .have e:b=(s.heap.push { cls:=.type "range",data:=.fields #[.int lo t,.int hi u,.int 1 v] }).objs.size:=by simpa using hb
  subst e;exact I1.X2 (MJ _) (I1.My.fresh (MJ _))
def Hv (ta:TA):TI:=λσ H R=>ta σ H λvs H1=>∃j:Int,vs=[.int j]/\-(2 ^ 62)<=j/\j<2 ^ 62/\R (Ve 0 j.toNat) H1
theorem jO (hg:Gl X "range")(hm:X.mg "range"=none)(ha:PA X [a] ta)(hs:NM [a] X.env=[(false,eval a X.env)]:=by rfl):PI X tg (.Call (.Name "range" p) [a] [] pos) (Hv ta):=by
 intro aa s σ H R I h;refine Call_ (mS I hg hm boot_range (adJ (ME (ha pos aa s σ H _ I h) λus s1 ⟨vs,H1,I1,r1,q1⟩=>?_) hs rfl));obtain⟨j,e,q1,q2,q⟩:=q1;subst e;cases r1 with
 | cons r rr=>
  cases rr;obtain⟨t,rfl⟩:=r;exact call_range_1 (Ak I1 (by lia) (by lia) q1 q2 (by simpa using q))
def IU (wi:TI)(g:TG)(tb:TS):TS:=λD σ H=>wi σ H λJ H1=>∃W:Nat->Nat->St->Hp->Prop,(∃m,W 0 m σ H1)/\∀i m σ H,W i m σ H->
 (J.stop i H/\D.nx σ H)\/(J.go i H/\∃N:St->Hp->Prop,(∀MP H',N MP H'->∃m',m' < m/\W (i+1) m' MP H')/\∀x H',J.Wl i H x H'->g x σ H' λQf H2=>tb { D with nx:=N,ct:=N,bk:=D.nx } Qf H2)
def gQ (fp:List D')(h:Mp):List (D'×Mc):=fp.filterMap λb=>(h.get? b).map λo=>(b,o)
theorem cX (hb:b∈fp)(e:h.get? b=some o):(b,o)∈gQ fp h:=Qm.mpr ⟨b,hb,by rw[e];rfl⟩
theorem xU (hp:p∈gQ fp h):p.1∈fp/\h.get? p.1=some p.2:=by
 obtain⟨b,hb,e⟩:=Qm.mp hp;cases q:h.get? b with
 | none=>rw[q] at e;cases e
 | some o=>
  rw[q] at e;have e':(b,o)=p:=Rv e;subst e';exact⟨hb,q⟩
theorem Inv.pinned {σ:St}(I:Inv X aa σ H s)(hf:∀b∈fp,fT X aa H b)(ho:∀b∈fp,∃o,s.heap.get? b=some o/\∀v,o.data≠.cell v):Inv X (aa++gQ fp s.heap) σ H s:=
 I.Uk λp hp=>(Ny.mp hp).elim (λz=>I.pin p (OA _ z)) λz=>by
  obtain⟨hb,e⟩:=xU z;obtain⟨f0,f1,f2,_⟩:=hf p.1 hb;obtain⟨o,e',d⟩:=ho p.1 hb;rw[e] at e';cases e';exact⟨e,f0,f1,f2,d⟩
theorem Inv.Ti {σ:St}(I:Inv X (aa++pl) σ H s):Inv X aa σ H s:=I.Uk λp hp=>I.pin p (OA _ (P6 _ hp))
theorem ed (hp:abg (Mr X.prog X.w) X.A X.env X.xe)(hc:X.calm=true)(hi:PI X tg iter wi)(hg:PG X tg g)(hb:PY X body tb)(hs:∀x,foldedSetIterable iter X.env x=pure x:=by intro _;rfl):PS X (.For tg iter body [] pos) (IU wi g tb):=by
 intro aa s σ H D I h;refine wpAny_For (ME (hi aa s σ H _ I h) λv s1 h1=>ME h1 λYq s2 h2=>?_) hs;obtain⟨it,fp,tn,J,H2,e,I2,T,Oi,f2,W,⟨m0,w0⟩,turn⟩:=h2;subst e;have QH:∀{H':Hp},(∀b∈fp,H' b=none)->∀b∈fp,fT X aa H' b:=λhn b hb=>⟨hn b hb,(f2 b hb).2⟩
 refine codeAny_forLoop_any (λn s'=>∃i MP H',Inv X aa MP H' s'/\tn i s'.heap/\(∀b∈fp,H' b=none)/\W i n MP H') ?_ m0 ⟨0,σ,H2,I2,Oi,λb hb=>(f2 b hb).1,w0⟩;rintro n s3 ⟨i,Sd,H3,I3,Pc,Se,w3⟩;rcases turn i n Sd H3 w3 with⟨stop,qn⟩|⟨go,N,hN,step⟩
 .refine VR hp (ME (T.done X rfl rfl rfl hc i aa s3 Sd H3 X.xe I3 (QH Se) Pc stop) λr s4 ⟨hr,I4⟩=>?_);subst hr;exact ZQ ⟨Sd,H3,I4,qn⟩
 .refine VR hp (ME (T.item X rfl rfl rfl hc i aa s3 Sd H3 X.xe I3 (QH Se) Pc go) λr s4 ⟨u,hr,h4⟩=>?_);subst hr;refine VR hp (ME h4 λ_ s5 ⟨x,H5,I5,r5,y5,st5,fr5⟩=>?_);have I5':=I5.pinned (QH fr5) (T.obj _ _ st5);refine VR hp (ME (hg _ s5 Sd H5 x u _ I5' r5 (step x H5 y5)) λ_ s6 ⟨σ6,H6,I6,q6⟩=>?_);refine VR hp (ME (hb _ s6 σ6 H6 _ I6 q6) λf s7 q7=>?_);have again:∀{Sf:St}{H7:Hp},Inv X (aa++gQ fp s5.heap) Sf H7 s7->N Sf H7->∃m,m<n/\∃i MP H',Inv X aa MP H' s7/\tn i s7.heap/\(∀b∈fp,H' b=none)/\W i m MP H':=λ{Sf H7} I7 n7=>by
   obtain⟨m',hm,w7⟩:=hN Sf H7 n7;refine⟨m',hm,i+1,Sf,H7,I7.Ti,T.keep _ _ _ st5 λb hb o e=>(I7.pin (b,o) (OA _ (OA _ (cX hb e)))).1,λb hb=>?_,w7⟩;obtain⟨o,e,d⟩:=T.obj _ _ st5 b hb;exact(I7.pin (b,o) (OA _ (OA _ (cX hb e)))).2.1
  cases f with
  | next=>obtain⟨Sf,H7,I7,n7⟩:=q7;exact again I7 n7
  | cont=>obtain⟨Sf,H7,I7,n7⟩:=q7;exact again I7 n7
  | brk=>obtain⟨Sf,H7,I7,q7⟩:=q7;exact⟨Sf,H7,I7.Ti,q7⟩
  | ret v=>obtain⟨x7,Sf,H7,I7,r7,q7⟩:=q7;exact⟨x7,Sf,H7,I7.Ti,r7,q7⟩
end
theorem e9 {K:Mi}{a:D'}{xs:List V}{g:TG}{tb:TS}{D:Ends}{σ:St}{H:Hp}(Pv:Nat->St->Hp->Prop)(h0:Pv 0 σ H)(hl:∀i σ H,i<=xs.length->Pv i σ H->MA K H a xs)(hs:∀i x σ H,xs[i]?=some x->Pv i σ H->g x σ H λQf H2=>tb { D with nx:=Pv (i+1),ct:=Pv (i+1),bk:=D.nx } Qf H2)(hd:∀σ H,Pv xs.length σ H->D.nx σ H):
  ∃W:Nat->Nat->St->Hp->Prop,(∃m,W 0 m σ H)/\∀i m σ H,W i m σ H->
   ((Vd K a).stop i H/\D.nx σ H)\/((Vd K a).go i H/\∃N:St->Hp->Prop,(∀MP H',N MP H'->∃m',m' < m/\W (i+1) m' MP H')/\∀x H',(Vd K a).Wl i H x H'->g x σ H' λQf H2=>tb { D with nx:=N,ct:=N,bk:=D.nx } Qf H2):=by
 refine⟨λi m σ H=>m=xs.length-i/\i<=xs.length/\Pv i σ H,⟨xs.length,by simp,NX _,h0⟩,?_⟩;rintro i m σ H ⟨rfl,hi,p⟩;have q:=hl i σ H hi p
 by_cases Nw:i<xs.length
 .refine .inr ⟨⟨xs,xs[i],q,by simp[Nw]⟩,Pv (i+1),λMP H' p'=>⟨xs.length-(i+1),by lia,rfl,Nw,p'⟩,λx H' y=>?_⟩;obtain⟨e,y⟩:=y;subst e;exact hs i x σ _ (y xs q) p
 .have e:i=xs.length:=by lia
  subst e;exact .inl ⟨⟨xs,q,MJ _⟩,hd σ H p⟩
theorem oE {K:Mi}{a:D'}{xs:List V}{g:TG}{tb:TS}{D:Ends}{σ:St}{H:Hp}(Pv:Nat->St->Hp->Prop)(h0:Pv 0 σ H)(hl:∀i σ H,i<=xs.length->Pv i σ H->MR K H a xs)(hs:∀i x σ H,xs[i]?=some x->Pv i σ H->g x σ H λQf H2=>tb { D with nx:=Pv (i+1),ct:=Pv (i+1),bk:=D.nx } Qf H2)(hd:∀σ H,Pv xs.length σ H->D.nx σ H):
  ∃W:Nat->Nat->St->Hp->Prop,(∃m,W 0 m σ H)/\∀i m σ H,W i m σ H->
   ((Wm K a).stop i H/\D.nx σ H)\/((Wm K a).go i H/\∃N:St->Hp->Prop,(∀MP H',N MP H'->∃m',m' < m/\W (i+1) m' MP H')/\∀x H',(Wm K a).Wl i H x H'->g x σ H' λQf H2=>tb { D with nx:=N,ct:=N,bk:=D.nx } Qf H2):=by
 refine⟨λi m σ H=>m=xs.length-i/\i<=xs.length/\Pv i σ H,⟨xs.length,by simp,NX _,h0⟩,?_⟩;rintro i m σ H ⟨rfl,hi,p⟩;have q:=hl i σ H hi p
 by_cases Nw:i<xs.length
 .refine .inr ⟨⟨xs,xs[i],q,by simp[Nw]⟩,Pv (i+1),λMP H' p'=>⟨xs.length-(i+1),by lia,rfl,Nw,p'⟩,λx H' y=>?_⟩;obtain⟨e,y⟩:=y;subst e;exact hs i x σ _ (y xs q) p
 .have e:i=xs.length:=by lia
  subst e;exact .inl ⟨⟨xs,q,MJ _⟩,hd σ H p⟩
theorem xV {lo:Int}{n:Nat}{g:TG}{tb:TS}{D:Ends}{σ:St}{H:Hp}(Pv:Nat->St->Hp->Prop)(h0:Pv 0 σ H)(hs:∀i σ H,i<n->Pv i σ H->g (.int (lo+i)) σ H λQf H2=>tb { D with nx:=Pv (i+1),ct:=Pv (i+1),bk:=D.nx } Qf H2)(hd:∀σ H,Pv n σ H->D.nx σ H):
  ∃W:Nat->Nat->St->Hp->Prop,(∃m,W 0 m σ H)/\∀i m σ H,W i m σ H->
   ((Ve lo n).stop i H/\D.nx σ H)\/((Ve lo n).go i H/\∃N:St->Hp->Prop,(∀MP H',N MP H'->∃m',m' < m/\W (i+1) m' MP H')/\∀x H',(Ve lo n).Wl i H x H'->g x σ H' λQf H2=>tb { D with nx:=N,ct:=N,bk:=D.nx } Qf H2):=by
 refine⟨λi m σ H=>m=n-i/\i<=n/\Pv i σ H,⟨n,by simp,NX _,h0⟩,?_⟩;rintro i m σ H ⟨rfl,hi,p⟩
 by_cases Nw:i<n
 .refine .inr ⟨Nw,Pv (i+1),λMP H' p'=>⟨n-(i+1),by lia,rfl,Nw,p'⟩,λx H' y=>?_⟩;obtain⟨e,y⟩:=y;subst e y;exact hs i σ _ Nw p
 .have e:i=n:=by lia
  subst e;exact .inl ⟨MJ _,hd σ H p⟩
theorem Al (Pv:St->Hp->Prop)(μ:St->Hp->Nat)(h0:Pv σ H)(hs:∀σ H,Pv σ H->c σ H λb H1=>if b=true then tb { D with nx:=λMP H'=>Pv MP H'/\μ MP H' < μ σ H,ct:=λMP H'=>Pv MP H'/\μ MP H' < μ σ H,bk:=D.nx } σ H1 else D.nx σ H1)(mono:∀σ H Q Q',(∀b H1,Q b H1->Q' b H1)->c σ H Q->c σ H Q'):xS c tb D σ H:=by
 refine⟨λm σ H=>m=μ σ H/\Pv σ H,⟨_,rfl,h0⟩,?_⟩;rintro m σ H ⟨rfl,p⟩;refine mono σ H _ _ (λb H1 q=>?_) (hs σ H p);cases b with
 | true=>exact⟨_,λMP H' ⟨p',l⟩=>⟨_,l,rfl,p'⟩,q⟩
 | false=>exact q
abbrev R2:=V->V->Hp->VK->Prop
def Nr (X:Cx)(f:G'->G'->Pb G')(r:R2):Prop:=
 ∀(aa:List (D'×Mc)) (s:Md) (σ:St) (H:Hp) (x y:V) (v u:G') (Q:VK),Inv X aa σ H s->ax x v->ax y u->r x y H Q->
  Ml (Mr X.prog X.w) X.A (f v u) (EP X aa σ Q) X.xe s
def UnR (X:Cx)(f:G'->Pb G')(r:V->Hp->VK->Prop):Prop:=
 ∀(aa:List (D'×Mc)) (s:Md) (σ:St) (H:Hp) (x:V) (v:G') (Q:VK),Inv X aa σ H s->ax x v->r x H Q->
  Ml (Mr X.prog X.w) X.A (f v) (EP X aa σ Q) X.xe s
def cC (X:Cx)(f:G')(r:List V->Hp->VK->Prop):Prop:=
 ∀(aa:List (D'×Mc)) (s:Md) (σ:St) (H:Hp) (xs:List V) (us:List G') (Q:VK),Inv X aa σ H s->aw xs us->r xs H Q->
  Ml (Mr X.prog X.w) X.A (call f us) (EP X aa σ Q) X.xe s
def IV (X:Cx)(r:V->Hp->(Bool->Hp->Prop)->Prop):Prop:=
 ∀(aa:List (D'×Mc)) (s:Md) (σ:St) (H:Hp) (x:V) (v:G') (Q:Bool->Hp->Prop),Inv X aa σ H s->ax x v->r x H Q->
  Ml (Mr X.prog X.w) X.A (truthy v) (TP X aa σ Q) X.xe s
def Tu (r:R2)(ta tb:TE):TE:=λσ H Q=>ta σ H λx H1=>tb σ H1 λy H2=>r x y H2 Q
def tUn (r:V->Hp->VK->Prop)(ta:TE):TE:=λσ H Q=>ta σ H λx H1=>r x H1 Q
def rI (C:Int->Int->Prop)(g:Int->Int->V):R2:=λx y H Q=>∃i j,x=.int i/\y=.int j/\C i j/\Q (g i j) H
def Rl (g:Int->Int->V):R2:=λx y H Q=>∃i j,x=.int i/\y=.int j/\Q (g i j) H
def rU (g:Int->V):V->Hp->VK->Prop:=λx H Q=>∃i,x=.int i/\Q (g i) H
section
variable {X:Cx}{a:MK}{b:MK}{ta:TE}{tb:TE} in
theorem Am (ha:PE X a ta)(hb:PE X b tb){aa:List (D'×Mc)}{s:Md}{σ:St}{H:Hp}{R:V->V->Hp->Prop}(I:Inv X aa σ H s)(h:ta σ H λx H1=>tb σ H1 λy H2=>R x y H2){Q:G'->Md->Prop}{f:G'->G'->Pb G'}(hf:∀v u s2 x y H2,Inv X aa σ H2 s2->ax x v->ax y u->R x y H2->Ml (Mr X.prog X.w) X.A (f v u) Q X.xe s2):
  Ml (Mr X.prog X.w) X.A (eval a X.env) (λv MN=>Ml (Mr X.prog X.w) X.A (eval b X.env) (λu M1=>Ml (Mr X.prog X.w) X.A (f v u) Q X.xe M1) X.xe MN) X.xe s:=by
 refine ME (ha aa s σ H _ I h) λv s1 ⟨x,H1,I1,r1,q1⟩=>?_;refine ME (hb aa s1 σ H1 _ I1 q1) λu s2 ⟨y,H2,I2,r2,q2⟩=>?_;exact hf v u s2 x y H2 I2 r1 r2 q2
theorem aR (ho:Nr X (binaryOp op) r)(ha:PE X a ta)(hb:PE X b tb):PE X (.BinOp a op b pos) (Tu r ta tb):=by
 intro aa s σ H Q I h;exact wpAny_BinOp (Am ha hb I h λv u s2 x y H2 I2 rx ry q=>ho aa s2 σ H2 x y v u Q I2 rx ry q)
theorem BI (ho:UnR X (unaryOp op) r)(ha:PE X a ta):PE X (.UnaryOp op a pos) (tUn r ta):=by
 intro aa s σ H Q I h;exact UnaryOp_ (ME (ha aa s σ H _ I h) λv s1 ⟨x,H1,I1,r1,q1⟩=>ho aa s1 σ H1 x v Q I1 r1 q1)
theorem opI {g:Int->Int->Int}(rule:∀(i j:Int) (t u:Tok) (s:Md) (Q:G'->Md->Prop) (E:G'->Md->Prop),C i j->Q (.int (g i j) s.toks) { s with toks:=s.toks+1 }->Ml (Mr X.prog X.w) X.A (f (.int i t) (.int j u)) Q E s):
  Nr X f (rI C λi j=>.int (g i j)):=by
 intro aa s σ H x y v u Q I rx ry h;obtain⟨i,j,rfl,rfl,hc,q⟩:=h;obtain⟨t,rfl⟩:=rx;obtain⟨t',rfl⟩:=ry;exact rule i j t t' s _ _ hc ⟨.int (g i j),H,I.tok _,⟨_,rfl⟩,q⟩
theorem wr {g:Int->Int->Int}(rule:∀(i j:Int) (t u:Tok) (s:Md) (Q:G'->Md->Prop) (E:G'->Md->Prop),Q (.int (g i j) s.toks) { s with toks:=s.toks+1 }->Ml (Mr X.prog X.w) X.A (f (.int i t) (.int j u)) Q E s):
  Nr X f (Rl λi j=>.int (g i j)):=by
 intro aa s σ H x y v u Q I rx ry h;obtain⟨i,j,rfl,rfl,q⟩:=h;obtain⟨t,rfl⟩:=rx;obtain⟨t',rfl⟩:=ry;exact rule i j t t' s _ _ ⟨.int (g i j),H,I.tok _,⟨_,rfl⟩,q⟩
theorem An {g:Int->Int->Bool}(rule:∀(i j:Int) (t u:Tok) (s:Md) (Q:G'->Md->Prop) (E:G'->Md->Prop),Q (.bool (g i j)) s->Ml (Mr X.prog X.w) X.A (f (.int i t) (.int j u)) Q E s):
  Nr X f (Rl λi j=>.bl (g i j)):=by
 intro aa s σ H x y v u Q I rx ry h;obtain⟨i,j,rfl,rfl,q⟩:=h;obtain⟨t,rfl⟩:=rx;obtain⟨t',rfl⟩:=ry;exact rule i j t t' s _ _ ⟨.bl (g i j),H,I,rfl,q⟩
def IW (i j:Int):Prop:=0<j/\j<1073741824
def IX (i j:Int):Prop:=0<=j/\j<=1000000/\i.natAbs<2 ^ 64
def Ao (i j:Int):Prop:=(-(2 ^ 64)<i/\i<2 ^ 64)\/(-(2 ^ 64)<j/\j<2 ^ 64)
theorem Ao.ok (h:Ao i j):IntMulOk i j:=by
 rcases h with⟨h1,h2⟩|⟨h1,h2⟩
 .exact .of_left (intBits_le_64 h1 h2)
 .exact .of_right (intBits_le_64 h1 h2)
theorem cN:Nr X (binaryOp .Add) (Rl λi j=>.int (i+j)):=wr λ_ _ _ _ _ _ _ q=>add_int q
theorem mU:Nr X (binaryOp .Sub) (Rl λi j=>.int (i-j)):=wr λ_ _ _ _ _ _ _ q=>sub_int q
theorem rS:Nr X (binaryOp .Mult) (rI Ao λi j=>.int (i*j)):=opI λ_ _ _ _ _ _ _ hc q=>mul_int q hc.ok
theorem oG:Nr X (binaryOp .FloorDiv) (rI IW λi j=>.int (i / j)):=opI λi j _ _ _ _ _ hc q=>by
 have h1:(0:Int)<j:=hc.1;have h2:j<1073741824:=hc.2;exact floordiv_int (by lia) (by rw[Int.fdiv_eq_ediv_of_nonneg i (by lia)];exact q) (.inl (PyProof.noPylong_small (by lia)))
theorem cY:Nr X (binaryOp .Mod) (rI (λ_ j=>0<j) λi j=>.int (i % j)):=opI λi j _ _ _ _ _ hc q=>by
 have h1:(0:Int)<j:=hc;exact mod_int' (by lia) (by rw[Int.fmod_eq_emod_of_nonneg i (by lia)];exact q)
theorem xW:Nr X (binaryOp .LShift) (rI IX λi j=>.int (i*2 ^ j.toNat)):=opI λ_ _ _ _ _ _ _ hc q=>lshift_int_small hc.1 hc.2.1 hc.2.2 q
theorem DG:Nr X (binaryOp .BitAnd) (Rl λi j=>.int (PH.bitAnd i j)):=wr λ_ _ _ _ _ _ _ q=>and_int q
theorem Hw:Nr X (binaryOp .BitOr) (Rl λi j=>.int (acN i j)):=wr λ_ _ _ _ _ _ _ q=>or_int q
theorem unI {g:Int->Int}(rule:∀(i:Int) (t:Tok) (s:Md) (Q:G'->Md->Prop) (E:G'->Md->Prop),Q (.int (g i) s.toks) { s with toks:=s.toks+1 }->Ml (Mr X.prog X.w) X.A (f (.int i t)) Q E s):
  UnR X f (rU λi=>.int (g i)):=by
 intro aa s σ H x v Q I rx h;obtain⟨i,rfl,q⟩:=h;obtain⟨t,rfl⟩:=rx;exact rule i t s _ _ ⟨.int (g i),H,I.tok _,⟨_,rfl⟩,q⟩
theorem xX:UnR X (unaryOp .USub) (rU λi=>.int (-i)):=unI λ_ _ _ _ _ q=>neg_int q
end
def DH:V->V->Bool
 | .MV,.MV=>true | .MV,.int _=>true | .int _,.MV=>true | .MV,.bl _=>true | .bl _,.MV=>true | .MV,.str _=>true | .str _,.MV=>true
 | .int _,.int _=>true | .bl _,.bl _=>true | .str _,.str _=>true | .Q1 _,.Q1 _=>true
 | .int _,.str _=>true | .str _,.int _=>true | .bl _,.str _=>true | .str _,.bl _=>true
 | _,_=>false
def rEq:R2:=λx y H Q=>DH x y=true/\Q (.bl (decide (x=y))) H
def rNe:R2:=λx y H Q=>DH x y=true/\Q (.bl (!decide (x=y))) H
theorem vf:decide (V.int i=V.int j)=(i==j):=by
 rw[Ta];simp
theorem xY:decide (V.bl i=V.bl j)=(i==j):=by
 rw[Ta];simp
theorem vg:decide (V.str i=V.str j)=(i==j):=by
 rw[Ta];simp
theorem vh:decide (V.Q1 i=V.Q1 j)=(i.toList==j.toList):=by
 rw[Ta];cases i;cases j;simp
section
theorem bn {σ:St}(I:Inv X aa σ H s)(q:Q (.bl k) H)(e:k=k'):EP X aa σ Q (.bool k') s:=by
 subst e;exact⟨.bl k,H,I,rfl,q⟩
theorem dU:Nr X (OM .Eq) rEq:=by
 intro aa s σ H x y v u Q I rx ry h;obtain⟨hs,q⟩:=h;cases x with
 | MV=>
  cases rx;cases y with
  | MV=>cases ry;exact PySem.EqNone.eq_none_none (bn I q (by simp))
  | bl j=>cases ry;exact PySem.EqNone.eq_none_bool (bn I q (by simp))
  | int j=>obtain⟨t',rfl⟩:=ry;exact PySem.EqNone.eq_none_int (bn I q (by simp))
  | str j=>obtain⟨t',rfl⟩:=ry;exact PySem.EqNone.eq_none_str (bn I q (by simp))
  | _=>exact Mw (show false=true from hs) Oo
 | bl i=>
  cases rx;cases y with
  | MV=>cases ry;exact PySem.EqNone.eq_bool_none (bn I q (by simp))
  | bl j=>cases ry;exact eq_bool (bn I q xY)
  | str j=>obtain⟨t',rfl⟩:=ry;exact PySem.EqMixed.eq_bool_str (bn I q (by simp))
  | _=>exact Mw (show false=true from hs) Oo
 | int i=>
  obtain⟨t,rfl⟩:=rx;cases y with
  | MV=>cases ry;exact PySem.EqNone.eq_int_none (bn I q (by simp))
  | int j=>obtain⟨t',rfl⟩:=ry;exact eq_int (bn I q vf)
  | str j=>obtain⟨t',rfl⟩:=ry;exact PySem.EqMixed.eq_int_str (bn I q (by simp))
  | _=>exact Mw (show false=true from hs) Oo
 | str i=>
  obtain⟨t,rfl⟩:=rx;cases y with
  | MV=>cases ry;exact PySem.EqNone.eq_str_none (bn I q (by simp))
  | bl j=>cases ry;exact PySem.EqMixed.eq_str_bool (bn I q (by simp))
  | int j=>obtain⟨t',rfl⟩:=ry;exact PySem.EqMixed.eq_str_int (bn I q (by simp))
  | str j=>obtain⟨t',rfl⟩:=ry;exact eq_str (bn I q vg)
  | _=>exact Mw (show false=true from hs) Oo
 | Q1 i=>
  obtain⟨t,rfl⟩:=rx;cases y with
  | Q1 j=>obtain⟨t',rfl⟩:=ry;exact W.eq_bytes (bn I q vh)
  | _=>exact Mw (show false=true from hs) Oo
 | _=>cases y <;> exact Mw (show false=true from hs) Oo
theorem dW:Nr X (OM .NotEq) rNe:=by
 intro aa s σ H x y v u Q I rx ry h;obtain⟨hs,q⟩:=h;cases x with
 | MV=>
  cases rx;cases y with
  | MV=>cases ry;exact PySem.EqNone.ne_none_none (bn I q (by simp))
  | bl j=>cases ry;exact PySem.EqNone.ne_none_bool (bn I q (by simp))
  | int j=>obtain⟨t',rfl⟩:=ry;exact PySem.EqNone.ne_none_int (bn I q (by simp))
  | str j=>obtain⟨t',rfl⟩:=ry;exact PySem.EqNone.ne_none_str (bn I q (by simp))
  | _=>exact Mw (show false=true from hs) Oo
 | bl i=>
  cases rx;cases y with
  | MV=>cases ry;exact PySem.EqNone.ne_bool_none (bn I q (by simp))
  | bl j=>cases ry;exact ne_bool (bn I q (congrArg not xY))
  | str j=>obtain⟨t',rfl⟩:=ry;exact PySem.EqMixed.ne_bool_str (bn I q (by simp))
  | _=>exact Mw (show false=true from hs) Oo
 | int i=>
  obtain⟨t,rfl⟩:=rx;cases y with
  | MV=>cases ry;exact PySem.EqNone.ne_int_none (bn I q (by simp))
  | int j=>obtain⟨t',rfl⟩:=ry;exact ne_int (bn I q (congrArg not vf))
  | str j=>obtain⟨t',rfl⟩:=ry;exact PySem.EqMixed.ne_int_str (bn I q (by simp))
  | _=>exact Mw (show false=true from hs) Oo
 | str i=>
  obtain⟨t,rfl⟩:=rx;cases y with
  | MV=>cases ry;exact PySem.EqNone.ne_str_none (bn I q (by simp))
  | bl j=>cases ry;exact PySem.EqMixed.ne_str_bool (bn I q (by simp))
  | int j=>obtain⟨t',rfl⟩:=ry;exact PySem.EqMixed.ne_str_int (bn I q (by simp))
  | str j=>obtain⟨t',rfl⟩:=ry;exact ne_str (bn I q (congrArg not vg))
  | _=>exact Mw (show false=true from hs) Oo
 | Q1 i=>
  obtain⟨t,rfl⟩:=rx;cases y with
  | Q1 j=>obtain⟨t',rfl⟩:=ry;exact W.ne_bytes (bn I q (congrArg not vh))
  | _=>exact Mw (show false=true from hs) Oo
 | _=>cases y <;> exact Mw (show false=true from hs) Oo
theorem kK:Nr X (OM .Lt) (Rl λi j=>.bl (decide (i<j))):=An λ_ _ _ _ _ _ _ q=>lt_int q
theorem jf:Nr X (OM .LtE) (Rl λi j=>.bl (decide (i<=j))):=An λ_ _ _ _ _ _ _ q=>le_int q
theorem Hx:Nr X (OM .Gt) (Rl λi j=>.bl (decide (j<i))):=An λ_ _ _ _ _ _ _ q=>gt_int q
theorem rT:Nr X (OM .Is) (λx y H Q=>y=.MV/\Q (.bl (decide (x=.MV))) H):=by
 intro aa s σ H x y v u Q I rx ry h;obtain⟨rfl,q⟩:=h;cases ry;refine is_none_gen (bn I q ?_);cases x <;> first
  | (cases rx;rfl)
  | (obtain⟨t,rfl⟩:=rx;rfl)
theorem aI (b)(h:op≠.In:=by decide)(h2:op≠.NotIn:=by decide):behindInMarks op b=false:=by
 have e1:(op==CmpOp.In)=false:=by cases op <;> first|rfl|exact Mw rfl h
 have e2:(op==CmpOp.NotIn)=false:=by cases op <;> first|rfl|exact Mw rfl h2
 cases b <;> simp[behindInMarks,e1,e2]
theorem iP (ho:Nr X (OM op) r)(ha:PE X a ta)(hb:PE X b tb)(hm:behindInMarks op b=false):PE X (.Compare a [op] [b] pos) (Tu r ta tb):=by
 intro aa s σ H Q I h;exact wpAny_Compare1 (Am ha hb I h λv u s2 x y H2 I2 rx ry q=>ho aa s2 σ H2 x y v u Q I2 rx ry q) hm
def jg (t:TE):TT:=λσ H Q=>t σ H λx H'=>∃k,x=.bl k/\Q k H'
theorem ay (ho:Nr X (OM op) r)(ha:PE X a ta)(hb:PE X b tb)(hm:behindInMarks op b=false):PT X (.Compare a [op] [b] pos) (jg (Tu r ta tb)):=by
 intro aa s σ H Q I h;refine wpAny_isTrue_Compare1 (ME (ha aa s σ H _ I h) λv s1 ⟨x,H1,I1,r1,q1⟩=>ME (hb aa s1 σ H1 _ I1 q1) λu s2 ⟨y,H2,I2,r2,q2⟩=>
  ME (ho aa s2 σ H2 x y v u _ I2 r1 r2 q2) λc s3 ⟨z,H3,I3,r3,k,e,q3⟩=>?_) hm
 subst e;cases r3;exact Q9 ⟨H3,I3,q3⟩
def xZ (r r':R2)(ta tb tc:TE):TE:=λσ H Q=>ta σ H λx H1=>tb σ H1 λy H2=>r x y H2 λz H3=>∃k,z=.bl k/\
 (if k=true then tc σ H3 λw' H4=>r' y w' H4 Q else Q (.bl false) H3)
theorem Ap (ho:Nr X (OM op) r)(OC:Nr X (OM Vf) r')(ha:PE X a ta)(hb:PE X b tb)(hc:PE X c tc)(hm:lastMarks [op,Vf] [b,c]=false:=by with_unfolding_all rfl):PE X (.Compare a [op,Vf] [b,c] pos) (xZ r r' ta tb tc):=by
 intro aa s σ H Q I h;refine Compare_chain (ME (ha aa s σ H _ I h) λv s1 ⟨x,H1,I1,r1,q1⟩=>chain_link (ME (hb aa s1 σ H1 _ I1 q1) λu s2 ⟨y,H2,I2,r2,q2⟩=>
  ME (ho aa s2 σ H2 x y v u _ I2 r1 r2 q2) λd s3 ⟨z,H3,I3,r3,k,e,q3⟩=>?_)) hm
 subst e;cases r3;refine Q9 ?_;cases k with
 | false=>exact ite_ff ⟨.bl false,H3,I3,rfl,q3⟩
 | true=>exact ite_tt (chain_last (ME (hc aa s3 σ H3 _ I3 q3) λw' s4 ⟨z',H4,I4,r4,q4⟩=>OC aa s4 σ H4 y z' u w' Q I4 r2 r4 q4))
theorem lW (ho:Nr X (OM op) r)(OC:Nr X (OM Vf) r')(ha:PE X a ta)(hb:PE X b tb)(hc:PE X c tc)(hm:lastMarks [op,Vf] [b,c]=false:=by with_unfolding_all rfl):PT X (.Compare a [op,Vf] [b,c] pos) (jg (xZ r r' ta tb tc)):=by
 intro aa s σ H Q I h;refine isTrue_chain (ME (ha aa s σ H _ I h) λv s1 ⟨x,H1,I1,r1,q1⟩=>test_link (ME (hb aa s1 σ H1 _ I1 q1) λu s2 ⟨y,H2,I2,r2,q2⟩=>
  ME (ho aa s2 σ H2 x y v u _ I2 r1 r2 q2) λd s3 ⟨z,H3,I3,r3,k,e,q3⟩=>?_)) hm
 subst e;cases r3;refine Q9 ?_;cases k with
 | false=>
  obtain⟨k',e',q'⟩:=q3;cases e';exact ite_ff ⟨H3,I3,q'⟩
 | true=>
  refine ite_tt (test_last (ME (hc aa s3 σ H3 _ I3 q3) λw' s4 ⟨z',H4,I4,r4,q4⟩=>ME (OC aa s4 σ H4 y z' u w' _ I4 r2 r4 q4) λd' s5 ⟨z2,H5,I5,r5,k2,e2,q5⟩=>?_));subst e2;cases r5;exact Q9 ⟨H5,I5,q5⟩
def Aq (K:Mi)(x:V)(H:Hp)(k:Bool):Prop:=
 match x with
 | .MV=>k=false
 | .bl b=>k=b
 | .int i=>k=(i != 0)
 | .str y=>y.length<=Mz/\k=((y.length:Int) != 0)
 | .Q1 y=>y.size<=Mz/\k=((y.size:Int) != 0)
 | .ref p=>(∃xs,MA K H p xs/\k=!xs.isEmpty)\/(∃xs,MR K H p xs/\k=!xs.isEmpty)\/∃kvs,H p=some (.dK kvs)/\k=!kvs.isEmpty
 | _=>False
theorem wt {κ:Type}{kvs:List (κ×V)}{vs:List (κ×G')}(r:KV kvs vs):(!vs.isEmpty)=!kvs.isEmpty:=by
 cases r <;> rfl
theorem mV (r:aw xs Mh):(!Mh.toArray.isEmpty)=!xs.isEmpty:=by
 cases r <;> simp
theorem mW:(Mz:Nat)<2 ^ 63:=by rw[Nf];decide
theorem DI:IV X (λx H Q=>∃k,Aq X.K x H k/\Q k H):=by
 intro aa s σ H x v Q I rx h;obtain⟨k,e,q⟩:=h;have hl:=mW;have hs:Mz=16777216:=Nf;cases x with
 | MV=>
  cases rx;have e':k=false:=e;subst e';exact truthy_none ⟨H,I,q⟩
 | bl b=>
  cases rx;have e':k=b:=e;subst e';exact Q9 ⟨H,I,q⟩
 | int i=>
  obtain⟨t,rfl⟩:=rx;have e':k=(i != 0):=e;subst e';exact PySem.P.truthy_int ⟨H,I,q⟩
 | str y=>
  obtain⟨t,rfl⟩:=rx;obtain⟨hy,e'⟩:y.length<=Mz/\k=((y.length:Int) != 0):=e;subst e';exact PySem.P.truthy_str (by lia) ⟨H,I.tok _,q⟩
 | Q1 y=>
  obtain⟨t,rfl⟩:=rx;obtain⟨hy,e'⟩:y.size<=Mz/\k=((y.size:Int) != 0):=e;subst e';exact W.truthy_bytes (by lia) ⟨H,I.tok _,q⟩
 | ref p=>
  cases rx;have e':(∃xs,MA X.K H p xs/\k=!xs.isEmpty)\/(∃xs,MR X.K H p xs/\k=!xs.isEmpty)\/∃kvs,H p=some (.dK kvs)/\k=!kvs.isEmpty:=e;rcases e' with⟨xs,hx,e'⟩|⟨xs,hx,e'⟩|⟨kvs,hx,e'⟩
  .subst e';obtain⟨Mh,r,pl,hz⟩:=I.list hx;have hlen:=r.length;exact wpAny_truthy_list pl.isList (by simp only[ND];lia) ⟨H,I.tok _,by rw[mV r];exact q⟩
  .subst e';obtain⟨Mh,r,pl,hz⟩:=I.tuple hx;have hlen:=r.length;exact truthy_tuple pl (by simp only[ND];lia) ⟨H,I.tok _,by rw[mV r];exact q⟩
  .subst e';obtain⟨hz,hS,vs,r,m⟩:kvs.length<=Mz/\(p==Po)=false/\∃vs,KV kvs vs/\s.heap.DictOf (aL X.prog X.w) p vs:=I.My p _ hx;have hlen:kvs.length=vs.length:=VZ r;exact wpAny_truthy_dict hS m (by lia) ⟨H,I.tok _,by rw[wt r];exact q⟩
 | _=>exact(show False from e).elim
theorem lX (ha:PE X a ta)(he:∀whole,isTrue a X.env whole=(do let v <-whole;standAt a.pos;holding [v] (truthy v))):
  PT X a (λσ H Q=>ta σ H λx H'=>∃k,Aq X.K x H' k/\Q k H'):=by
 intro aa s σ H Q I h;exact isTrue_plain (ME (ha aa s σ H _ I h) λv s1 ⟨x,H1,I1,r1,q1⟩=>DI aa s1 σ H1 x v Q I1 r1 q1) (he _)
theorem dw (r:aw [x] us):∃u,us=[u]/\ax x u:=by
 cases r with
 | cons r1 r2=>cases r2;exact⟨_,rfl,r1⟩
theorem Hy (r:aw [x,y] us):∃u w',us=[u,w']/\ax x u/\ax y w':=by
 cases r with
 | cons r1 r2=>
  cases r2 with
  | cons r3 r4=>cases r4;exact⟨_,_,rfl,r1,r3⟩
theorem pR (hc:X.calm=true):cC X (.builtin "min") (λxs H Q=>∃i j,xs=[.int i,.int j]/\Q (.int (if j<i then j else i)) H):=by
 intro aa s σ H xs us Q I r h;obtain⟨i,j,rfl,q⟩:=h;obtain⟨u,w',rfl,⟨t,rfl⟩,⟨t',rfl⟩⟩:=Hy r;refine min_two_ints (I.ok.hd hc) λh' tk k=>⟨_,H,I.kept k,?_,q⟩
 by_cases hj:j<i
 .rw[Mu hj,Mu hj];exact⟨_,rfl⟩
 .rw[Mq hj,Mq hj];exact⟨_,rfl⟩
end
structure U5 (h:Mp)(x dx C:D')(mA:Me->Option G'):Prop where
 obj:h.get? x=some (U0 C dx)
 ns:h.Ns1 dx mA
 ne:dx≠x
theorem x8 {h:Mp}(n:h.Ns1 dx mA):∃od,h.get? dx=some od/\∀name,W.lookIn name od=some (mA name):=by
 obtain⟨o,es,ep,ho,hd,hk,_,hm⟩:=n;refine⟨o,ho,λname=>?_⟩;have e:=hm name;unfold nsFind findBy at e;rw[<-Array.find?_toList] at e;unfold W.lookIn;rw[hd];dsimp only
 split
 .rename_i y q;rw[q] at e;exact congrArg some e
 .rename_i q;rw[q] at e;have a:es.toList.any (·.refKey)=false:=by
   rw[List.any_eq_false];intro y hy;obtain⟨z,t,O5⟩:=hk y (aay.mp hy);simp[Op.refKey,O5]
  have a':¬es.toList.any (·.refKey)=true:=by rw[a];exact Oo
  rw[Mq a'];exact congrArg some e
theorem U5.look (I:U5 h x dx C mA):∃od,W.InstAt h x (U0 C dx) C (some od)/\∀name,W.lookIn name od=some (mA name):=
 let ⟨od,ho,hl⟩:=x8 I.ns
 ⟨od,⟨I.obj,rfl,rfl,ho⟩,hl⟩
section
variable {K:Mi} in
theorem Cj (X:K.In s.heap)(I:U5 s.heap x dx C mA)(hg:Z4 K C name=true)(hh:aba K C=true)(ha:OO K (.ref C) name=some none)(hv:mA name=some v)(hv':W.handedIn v=true)(h:Q v { s with toks:=s.toks+1 }):
  Ml (Mr prog w) A (getAttr (.ref x) name expr) Q E s:=by
 obtain⟨od,J,hl⟩:=I.look;exact W.get_value X J (acO hg).1 (W.findObj_own hh ha rfl (by rw[hl,hv])) hv' h
variable {K:Mi} in
theorem Ar (X:K.In s.heap)(I:U5 s.heap x dx C mA)(hg:Z4 K C name=true)(hf:OO K (.ref C) name=some (some (.ref f)))(ht:W.isFn K (.ref f)=true)(hv:mA name=none)(h:Q (.ref f,[.ref x]) s):
  Ml (Mr prog w) A (getMethod (.ref x) name pl) Q E s:=by
 obtain⟨od,J,hl⟩:=I.look;exact W.method_fn X J (acO hg).1 (acO hg).2 hf (beq_iff_eq.mp ht) (by show(W.lookIn name od).map (·.isSome)=some false;rw[hl,hv];rfl) h
variable {K:Mi} in
theorem Ck (X:K.In s.heap)(I:U5 s.heap x dx C mA)(hs:OO K (.ref C) "__setattr__"=some (some (.builtin "object.__setattr__")))(hp:W.plainOver K C=true)(ht:W.takerIn K C name=some none)(hh:aba K C=true)(hw:acU mA ns)(hsz:ns.length<=Mz)(h:∀h',U5 h' x dx C (λy=>if y=name then some v else mA y)->QY dx s.heap h'->Q () { s with heap:=h',toks:=s.toks+2 }):
  Ml (Mr prog w) A (setAttr (.ref x) name v) Q E s:=by
 obtain⟨od,J,hl⟩:=I.look;refine W.set_plain X J hs (W.osa_open (s:={ s with toks:=s.toks+1 }) (r:=none) X J hp ht λb=>?_);obtain⟨cd,hc,Rk⟩:=W.any_some hh;have hx:s.heap.get? x=some ⟨.ref C,some dx,.plain,#[]⟩:=I.obj;refine Mf (Mm (Mf (Mf (wpAny_loadPart hx (Mf (W.Looks.here (s:={ s with toks:=s.toks+1 }) (W.looks_clsIn X hc) ?_))))));rw[Rk];refine Mm (a:=some dx) (Mf (Mm (Mf ?_)));refine wpAny_nsSet1 (s:={ s with toks:=s.toks+1 }) I.ns λh' hn2 hs2=>?_;obtain⟨oD,esD,epD,hoD,hdD,hcD⟩:=hn2.count (acU.cons name v hw);refine Mf (wpAny_lookBehind hoD (by rw[hdD];exact pastItsLine_dict (OT hcD (by rw[N'];lia))) ?_);exact Mm (h _ ⟨(hs2.2 _ (M' I.ne)).trans I.obj,hn2,I.ne⟩ hs2)
variable {K:Mi} in
theorem As (X:K.In s.heap)(hm:W.makesIn K C=true)(hi:OO K (.ref C) "__init__"=some (some (.ref f)))(hf:Sw K (.ref f)=some (.type "function"))(h:codeAny (Mr prog w) (A.under (.builtin "type.__call__" ⟨.ref C::vs,kw⟩)) (.call (.ref f) ⟨.ref (s.heap.objs.size+1)::vs,kw⟩) (W.InitBack (s.heap.objs.size+1) R)
   { s with heap:=(s.heap.push Uh).push (U0 C s.heap.objs.size) }):
  codeAny (Mr prog w) A (.call (.ref C) ⟨vs,kw⟩) R s:=by
 obtain⟨hh,g,d,t,os⟩:=s;exact W.make_core (W.makes_of X hm) (aaS X hi) (λself=>W.bind_fn X self hf) (.inl rfl) h
end
def eR (f:Me)(v:V):List (Me×V)->List (Me×V)
 | []=>[(f,v)]
 | (g,x)::r=>if g=f then (g,v)::r else (g,x)::eR f v r
theorem lI (f g)(v):∀fs:List (Me×V),(eR f v fs).lookup g=if g=f then some v else fs.lookup g
 | []=>by
  show UY g [(f,v)]=_
  by_cases h:g=f
  .have hb:(g==f)=true:=beq_iff_eq.mpr h;simp only[UY,hb,Mu h]
  .have hb:(g==f)=false:=beq_eq_false_iff_ne.mpr h;simp only[UY,hb,Mq h]
 | (k,x)::r=>by
  have ih:=lI f g v r;rw[show eR f v ((k,x)::r)=(if k=f then (k,v)::r else (k,x)::eR f v r) from rfl]
  by_cases hk:k=f
  .rw[Mu hk]
   by_cases h:g=k
   .have hb:(g==k)=true:=beq_iff_eq.mpr h;simp only[UY,hb,Mu (h.trans hk)]
   .have hb:(g==k)=false:=beq_eq_false_iff_ne.mpr h;simp only[UY,hb,Mq (λe:g=f=>h (e.trans hk.symm))]
  .rw[Mq hk]
   by_cases h:g=k
   .have hb:(g==k)=true:=beq_iff_eq.mpr h;simp only[UY,hb,Mq (λe:g=f=>hk (h.symm.trans e))]
   .have hb:(g==k)=false:=beq_eq_false_iff_ne.mpr h;simp only[UY,hb];exact ih
theorem jP (f)(v):∀fs:List (Me×V),f∈(eR f v fs).map (·.1)/\∀g,g∈fs.map (·.1)->g∈(eR f v fs).map (·.1)
 | []=>⟨by simp[eR],λg h=>by simp at h⟩
 | (k,x)::r=>by
  obtain⟨i1,i2⟩:=jP f v r;rw[show eR f v ((k,x)::r)=(if k=f then (k,v)::r else (k,x)::eR f v r) from rfl]
  by_cases hk:k=f
  .rw[Mu hk];subst hk;exact⟨by simp,λg h=>by simpa using h⟩
  .rw[Mq hk];refine⟨?_,λg h=>?_⟩
   .rw[Nt];exact Na _ i1
   .rw[Nt] at h ⊢;rcases M0.mp h with e|e
    .exact M0.mpr (.inl e)
    .exact Na _ (i2 g e)
theorem lJ (f)(v):∀fs:List (Me×V),(eR f v fs).length<=fs.length+1
 | []=>by simp[eR]
 | (k,x)::r=>by
  have ih:=lJ f v r;rw[show eR f v ((k,x)::r)=(if k=f then (k,v)::r else (k,x)::eR f v r) from rfl]
  by_cases hk:k=f
  .rw[Mu hk,N',N'];lia
  .rw[Mq hk,N',N'];lia
theorem dQ.some_of (r:dQ (some v) o):∃u,o=some u/\ax v u:=by
 cases o with
 | none=>exact(show False from r).elim
 | some u=>exact⟨u,rfl,r⟩
theorem dQ.none_of (r:dQ none o):o=none:=by
 cases o with
 | none=>rfl
 | some u=>exact(show False from r).elim
theorem x9 (r:ax v u):W.handedIn u=true:=by
 cases v with
 | MV=>cases (show u=Sv from r);rfl
 | bl b=>cases (show u=R0 b from r);rfl
 | int i=>obtain⟨t,e⟩:=(show ∃t,u=Ov i t from r);cases e;rfl
 | str x=>obtain⟨t,e⟩:=(show ∃t,u=Z6 x t from r);cases e;rfl
 | Q1 b=>obtain⟨t,e⟩:=(show ∃t,u=G'.bytes b t from r);cases e;rfl
 | U9 b=>obtain⟨t,e⟩:=(show ∃t,u=acY b t from r);cases e;rfl
 | ref a=>cases (show u=Nd a from r);rfl
 | ty n=>cases (show u=QE n from r);rfl
section
theorem kL (My:N5 P w H h)(e:H a=some (.ins C dx fs)):∃mA,U5 h a dx C mA/\(∀f,dQ (fs.lookup f) (mA f))/\acU mA (fs.map (·.1))/\fs.length<=1000/\H dx=some (.own a):=by
 obtain⟨d,z,ne,ob,mA,n,r,q⟩:=(show bg P w H h a (.ins C dx fs) from My a _ e)
 exact⟨mA,⟨ob,n,ne⟩,r,q,z,d⟩
end
structure SG (K)(C):Prop where
 pg:Z4 K C Me.empty=true
 hd:aba K C=true
 po:W.plainOver K C=true
 sa:OO K (.ref C) "__setattr__"=some (some (.builtin "object.__setattr__"))
theorem SG.get {K:Mi}(c:SG K C)(f:Me):Z4 K C f=true:=c.pg
def gz (K:Mi)(C:D')(f:Me):Prop:=OO K (.ref C) f=some none
theorem gz.aeT {K:Mi}(n:gz K C f):W.takerIn K C f=some none:=by
 unfold W.takerIn;rw[show OO K (.ref C) f=some none from n];rfl
structure Up (K)(C)(m)(f):Prop where
 at_:OO K (.ref C) m=some (some (.ref f))
 fn:W.isFn K (.ref f)=true
 kp:Sx K (.ref f)=true
section
variable {σ:St} in
theorem wu (I:Inv X aa σ H s)(e:H a=some (.ins C dx fs))(c:SG X.K C)(n:gz X.K C f)(l:fs.lookup f=some v)(h:∀u s',Inv X aa σ H s'->ax v u->Q u s'):Ml (Mr X.prog X.w) A (getAttr (.ref a) f b) Q E s:=by
 obtain⟨mA,O,r,_,_,_⟩:=kL I.My e;obtain⟨u,hu,ru⟩:=dQ.some_of (v:=v) (o:=mA f) (by rw[<-l];exact r f);exact Cj I.NZ O (c.get f) c.hd n hu (x9 ru) (h u _ (I.tok _) ru)
variable {σ:St} in
theorem wv (I:Inv X aa σ H s)(e:H a=some (.ins C dx fs))(c:SG X.K C)(k:Up X.K C m g)(l:fs.lookup m=none)(h:Q (.ref g,[.ref a]) s):Ml (Mr X.prog X.w) A (getMethod (.ref a) m pl) Q E s:=by
 obtain⟨mA,O,r,_,_,_⟩:=kL I.My e;have hn:mA m=none:=dQ.none_of (by rw[<-l];exact r m);exact Ar I.NZ O (c.get m) k.at_ k.fn hn h
variable {σ:St} in
theorem ww (I:Inv X aa σ H s)(e:H a=some (.ins C dx fs))(c:SG X.K C)(n:gz X.K C f)(hl:fs.length<1000)(ry:ax y u)(h:∀s',Inv X aa σ (upd H a (.ins C dx (eR f y fs))) s'->Q () s'):Ml (Mr X.prog X.w) A (setAttr (.ref a) f u) Q E s:=by
 obtain⟨mA,O,r,wi,_,ho⟩:=kL I.My e;have hz:(fs.map (·.1)).length<=Mz:=by rw[Ng,Nf];lia
 refine Ck I.NZ O c.sa c.po n.aeT c.hd wi hz λh' O' sb=>h _ ?_;have hd:∃o,h'.get? dx=some o:=let ⟨o,_,_,e',_⟩:=O'.ns;⟨o,e'⟩;refine I.write (x:=a) (e:=dx) (by rw[e];exact P9) (.inr ho) (λb q hb z=>(sb.2 b hb).trans z) hd ?_;refine⟨by rw[ao O.ne];exact ho,?_,O.ne,O'.obj,_,O'.ns,λg=>?_,λg hg=>?_⟩
 .have:=lJ f y fs;lia
 .show dQ ((eR f y fs).lookup g) (if g=f then some u else mA g);rw[lI]
  by_cases q:g=f
  .rw[Mu q,Mu q];exact ry
  .rw[Mq q,Mq q];exact r g
 .by_cases q:g=f
  .rw[q];exact(jP f y fs).1
  .refine(jP f y fs).2 g (wi g λz=>hg ?_);show(if g=f then some u else mA g)=none;rw[Mq q];exact z
variable {σ:St} in
theorem Inv.made (I:Inv X aa σ H s):Inv X aa σ (upd (upd H s.heap.objs.size (.own (s.heap.objs.size+1))) (s.heap.objs.size+1) (.ins C s.heap.objs.size []))
  { s with heap:=(s.heap.push Uh).push (U0 C s.heap.objs.size) }:=by
 have e1:(s.heap.push Uh).get? s.heap.objs.size=some Uh:=NV s.heap rfl;have e2:((s.heap.push Uh).push (U0 C s.heap.objs.size)).get? (s.heap.objs.size+1)=some (U0 C s.heap.objs.size):=by
  have:=NV (s.heap.push Uh) (o:=U0 C s.heap.objs.size) rfl;rwa[XH] at this
 have e3:(s.heap.push Uh).Ns s.heap.objs.size (λ_=>none):=⟨Uh,#[],_,e1,rfl,(λe he=>Mw he (by simp)),λ_=>rfl⟩
 have I1:=I.laid (a:=s.heap.objs.size) (o:=.own (s.heap.objs.size+1)) (h':=s.heap.push Uh) (t':=s.toks) (λb u q=>MZ _ q) (MJ _) ⟨_,e1⟩;refine I1.laid (a:=s.heap.objs.size+1) (o:=.ins C s.heap.objs.size []) (t':=s.toks) (λb u q=>MZ _ q) (V5 (XH _ _)) ?_;have ne:s.heap.objs.size≠s.heap.objs.size+1:=M8 (XA _);refine⟨by rw[ao ne,ag],NX _,ne,e2,λ_=>none,(Mp.Ns1.of_empty e3).at λo q=>MZ _ q,λ_=>P9,λy hy=>Mw rfl hy⟩
theorem Cm (hb:attributeBase e f env (eval e env)=eval e env)(h:Ml (Mr prog w) A (eval e env) (λo MN=>Ml (Mr prog w) A (getAttr o f true) Q E MN) E s):Ml (Mr prog w) A (eval (.Attribute e f pos) env) Q E s:=
 Attribute_any_ h (by rw[arm_eval_Attribute,hb])
end
def IY (K:Mi)(ta:TE)(f:Me):TE:=λσ H Q=>ta σ H λx H1=>∃a C dx fs v,x=.ref a/\H1 a=some (.ins C dx fs)/\SG K C/\gz K C f/\fs.lookup f=some v/\Q v H1
def IZ (K:Mi)(ta tv:TE)(f:Me):TS:=λD σ H=>tv σ H λy H1=>ta σ H1 λx H2=>∃a C dx fs,x=.ref a/\H2 a=some (.ins C dx fs)/\SG K C/\gz K C f/\fs.length<1000/\
 D.nx σ (upd H2 a (.ins C dx (eR f y fs)))
section
theorem gR (he:PE X e ta)(hb:attributeBase e f X.env (eval e X.env)=eval e X.env):PE X (.Attribute e f pos) (IY X.K ta f):=by
 intro aa s σ H Q I h;refine Cm hb (ME (he aa s σ H _ I h) λu s1 ⟨x,H1,I1,rx,a,C,dx,fs,v,ex,ea,c,n,l,q⟩=>?_);subst ex;obtain rfl:u=Nd a:=rx;exact wu I1 ea c n l λu' s2 I2 ru=>⟨v,H1,I2,ru,q⟩
theorem ya (ha:PE X o ta)(hv:PE X value tv)(hs:swapsWith value (some (.Attribute o f pos')) pos.line X.env=pure false):PS X (.Assign [.Attribute o f pos'] value pos) (IZ X.K ta tv f):=by
 intro aa s σ H D I h;refine plainObj_wpAny_Assign_Attribute (ME (hv aa s σ H _ I h) λu s1 ⟨y,H1,I1,ry,q⟩=>ME (ha aa s1 σ H1 _ I1 q) λov s2 ⟨x,H2,I2,rx,a,C,dx,fs,ex,ea,c,n,l,q2⟩=>?_) hs;subst ex;obtain rfl:ov=Nd a:=rx;exact ww I2 ea c n l ry λs3 I3=>⟨σ,_,I3,q2⟩
end
section
inductive Rg (K:Mi)(H:Hp):V->G'->Prop where
 | MV:Rg K H .MV (.type "NoneType")
 | bl (x:Bool):Rg K H (.bl x) (.type "bool")
 | int (i:Int):Rg K H (.int i) (.type "int")
 | str (x:Me):Rg K H (.str x) (.type "str")
 | U9 (x:UInt64):Rg K H (.U9 x) (.type "float")
 | lst {a:D'}{xs:List V}(e:H a=some (.lst xs)):Rg K H (.ref a) (.type "list")
 | NO {a:D'}{o:Mc}{xs:List V}(e:H a=some (.NO o (.lst xs))):Rg K H (.ref a) (.type "list")
 | tup {a:D'}{xs:List V}(e:H a=some (.tup xs)):Rg K H (.ref a) (.type "tuple")
 | dK {a:D'}{kvs:List (Key×V)}(e:H a=some (.dK kvs)):Rg K H (.ref a) (.type "dict")
 | dT {a:D'}{kvs:List (List Key×V)}(e:H a=some (.dT kvs)):Rg K H (.ref a) (.type "dict")
 | ins {a C dx:D'}{fs:List (Me×V)}(e:H a=some (.ins C dx fs)) (cl:SG K C) (ha:OO K (.ref C) "__class__"=some (some (.builtin "object.__class__")))
   (hn:W.specialIn K (.builtin "object.__class__") "__get__"=some (some (.builtin "getset_descriptor.__get__"))) (htk:W.takesIn K (.builtin "object.__class__")=some true)
   (hm:Np K C (.type "object")=some true):Rg K H (.ref a) (.ref C)
variable {σ:St} in
theorem yb (I:Inv X aa σ H s)(rx:ax x u)(ty:Rg X.K H x t)(e:Re X.K t c=some b)(h:∀tk,Q (.bool b) { s with toks:=tk }):
  Ml (Mr X.prog X.w) A (call (.builtin "isinstance") [u,c]) Q E s:=by
 cases ty with
 | MV=>cases (show u=Sv from rx);exact Rc W.kitx_none I.NZ P9 e (λz=>nomatch z) h
 | bl y=>cases (show u=R0 y from rx);exact Rc W.kitx_bool I.NZ P9 e (λz=>nomatch z) h
 | int i=>obtain⟨t,q⟩:=(show ∃t,u=Ov i t from rx);cases q;exact Rc W.kitx_int I.NZ P9 e (λz=>nomatch z) h
 | str y=>obtain⟨t,q⟩:=(show ∃t,u=Z6 y t from rx);cases q;exact Rc W.kitx_str I.NZ P9 e (λz=>nomatch z) h
 | U9 y=>obtain⟨t,q⟩:=(show ∃t,u=acY y t from rx);cases q;exact Rc W.kitx_float I.NZ P9 e (λz=>nomatch z) h
 | @lst a xs ea=>
  cases (show u=Nd a from rx);obtain⟨_,_,n,_,h1⟩:=(show bg X.prog X.w H s.heap a (.lst xs) from I.My a _ ea)
  exact Rc W.kitx_list I.NZ ⟨_,h1,rfl⟩ e (λz=>nomatch z) h
 | @NO a ob xs ea=>
  cases (show u=Nd a from rx);obtain⟨_,_,_,n,_,h1⟩:=(show bg X.prog X.w H s.heap a (.NO ob (.lst xs)) from I.My a _ ea)
  exact Rc W.kitx_list I.NZ ⟨_,h1,rfl⟩ e (λz=>nomatch z) h
 | @tup a xs ea=>
  cases (show u=Nd a from rx);obtain⟨_,_,_,p⟩:=(show bg X.prog X.w H s.heap a (.tup xs) from I.My a _ ea)
  obtain⟨o,h1,h2,_⟩:=p;exact Rc W.kitx_tuple I.NZ ⟨o,h1,h2⟩ e (λz=>nomatch z) h
 | @dK a kvs ea=>
  cases (show u=Nd a from rx);obtain⟨_,_,vs,_,p⟩:=(show bg X.prog X.w H s.heap a (.dK kvs) from I.My a _ ea)
  obtain⟨o,es,ep,h1,h2,_⟩:=p;exact Rc W.kitx_dict I.NZ ⟨o,h1,h2.1⟩ e (λz=>nomatch z) h
 | @dT a kvs ea=>
  cases (show u=Nd a from rx);obtain⟨_,_,xs,_,o,es,ep,h1,h2,_⟩:=(show bg X.prog X.w H s.heap a (.dT kvs) from I.My a _ ea)
  exact Rc W.kitx_dict I.NZ ⟨o,h1,h2.1⟩ e (λz=>nomatch z) h
 | @ins a C dx fs ea cl ha hn htk hm=>
  cases (show u=Nd a from rx);obtain⟨mA,O,_⟩:=kL I.My ea;obtain⟨od,J,_⟩:=O.look;exact Rc (W.kitx_own (cl.get _) cl.hd ha hn htk hm) I.NZ J e (λz=>nomatch z) h
end
structure Mg (k:Nat)(A:ML):Prop where
 hd:A.handled=none
 dp:A.depth+3*k+5<recursionLimit
 un:A.units+16*k+200<MQ
 gd:A.guards=some []
theorem Mg.mono (r:Mg k A)(h:j<=k):Mg j A:=⟨r.hd,by have:=r.dp;lia,by have:=r.un;lia,r.gd⟩
theorem Mg.deeper (r:Mg (k+1) A)(env):Mg k (A.deeper env):=
 ⟨r.hd,by have:=r.dp;show A.depth+1+3*k+5<_;lia,by have:=r.un;show A.units+3+16*k+200<_;lia,r.gd⟩
theorem wx {A:ML}{C:D'}{us:List G'}{kw:List (Me×G')}:(A.under (.builtin "type.__call__" ⟨.ref C::us,kw⟩)).depth=A.depth+1:=by
 first|rfl|simp[aa1,Code.weight,Code.isCreation,Code.isGuard,Code.isCaller,Code.frames,acV,guardIds]
theorem wy {A:ML}:(A.under (.builtin "type.__call__" ⟨.ref C::us,kw⟩)).units=A.units+1:=by
 first|rfl|simp[aa1,Code.cUnits,Code.frames,acV]
theorem Mg.make (r:Mg (k+1) A)(C)(us)(kw):Mg k (A.under (.builtin "type.__call__" ⟨.ref C::us,kw⟩)):=
 ⟨r.hd,by have:=r.dp;rw[wx];lia,by have:=r.un;rw[wy];lia,by
  first|exact r.gd|(have g:=r.gd;simp[aa1,Code.guards,Code.isGuard,guardIds,pushGuards,g])⟩
theorem Mg.depth (r:Mg k A):A.depth<recursionLimit:=by have:=r.dp;lia
theorem Mg.units (r:Mg k A):A.units+64<MQ:=by have:=r.un;lia
theorem Mg.We (r:Mg k A):A.units<MQ:=by have:=r.un;lia
def gS:TA:=λ_ H Q=>Q [] H
def eE (ta:TE)(tr:TA):TA:=λσ H Q=>ta σ H λx H1=>tr σ H1 λxs H2=>Q (x::xs) H2
section
theorem ae:PA X [] gS:=λ_ _ _ _ H Q I h=>acq ⟨[],H,I,.nil,h⟩
theorem ac (ha:PE X e te)(hr:PA X es t)(hs:NM (e::es) X.env=(false,eval e X.env)::NM es X.env:=by rfl):PA X (e::es) (eE te t):=by
 intro pos aa s σ H Q I h;rw[hs];show Ml _ _ (spliced ((false,eval e X.env)::backTo pos (NM es X.env))) _ _ s;refine Xo (ME (ha aa s σ H _ I h) λu s1 ⟨x,H1,I1,r1,q1⟩=>?_);exact ME (hr pos aa s1 σ H1 _ I1 q1) λus s2 ⟨xs,H2,I2,r2,q2⟩=>⟨x::xs,H2,I2,.cons r1 r2,q2⟩
def rV (t:TA):TE:=λσ H Q=>t σ H λxs H1=>xs.length<=Mz/\∀p,H1 p=none->Q (.ref p) (upd H1 p (.tup xs))
def I0 (t:TA):TE:=λσ H Q=>t σ H λxs H1=>xs.length<=Mz/\∀p,H1 p=none->Q (.ref p) (upd H1 p (.lst xs))
theorem cb {x1}(h:PA X es t):PE X (.Tuple es x1 pos) (rV t):=by
 intro aa s σ H Q I hq;refine wpAny_Tuple_spliced (ME (h pos aa s σ H _ I hq) λus s1 ⟨xs,H1,I1,r,z,q⟩=>⟨by rw[<-r.length];exact z,?_⟩);have hf:H1 s1.heap.objs.size=none:=I1.My.fresh (MJ _);refine⟨.ref s1.heap.objs.size,upd H1 s1.heap.objs.size (.tup xs),I1.laid (t':=s1.toks) (λb u e=>MZ _ e) (MJ _) ?_,rfl,q _ hf⟩;exact⟨z,us,r,⟨_,NV _ rfl,rfl,_,rfl,rfl⟩⟩
theorem bt (h:PA X es t):PE X (.List es pos) (I0 t):=by
 intro aa s σ H Q I hq;refine wpAny_List_spliced (ME (h pos aa s σ H _ I hq) λus s1 ⟨xs,H1,I1,r,z,q⟩=>⟨by rw[<-r.length];exact z,?_⟩);have hf:H1 s1.heap.objs.size=none:=I1.My.fresh (MJ _);refine⟨.ref s1.heap.objs.size,upd H1 s1.heap.objs.size (.lst xs),I1.laid (t':=s1.toks) (λb u e=>MZ _ e) (MJ _) ?_,rfl,q _ hf⟩;exact⟨z,us,0,r,NV _ rfl⟩
end
abbrev Sp:=List V->Hp->VK->XK->Prop
abbrev Pd:=List NK->Hp->Md->XK->G'->Md->Prop
structure SB (P:MD)(w:Mt)(K:Mi)(mg:Me->Option G')(base:Mp)(A:ML)(outer:List NK)(s:Md)(H:Hp):Prop where
 frames:A.frames=some outer
 mod:Mod K mg base
 bs:∀b o,base.get? b=some o->s.heap.get? b=some o/\H b=none
 R':base.objs.size<=s.heap.objs.size
 Qd:s.heap.FunFrames base outer
 Sb:∀b∈Nq outer,H b=none
 My:N5 P w H s.heap
 bare:Sy s.gens
def CE (outer:List NK)(P:MD)(w:Mt)(H:Hp)(s:Md)(Q:VK)(u:G')(s':Md):Prop:=
 ∃v H',s'.os=s.os/\Sy s'.gens/\Un (Nq outer) [] H H' s.heap s'.heap/\N5 P w H' s'.heap/\ax v u/\Q v H'
def CR (CX:Pd)(outer:List NK)(P:MD)(w:Mt)(H:Hp)(s:Md)(Q:VK)(E:XK)(r:Result)(s':Md):Prop:=
 match r with
 | .ok (.ret u)=>CE outer P w H s Q u s'
 | .ok _=>False
 | .error e=>CX outer H s E e s'
structure MU (P:MD)(w:Mt)(K:Mi)(mg:Me->Option G')(base:Mp)(CX:Pd)(k:Nat)(f:D')(fd:MY)(ps:List Me)(sp:Sp):Prop where
 len:∀vs H Q E,sp vs H Q E->vs.length=ps.length
 run:∀(A:ML) (outer:List NK) (s:Md) (H:Hp) (args:Args) (us:List G') (vs:List V) (Q:VK) (E:XK),Mg k A->SB P w K mg base A outer s H->XW s fd args (ps.zip us)->aw vs us->sp vs H Q E->
  codeAny (Mr P w) A (.call (.ref f) args) (CR CX outer P w H s Q E) s
theorem SB.make {K:Mi}(e:SB P w K mg base A outer s H)(C:D')(us:List G')(kw:List (Me×G')):
  SB P w K mg base (A.under (.builtin "type.__call__" ⟨.ref C::us,kw⟩)) outer s H:=⟨by first|exact e.frames|(simpa [aa1,Code.envs,acV,pushEnvs] using e.frames),e.mod,e.bs,e.R',e.Qd,e.Sb,e.My,e.bare⟩
section
variable {σ:St} in
theorem Inv.τ (I:Inv X aa σ H s):SB X.prog X.w X.K X.mg X.base X.A X.stack s H:=
 ⟨I.ok.frames,I.ok.mod,I.bs,OT I.ok.R' I.sz,I.stack,I.ζ,I.My,I.bare⟩
variable {σ:St} in
theorem Inv.after (I:Inv X aa σ H s)(h:CE X.stack X.prog X.w H s Q u s'):EP X aa σ Q u s':=by
 obtain⟨v,H',os,bare,un,My,r,q⟩:=h;obtain⟨hh,g,d,t,os'⟩:=s';obtain rfl:os'=s.os:=os;exact⟨v,H',I.call (h':=hh) (g':=g) (d':=d) (t':=t) (ch:=[]) un My bare (λb z=>Mw z (by simp)),r,q⟩
end
def Hz (C:D')(m:Me)(sp:Sp)(OJ:List V)(E:XK)(ta:TE)(t:TA):TE:=λσ H Q=>ta σ H λx H1=>∃a dx fs,x=.ref a/\H1 a=some (.ins C dx fs)/\fs.lookup m=none/\
 t σ H1 λvs H2=>sp (x::(vs++OJ)) H2 Q E
def HA (C:D')(sp:Sp)(OJ:List V)(E:XK)(t:TA):TE:=λσ H Q=>t σ H λvs H1=>∀x dx,H1 x=none->H1 dx=none->dx≠x->
 sp (.ref x::(vs++OJ)) (upd (upd H1 dx (.own x)) x (.ins C dx [])) (λv H2=>v=.MV/\Q (.ref x) H2) E
def bK (K:Mi)(fd:MY)(ps:List Me)(ds:List G'):Prop:=
 ∀(s:Md) (us:List G'),K.In s.heap->(us++ds).length=ps.length->XW s fd ⟨us,[]⟩ (ps.zip (us++ds))
theorem bK.all {K:Mi}(h:∀us:List G',us.length=ps.length->bindArgs fd ⟨us,[]⟩=pure (ps.zip us)):bK K fd ps []:=λs us _ hl=>by
 rw[QD] at hl ⊢;exact .of_eq (h us hl)
def iQ (CX:Pd)(X:Cx)(E:XK):Prop:=∀(aa:List (D'×Mc)) (σ:St) (H:Hp) (s:Md) (e:G') (s':Md),Inv X aa σ H s->CX X.stack H s E e s'->X.xe e s'
section
variable {X:Cx}{CX:Pd}{k:Nat}{f:D'}{fd:MY}{ps:List Me}{sp:Sp}{OJ:List V}{ds:List G'}{E:XK} in
theorem DJ {aa:List (D'×Mc)}{σ:St}{H:Hp}{s:Md}{Q:VK}{us:List G'}{vs:List V}(F:MU X.prog X.w X.K X.mg X.base CX k f fd ps sp)(hr:Mg k X.A)(hb:bK X.K fd ps ds)(hd:aw OJ ds)(hx:iQ CX X E)(I:Inv X aa σ H s)(r:aw vs us)(h:sp (vs++OJ) H Q E):Ml (Mr X.prog X.w) X.A (call (.ref f) us) (EP X aa σ Q) X.xe s:=by
 have r2:aw (vs++OJ) (us++ds):=r.append hd;have hl:(us++ds).length=ps.length:=by rw[<-r2.length];exact F.len _ _ _ _ h
 refine Z5 (Ug (F.run X.A X.stack s H ⟨us,[]⟩ (us++ds) (vs++OJ) Q E hr I.τ (hb s us I.NZ hl) r2 h) λr s' hq=>?_);cases r with
 | error e=>exact hx aa σ H s e s' I hq
 | ok fl=>
  cases fl with
  | ret u=>exact I.after hq
  | next=>exact Pp hq
  | brk=>exact Pp hq
  | cont=>exact Pp hq
theorem vi (he:PE X o ta)(c:SG X.K C)(hm:Up X.K C m f)(F:MU X.prog X.w X.K X.mg X.base CX k f fd ps sp)(hr:Mg k X.A)(hb:bK X.K fd ps ds)(hd:aw OJ ds)(hx:iQ CX X E)(ha:PA X (e::es) t)(RE:NM (e::es) X.env=(false,eval e X.env)::NM es X.env:=by rfl)(P0:(backTo pos (NM es X.env)).any (·.1)=false:=by rfl)(ht:eval (.Call (.Attribute o m apos) (e::es) [] pos) X.env=(do
   let ov <-eval o X.env
   standAt apos.atName
   let (f,first) <-holding [ov] (getMethod ov m pl)
   callWith pos f first (backTo pos (NM (e::es) X.env)) (backToKw pos (keywordEach [] X.env))):=by rfl):
  PE X (.Call (.Attribute o m apos) (e::es) [] pos) (Hz C m sp OJ E ta t):=by
 intro aa s σ H Q I h;refine W.methodCall_KW (pl:=pl) (ME (he aa s σ H _ I h) λu s1 ⟨x,H1,I1,rx,a,dx,fs,ex,ea,l,q⟩=>?_) ht;subst ex;obtain rfl:u=Nd a:=rx;refine wv I1 ea c hm l ?_;refine W.callWith_K (first:=[.ref a]) (h₀:=X.base) I.ok.mod.Us hm.kp (ME (ha pos aa s1 σ H1 _ I1 q) λus s2 ⟨vs,H2,I2,r,q2⟩=>⟨I2.NZ,?_⟩) RE P0;exact DJ (us:=.ref a::us) (vs:=.ref a::vs) F hr hb hd hx I2 (.cons rfl r) q2
structure Mk (K)(C f):Prop where
 makes:W.makesIn K C=true
 init:OO K (.ref C) "__init__"=some (some (.ref f))
 fn:W.isFn K (.ref f)=true
 kp:Sx K (.ref C)=true
variable {X:Cx}{CX:Pd}{k:Nat}{f:D'}{C:D'}{fd:MY}{ps:List Me}{sp:Sp}{OJ:List V}{ds:List G'}{E:XK}{x:Me} in
theorem Au {aa:List (D'×Mc)}{σ:St}{H:Hp}{s:Md}{Q:VK}{us:List G'}{vs:List V}(M:Mk X.K C f)(F:MU X.prog X.w X.K X.mg X.base CX k f fd ps sp)(hr:Mg (k+1) X.A)(hb:bK X.K fd ps ds)(hd:aw OJ ds)(hx:iQ CX X E)(I:Inv X aa σ H s)(r:aw vs us)(h:∀x dx,H x=none->H dx=none->dx≠x->sp (.ref x::(vs++OJ)) (upd (upd H dx (.own x)) x (.ins C dx [])) (λv H2=>v=.MV/\Q (.ref x) H2) E):
  Ml (Mr X.prog X.w) X.A (call (.ref C) us) (EP X aa σ Q) X.xe s:=by
 have hq:=h (s.heap.objs.size+1) s.heap.objs.size (I.My.fresh (UZ _)) (I.My.fresh (MJ _)) (M8 (XA _));have I2:=Inv.made (C:=C) I;have r2:aw (V.ref (s.heap.objs.size+1)::(vs++OJ)) (Nd (s.heap.objs.size+1)::(us++ds)):=.cons rfl (r.append hd);have hl:(Nd (s.heap.objs.size+1)::us++ds).length=ps.length:=by
  have e:=r2.length;rw[F.len _ _ _ _ hq] at e;exact e.symm
 refine Z5 (As (f:=f) I.NZ M.makes M.init (beq_iff_eq.mp M.fn) (Ug (F.run _ X.stack _ _ ⟨Nd (s.heap.objs.size+1)::us,[]⟩ (Nd (s.heap.objs.size+1)::(us++ds)) _ _ E (hr.make C us [])
  (I2.τ.make C us []) (hb _ (Nd (s.heap.objs.size+1)::us) I2.NZ hl) r2 hq) λr s' Yr=>?_))
 cases r with
 | error e=>exact hx aa σ _ _ e s' I2 Yr
 | ok fl=>
  cases fl with
  | ret u=>
   obtain⟨v,H',I3,rv,ev,q3⟩:=I2.after Yr;subst ev;exact⟨rv,⟨V.ref (s.heap.objs.size+1),H',I3,rfl,q3⟩⟩
  | next=>exact Pp Yr
  | brk=>exact Pp Yr
  | cont=>exact Pp Yr
theorem rW (M:Mk X.K C f)(F:MU X.prog X.w X.K X.mg X.base CX k f fd ps sp)(hr:Mg (k+1) X.A)(hg:Gl X x)(hm:X.mg x=some (.ref C))(hb:bK X.K fd ps ds)(hd:aw OJ ds)(hx:iQ CX X E)(QL:(x==("__debug__":Me))=false:=by decide):PE X (.Call (.Name x p) [] [] pos) (HA C sp OJ E gS):=by
 intro aa s σ H Q I h;refine Xp (gJ I hg hm ?_ QL);exact W.callWith_K0 I.NZ M.kp (Au (us:=[]) M F hr hb hd hx I .nil h)
end
section
end
structure NE (N P:List Me)(sc:OE):Prop where
 kind:sc.kind=.function
 co:sc.isCoroutine=false
 gen:sc.isGenerator=false
 nd:N.Nodup
 pre:N.take P.length=P
 par:∀x∈P,sc.names.lookup x=some .local \/sc.names.lookup x=some .cell
 aeO:∀y∈sc.names,y.2≠.free
theorem pS {kindOf:Me->Option Th}:∀{binds:List (Me×G')}{m:Me->Option G'},(∀v,(x,v)∉binds)->bindL kindOf binds m x=m x
 | [],_,_=>rfl
 | (n,v)::r,m,h=>by
  unfold bindL;rw[pS λw hw=>h w (Na _ hw)]
  split
  .have:x≠n:=by rintro rfl;exact h v MO
   simp[this]
  .rfl
theorem pT {kindOf:Me->Option Th}:∀{binds:List (Me×G')}{m:Me->Option G'},(∀v,(x,v)∉binds)->bindC kindOf binds m x=m x
 | [],_,_=>rfl
 | (n,v)::r,m,h=>by
  unfold bindC;rw[pT λw hw=>h w (Na _ hw)]
  split
  .rfl
  .have:x≠n:=by rintro rfl;exact h v MO
   simp[this]
theorem pU {kindOf:Me->Option Th}:∀{P:List Me}{vs:List G'}{i:Nat}{m:Me->Option G'},P.Nodup->P[i]?=some x->vs[i]?=some v->kindOf x=some .local ->
  bindL kindOf (P.zip vs) m x=some v
 | [],_,_,_,_,h,_,_=>by simp at h
 | _::_,[],_,_,_,_,h,_=>by simp at h
 | p::P,w::vs,0,m,nd,h1,h2,hk=>by
  simp at h1 h2;subst h1;subst h2;show bindL kindOf ((p,w)::P.zip vs) m p=_;unfold bindL;rw[pS λv hv=>(Py.mp nd).1 (acB hv).1,Mu hk];simp
 | p::P,w::vs,i+1,m,nd,h1,h2,hk=>by
  show bindL kindOf ((p,w)::P.zip vs) m x=_;unfold bindL;exact pU (i:=i) (Py.mp nd).2 (by simpa using h1) (by simpa using h2) hk
theorem pV {kindOf:Me->Option Th}:∀{P:List Me}{vs:List G'}{i:Nat}{m:Me->Option G'},P.Nodup->P[i]?=some x->vs[i]?=some v->kindOf x≠some .local ->
  bindC kindOf (P.zip vs) m x=some v
 | [],_,_,_,_,h,_,_=>by simp at h
 | _::_,[],_,_,_,_,h,_=>by simp at h
 | p::P,w::vs,0,m,nd,h1,h2,hk=>by
  simp at h1 h2;subst h1;subst h2;show bindC kindOf ((p,w)::P.zip vs) m p=_;unfold bindC;rw[pT λv hv=>(Py.mp nd).1 (acB hv).1,Mq hk];simp
 | p::P,w::vs,i+1,m,nd,h1,h2,hk=>by
  show bindC kindOf ((p,w)::P.zip vs) m x=_;unfold bindC;exact pV (i:=i) (Py.mp nd).2 (by simpa using h1) (by simpa using h2) hk
def gr (N:List Me)(vs:List V):St:=vs.map some++O1 (N.length-vs.length) none
def cH (CX:Pd)(P:MD)(w:Mt)(K:Mi)(mg:Me->Option G')(base:Mp)(N:List Me)(qual:Me)(scope:OE)(f:D')(cd:G')(A:ML)(outer:List NK)(s:Md)(H:Hp)(E:XK):Cx where
 prog:=P
 w:=w
 K:=K
 mg:=mg
 base:=base
 A:=A.deeper (envOfC qual scope s.heap.objs.size f cd)
 N:=N
 Nv:=s
 U4:=H
 env:=envOfC qual scope s.heap.objs.size f cd
 outer:=outer
 stack:=envOfC qual scope s.heap.objs.size f cd::outer
 ex:=[]
 calm:=true
 fn:=λ_=>true
 pn:=[]
 xe:=λe s'=>Ml (Mr P w) (A.deeper (envOfC qual scope s.heap.objs.size f cd)) (leaving (envOfC qual scope s.heap.objs.size f cd) e) (λ_ Os=>CX outer H s E e Os) (λe' Os=>CX outer H s E e' Os) s'
theorem rX {sc:OE}(h:sc.names.lookup x=some .cell):∃c,(cellsFrom n sc.names []).lookup x=some c:=by
 have q:=W.cellsFrom_some sc.names n [] (.inl h);exact TZ.mp q
theorem yc {K:Mi}(S:NE N ps scope)(hd:A.handled=none)(e0:SB P w K mg base A outer s H)(hl:vs.length=ps.length)(r:aw vs us)(x:InCallC s s.heap.objs.size (bindL (envOfC qual scope s.heap.objs.size f cd).kindOf (ps.zip us) λ_=>none) (cellsFrom (s.heap.objs.size+1) scope.names []) (bindC (envOfC qual scope s.heap.objs.size f cd).kindOf (ps.zip us) λ_=>none) s1):
  Inv (cH CX P w K mg base N qual scope f cd A outer s H E) [] (gr N vs) H s1:=by
 have P0:ps.length<=N.length:=by have:=congrArg Rw S.pre;rw[Ph] at this;lia
 obtain⟨h1,tk,rfl,hk⟩:=x.done;have Vg:∀b:D',b∉(cH CX P w K mg base N qual scope f cd A outer s H E).ex:=λb z=>Mw (show b∈([]:List D') from z) (by simp);refine⟨⟨e0.mod,S.kind,rfl,rfl,MJ _,λy z c h1 h2=>?_,λy hy=>?_,λy c _ h=>?_,λ_=>hd,ael e0.frames,.inr ⟨rfl,rfl⟩,λb z=>Mw z (Vg b),e0.bs,e0.R',λb _ _=>Vg b,λb z=>Mw z (Vg b),e0.Qd,e0.Sb⟩,
  rfl,e0.bare,Un.kept hk,⟨_,x.toInCall.ns,λi y v h1 h2 h3=>?_⟩,λy c h=>⟨_,x.cell y c h⟩,e0.My.fresh (MJ _),λy c h=>?_,λp hp=>Mw (show p∈([]:List (D'×Mc)) from hp) (by simp),e0.My.kept hk,?_⟩
 .exact name_of_addr x.apart (Ru h1) (Ru h2)
 .have hy:scope.names.lookup y=some .cell\/scope.names.lookup y=some .free:=hy;rcases hy with hy|hy
  .exact rX hy
  .exact Mw rfl (S.aeO _ (Ru hy))
 .exact Uf (x.above y c (Ru h))
 .have hi:i<vs.length:=by
   unfold gr at h2
   by_cases hi:i<vs.length
   .exact hi
   .rw[US (by simpa using hi)] at h2;rw[List.getElem?_replicate] at h2
    split at h2 <;> cases h2
  have ha:vs[i]?=some v:=by
   unfold gr at h2;rw[SW (by simpa using hi),O0] at h2;cases e:vs[i]? with
   | none=>rw[e] at h2;cases h2
   | some a=>rw[e] at h2;cases h2;rfl
  obtain⟨u,hu,rv⟩:=r.get ha;have hp:ps[i]?=some y:=by
   rw[<-S.pre,abS (by lia)];exact h1
  have Vh:ps.Nodup:=by rw[<-S.pre];exact S.nd.sublist (Xw _ _)
  refine⟨u,rv,?_⟩;rcases S.par y (N1 hp) with k|k
  .exact .inl ⟨k,pU Vh hp hu k⟩
  .obtain⟨c,e⟩:=rX (n:=s.heap.objs.size+1) k;refine .inr ⟨.inl k,c,e,?_⟩;have q:=x.cell y c e;rw[pV Vh hp hu (by show scope.names.lookup y≠_;rw[k];decide)] at q;exact q
 .exact e0.My.fresh (Uf (x.above y c (Ru h)))
 .unfold gr;show _=N.length;rw[NQ,Ng,List.length_replicate];lia
theorem wz {CX:Pd}{P:MD}{w:Mt}{K:Mi}{mg:Me->Option G'}{base:Mp}{k:Nat}{f:D'}{name qual:Me}{params:Wb}{body:List Mv}{scope:OE}{dV kV doc pm MB ct oc:G'}{an od:Option D'}{PN:Array (Option G')}{N ps:List Me}{sp:Sp}(lk:K.lookup f=some ⟨oc,od,.func (Tk name qual params body scope dV kV doc pm an MB ct),PN⟩)(O6:Z9 K MB qual=true)(S:NE N ps scope)(len:∀vs H Q E,sp vs H Q E->vs.length=ps.length)(Tn:∀(A:ML) (outer:List NK) (s:Md) (H:Hp) (vs:List V) (Q:VK) (E:XK),Mg k (A.deeper (envOfC qual scope s.heap.objs.size f MB))->sp vs H Q E->
   ∃t,PY (cH CX P w K mg base N qual scope f MB A outer s H E) body t/\t { nx:=λ_ H'=>Q .MV H',rt:=Q } (gr N vs) H):
  MU P w K mg base CX (k+1) f (Tk name qual params body scope dV kV doc pm an MB ct) ps sp:=by
 refine⟨len,λA outer s H args us vs Q E hr e0 hb r Nj=>?_⟩;have hl:=len _ _ _ _ Nj;have KX:K.In s.heap:=e0.mod.Us.keeps λb o e=>(e0.bs b o e).1;have lim:s.heap.NoLimit:=e0.mod.nolimit.keeps λb o e=>(e0.bs b o e).1;have aeU:∀y∈ps.zip us,scope.names.lookup y.1=some .local \/(scope.names.lookup y.1=some .cell/\((cellsFrom (s.heap.objs.size+1) scope.names []).lookup y.1).isSome=true):=λ⟨n,v⟩ hy=>by
  rcases S.par n (acB hy).1 with q|q
  .exact .inl q
  .exact .inr ⟨q,W.cellsFrom_some _ _ _ (.inl q)⟩
 refine codeAny_call_function hr.depth (KX _ _ lk) rfl S.co S.gen rfl (W.codeRec_of KX O6) (hb _ _ _ _ ?_);refine wpAny_newFunctionEnv_cells S.kind aeU λenv he s1 x=>?_;subst he;refine⟨lim.keeps x.toInCall.keep,codeAny_func ?_⟩;obtain⟨t,ht,hq⟩:=Tn A outer s H vs Q E (hr.deeper _) Nj;have I:Inv (cH CX P w K mg base N qual scope f MB A outer s H E) [] (gr N vs) H s1:=yc S hr.hd e0 hl r x;refine QZ (ht [] s1 (gr N vs) H _ I hq) (λfl s' hs=>?_) λe s' hs=>hs;have fin:∀{MP:St}{H':Hp}{v:V}{u:G'},Inv (cH CX P w K mg base N qual scope f MB A outer s H E) [] MP H' s'->ax v u->Q v H'->CE outer P w H s Q u s':=
  λ{MP H' v u} J rv q=>⟨v,H',J.os,J.bare,J.base,J.My,rv,q⟩
 cases fl with
 | ret u=>
  obtain⟨v,MP,H',J,rv,q⟩:=hs;exact fin J rv q
 | next=>
  obtain⟨MP,H',J,q⟩:=hs;exact fin (v:=V.MV) (u:=Sv) J rfl q
 | brk=>
  obtain⟨_,_,_,q⟩:=hs;exact Pp q
 | cont=>
  obtain⟨_,_,_,q⟩:=hs;exact Pp q
section
def tCB (r:List V->Hp->VK->Prop)(t:TA):TE:=λσ H Q=>t σ H λvs H1=>r vs H1 Q
variable {id:String} in
theorem aE (hc:cC X (.builtin id) r)(hg:Gl X x)(hm:X.mg x=none)(hv:Pz x=some (.builtin id))(ha:PA X (e::es) t)(hn:x≠"__name__":=by decide)(QL:(x==("__debug__":Me))=false:=by decide)(he:NM (e::es) X.env=(false,eval e X.env)::NM es X.env:=by rfl)(P0:(backTo pos (NM es X.env)).any (·.1)=false:=by rfl):PE X (.Call (.Name x p) (e::es) [] pos) (tCB r t):=by
 intro aa s σ H Q I h;refine Xp (mS I hg hm hv ?_ hn QL);exact PyProof.Rows.callWith_builtin1 (ME (ha pos aa s σ H _ I h) λus s1 ⟨vs,H1,I1,r1,q1⟩=>hc aa s1 σ H1 vs us Q I1 r1 q1) he P0
theorem bp (hc:cC X (.type T) r)(hg:Gl X x)(hm:X.mg x=none)(hv:Pz x=some (.type T))(ha:PA X (e::es) t)(hn:x≠"__name__":=by decide)(QL:(x==("__debug__":Me))=false:=by decide)(he:NM (e::es) X.env=(false,eval e X.env)::NM es X.env:=by rfl)(P0:(backTo pos (NM es X.env)).any (·.1)=false:=by rfl):PE X (.Call (.Name x p) (e::es) [] pos) (tCB r t):=by
 intro aa s σ H Q I h;refine Xp (mS I hg hm hv ?_ hn QL);exact adJ (ME (ha pos aa s σ H _ I h) λus s1 ⟨vs,H1,I1,r1,q1⟩=>hc aa s1 σ H1 vs us Q I1 r1 q1) he P0
end
end L2
namespace HT
open PySem PyProof.Rows
def bS:List Int->List Int->Bool
 | [],[]=>false
 | [],_::_=>true
 | _::_,[]=>false
 | x::xs,y::ys=>if x=y then bS xs ys else decide (x<y)
theorem eF (x y:Int)(xs ys):bS (x::xs) (y::ys)=if x=y then bS xs ys else decide (x<y):=rfl
theorem Dw:bS [] []=false:=rfl
theorem oH (y:Int)(ys):bS [] (y::ys)=true:=rfl
theorem oI (x:Int)(xs):bS (x::xs) []=false:=rfl
section
open PySem.SeqAt
open PySem.AutoSeq1 (wpAny_loadPart')
open PySem.MeetsSeq PySem.MeetsSeq2 PySem.MeetsSeq3
end
section
theorem Cn (ht:IsTup s.heap t vs.toArray)(hb:IsTup s.heap b ws.toArray)(hv:vs≠[])(h1:ws=[]->Q (.ref t) s)(h2:ws≠[]->Q (.ref s.heap.objs.size) { s with heap:=s.heap.push { cls:=.type "tuple",data:=.seq (vs++ws).toArray } })(hsz:vs.length+ws.length<=Mz):Ml (Mr prog w) A (binaryOp .Add (.ref t) (.ref b)) Q E s:=by
 obtain⟨⟨cls,dd,data,sl⟩,ho,hc,n,hd⟩:=id ht;obtain⟨⟨afj,dd2,data2,sl2⟩,Tv,Ys,n2,hd2⟩:=id hb;simp only at hc hd Ys hd2;subst hc hd Ys hd2;have e:vs.toArray++ws.toArray=(vs++ws).toArray:=by simp
 by_cases hw:ws=[]
 .exact concat_meets ⟨_,ho,rfl⟩ ⟨_,Tv,rfl⟩ acv acP ab1 abX (abT _ _)
   (tuple_addW1 t b vs.toArray ws.toArray n n2 dd dd2 sl sl2 (by simpa using hv) (by simp[hw])) ⟨ho,Tv,h1 hw⟩
 .refine concat_meets ⟨_,ho,rfl⟩ ⟨_,Tv,rfl⟩ acv acP ab1 abX (abT _ _)
   (tuple_addW2 t b vs.toArray ws.toArray n n2 dd dd2 sl sl2 (by simpa using hv) (by simpa using hw) (by rw[ND,ND];exact hsz)) ⟨ho,Tv,?_⟩
  rw[e];exact h2 hw
def Nk (n d:Nat):Option Int->Nat
 | none=>d
 | some v=>if v<0 then (v+(n:Int)).toNat else min v.toNat n
theorem lY (n d:Nat):Nk n d none=d:=rfl
theorem vj (n d k:Nat):Nk n d (some (k:Int))=min k n:=by
 show(if (k:Int)<0 then ((k:Int)+(n:Int)).toNat else min (k:Int).toNat n)=min k n;rw[Mq (by lia),UV]
theorem DK (n d:Nat)(hd:d<=n)(o):Nk n d o<=n:=by
 cases o with
 | none=>exact hd
 | some v=>
  show(if v<0 then (v+(n:Int)).toNat else min v.toNat n)<=n
  by_cases hv:v<0
  .rw[Mu hv];lia
  .rw[Mq hv];exact Nat.min_le_right _ _
theorem vm (v:Int)(n d:Nat):(if v<0 then max (v+(n:Int)) 0 else min v (n:Int))=((Nk n d (some v):Nat):Int):=by
 show(if v<0 then max (v+(n:Int)) 0 else min v (n:Int))=(((if v<0 then (v+(n:Int)).toNat else min v.toNat n):Nat):Int)
 by_cases hv:v<0
 .simp only[Mu hv];lia
 .simp only[Mq hv];lia
theorem wA (lo hi)(n:Nat):abR lo hi 1 (n:Int)=(((Nk n 0 lo:Nat):Int),((Nk n n hi:Nat):Int)):=by
 have h1:¬((1:Int)<0):=by lia
 unfold abR;simp only[h1,if_false];refine XU ?_ ?_
 .cases lo with
  | none=>rfl
  | some v=>exact vm v n 0
 .cases hi with
  | none=>rfl
  | some v=>exact vm v n n
theorem wB (i j:Nat):aan (i:Int) (j:Int) 1=j-i:=by
 unfold aan;have h1:(1:Int) > 0:=by lia
 simp only[h1,if_true,Int.ediv_one]
 split <;> lia
theorem mX (p:U1 v o)(h:Q o s):Ml (Mr prog w) A (PH.Slice.slicePartIndex v) Q E s:=by
 cases p with
 | none=>exact slicePart_none h
 | int i t=>exact slicePart_int h
variable {prog:MD}{w:Mt}{A:ML}{E:G'->Md->Prop}{s:Md} in
theorem lZ {sl:D'}{vl vu:G'}{lo hi:Option Int}{n:Nat}{Q:Int×Int×Nat->Md->Prop}(hs:s.heap.IsSliceOf sl vl vu .none)(pl:U1 vl lo)(pu:U1 vu hi)(h:Q (((Nk n 0 lo:Nat):Int),1,Nk n n hi-Nk n 0 lo) s):Ml (Mr prog w) A (adR (.ref sl) (pure (n:Int))) Q E s:=by
 obtain⟨os,NB,Uv,hds⟩:=id hs;unfold adR PH.Slice.sliceFields;refine Mf (Mf (V7 NB hds (x:=vl) rfl (Mf (V7 NB hds (x:=vu) rfl (Mf (V7 NB hds (x:=.none) rfl (Mm ?_)))))));refine Mf (slicePart_none ?_);show Ml _ _ (if ((1:Int)==0)=true then _ else _) _ _ s;rw[Mq (by decide)];refine Mf (mX pl (Mf (mX pu (Mf (Mm ?_)))));show Ml _ _ (match abR lo hi 1 (n:Int) with|(lo,hi)=>pure (lo,(1:Int),aan lo hi 1)) _ _ s;rw[wA lo hi n];show Ml _ _ (pure (((Nk n 0 lo:Nat):Int),(1:Int),aan ((Nk n 0 lo:Nat):Int) ((Nk n n hi:Nat):Int) 1)) _ _ s;rw[wB];exact Mm h
theorem Av (xs:Array G')(i k:Nat):((Ox k).filterMap λ(m:Nat)=>xs[((i:Int)+(m:Int)*1).toNat]?).toArray=((xs.toList.drop i).take k).toArray:=by
 have e:(λ(m:Nat)=>xs[((i:Int)+(m:Int)*1).toNat]?)=λm=>xs[i+m]?:=by
  funext m
  have:((i:Int)+(m:Int)*1).toNat=i+m:=by lia
  rw[this]
 rw[e];have:=pick_run xs i k;rw[List.filterMap_map] at this;have e2:((λx=>xs[x]?)∘λx=>i+x)=λm=>xs[i+m]?:=rfl;rw[e2] at this;rw[this]
theorem lH {lo hi:Option Int}(ht:IsTup s.heap t items)(hs:s.heap.IsSliceOf sl vl vu .none)(pl:U1 vl lo)(pu:U1 vu hi)(hw:¬(Nk items.size 0 lo=0/\Nk items.size items.size hi=items.size))(h:Q (.ref s.heap.objs.size) { s with heap:=s.heap.push { cls:=.type "tuple",data:=.seq ((items.toList.drop (Nk items.size 0 lo)).take (Nk items.size items.size hi-Nk items.size 0 lo)).toArray } })(hsz:items.size<=Mz):Ml (Mr prog w) A (getItem (.ref t) (.ref sl)) Q E s:=by
 have ξ:sizeOk (.seq ((items.toList.drop (Nk items.size 0 lo)).take (Nk items.size items.size hi-Nk items.size 0 lo)).toArray):=by
  show((items.toList.drop (Nk items.size 0 lo)).take (Nk items.size items.size hi-Nk items.size 0 lo)).toArray.size<=Mz;rw[ND,Ph,XB,Od];lia
 have hj:Nk items.size items.size hi<=items.size:=DK _ _ (MJ _) hi;obtain⟨os,NB,Uv,hds⟩:=id hs;have hTs:s.TypeIs (.ref sl) "slice":=⟨os,NB,Uv⟩
 unfold getItem
 try with_reducible refine O2 ?_
 first|refine Mf (Mm ?_)|skip
 refine Mf (acr ht.typeIs (by decide) ?_);refine Mf (Zy (name:=RZ "__getitem__") ht.typeIs abN
  (Ra abN ht.typeIs entry_tuple_getitem ?_ (args_tuple_getitem _ _)))
 show Ml _ _ (adS (.ref t) >>= _) _ _ s;refine Mf (tupleItemsOf_ ht ?_);refine Mf (V6 hTs ?_);rw[Mu (by decide)];refine Mf (lZ hs pl pu ?_);have Tw:¬((((Nk items.size 0 lo:Nat):Int)==0&&(1:Int)==1&&(Nk items.size items.size hi-Nk items.size 0 lo)==items.size)=true):=by
  intro q;rw[QW,QW] at q;have q1:((Nk items.size 0 lo:Nat):Int)=0:=eq_of_beq q.1.1;have q2:Nk items.size items.size hi-Nk items.size 0 lo=items.size:=eq_of_beq q.2;exact hw ⟨by lia,by lia⟩
 show Ml _ _ (if (((Nk items.size 0 lo:Nat):Int)==0&&(1:Int)==1&&(Nk items.size items.size hi-Nk items.size 0 lo)==items.size)=true then _ else _) _ _ s;rw[Mq Tw,Av]
 first
  | exact Mf (m:=aaq _) (S8 (Mm ⟨_,rfl,Mm h⟩) ξ)
  | exact Mf (m:=aaq _) (S8 (Mf (Mm (Mm ⟨_,rfl,Mm h⟩))) ξ)
  | exact Mf (Mf (m:=aaq _) (S8 (Mm (Mm ⟨_,rfl,Mm h⟩)) ξ))
  | exact Mf (Mf (m:=aaq _) (S8 (Mm ⟨_,rfl,Mm h⟩) ξ))
end
end HT
namespace L2
open PySem PySem.Spec PyProof.Rows
abbrev TO:=St->Hp->(Option Int->Hp->Prop)->Prop
def PO (X:Cx)(e:Option MK)(t:TO):Prop:=
 ∀(aa:List (D'×Mc)) (s:Md) (σ:St) (H:Hp) (Q:Option Int->Hp->Prop),Inv X aa σ H s->t σ H Q->
  Ml (Mr X.prog X.w) X.A (evalPart e X.env) (λu s'=>∃o H',Inv X aa σ H' s'/\U1 u o/\Q o H') X.xe s
def Co:TO:=λ_ H Q=>Q none H
def HB (t:TE):TO:=λσ H Q=>t σ H λx H1=>∃i,x=.int i/\Q (some i) H1
theorem wC:∀{us:List G'},aw (ns.map V.int) us->Ry us ns:=by
 induction ns with
 | nil=>intro us r;rw[Z1] at r;cases r;exact .nil
 | cons n ns ih=>
  intro us r;rw[Nt] at r;cases r with
  | cons r1 r2=>
   obtain⟨t,e⟩:=r1;subst e;exact .cons n t (ih r2)
section
theorem oJ:PO X none Co:=by
 intro aa s σ H Q I h;rw[evalPart_none];exact Mm ⟨none,H,I,.none,h⟩
theorem oK (h:PE X e te):PO X (some e) (HB te):=by
 intro aa s σ H Q I hw;rw[evalPart_some];refine ME (h aa s σ H _ I hw) λu s1 ⟨x,H1,I1,r1,q1⟩=>?_;obtain⟨i,rfl,q⟩:=q1;obtain⟨t,rfl⟩:=r1;exact⟨some i,H1,I1,.int i t,q⟩
def SlR (X:Cx)(r:V->Option Int->Option Int->Hp->VK->Prop):Prop:=
 ∀(aa:List (D'×Mc)) (s:Md) (σ:St) (H:Hp) (x:V) (v vl vu:G') (lo hi:Option Int) (sl:D') (Q:VK),Inv X aa σ H s->ax x v->s.heap.IsSliceOf sl vl vu .none->U1 vl lo->U1 vu hi->r x lo hi H Q->
  ∃T id,typeLookup (.type T) "__getitem__"=pure (some (.builtin id))/\s.TypeIs v T/\Ml (Mr X.prog X.w) X.A (getItem v (.ref sl)) (EP X aa σ Q) X.xe s
def tSl (r:V->Option Int->Option Int->Hp->VK->Prop)(te:TE)(tl th:TO):TE:=λσ H Q=>te σ H λx H1=>tl σ H1 λl H2=>th σ H2 λu H3=>r x l u H3 Q
variable {lo:Option MK} in
theorem ma (hr:SlR X r)(he:PE X e te)(hl:PO X lo tl)(hu:PO X hi th):PE X (.Subscript e (.Slice lo hi none p2) pos) (tSl r te tl th):=by
 intro aa s σ H Q I h;refine Subscript_ (ME (he aa s σ H _ I h) λv s1 ⟨x,H1,I1,r1,q1⟩=>?_);refine wpAny_Slice (ME (hl aa s1 σ H1 _ I1 q1) λvl s2 ⟨l,H2,I2,pl,q2⟩=>ME (hu aa s2 σ H2 _ I2 q2) λvu s3 ⟨u,H3,I3,pu,q3⟩=>?_);rw[evalPart_none];refine Mm ?_;have I4:Inv X aa σ H3 { s3 with heap:=s3.heap.push { cls:=.type "slice",data:=.fields #[vl,vu,.none] } }:=I3.kept (t':=s3.toks) λb ob q=>MZ _ q;obtain⟨T,id,hT,ht,hg⟩:=hr aa { s3 with heap:=s3.heap.push { cls:=.type "slice",data:=.fields #[vl,vu,.none] } } σ H3 x v vl vu l u s3.heap.objs.size Q I4 r1 (Mp.IsSliceOf.new ..) pl pu q3;show Ml (Mr X.prog X.w) X.A (subscriptTail e (.Slice lo hi none p2) v (.ref s3.heap.objs.size)) (EP X aa σ Q) X.xe { s3 with heap:=s3.heap.push { cls:=.type "slice",data:=.fields #[vl,vu,.none] } };exact tail_any (ops:=[.ref s3.heap.objs.size,v]) ht hT hg (by with_unfolding_all rfl)
def cO (xs:List V)(lo hi:Option Int):List V:=(xs.drop (HT.Nk xs.length 0 lo)).take (HT.Nk xs.length xs.length hi-HT.Nk xs.length 0 lo)
theorem lK (xs)(lo hi):(cO xs lo hi).length<=xs.length:=by
 unfold cO;rw[Ph,XB];lia
def DL (K:Mi):V->Option Int->Option Int->Hp->VK->Prop:=λx lo hi H Q=>∃a xs,x=.ref a/\MR K H a xs/\
 ¬(HT.Nk xs.length 0 lo=0/\HT.Nk xs.length xs.length hi=xs.length)/\∀p,H p=none->Q (.ref p) (upd H p (.tup (cO xs lo hi)))
theorem DM:SlR X (DL X.K):=by
 intro aa s σ H x v vl vu lo hi sl Q I rx hs pl pu h;obtain⟨a,xs,rfl,hx,hw,q⟩:=h;cases rx;obtain⟨Mh,r,ht,hz⟩:=I.tuple hx;have hlen:Mh.toArray.size=xs.length:=by rw[ND];exact r.length.symm
 refine⟨"tuple",_,abN.lookup,ht.typeIs,?_⟩;refine HT.lH ht hs pl pu (by rw[hlen];exact hw) ?_ (by rw[hlen];exact hz);rw[hlen];refine⟨.ref s.heap.objs.size,_,I.laid (t':=s.toks) (o:=.tup (cO xs lo hi)) (λb ob q=>MZ _ q) (MJ _) ?_,rfl,q _ (I.My.fresh (MJ _))⟩;exact⟨OT (lK xs lo hi) hz,_,(r.drop (HT.Nk xs.length 0 lo)).take (HT.Nk xs.length xs.length hi-HT.Nk xs.length 0 lo),eY.new _ _⟩
def HC (K:Mi):R2:=λx y H Q=>∃a b xs ys,x=.ref a/\y=.ref b/\MR K H a xs/\MR K H b ys/\xs≠[]/\xs.length+ys.length<=Mz/\
 (ys=[]->Q (.ref a) H)/\(ys≠[]->∀p,H p=none->Q (.ref p) (upd H p (.tup (xs++ys))))
theorem aw.abk (r:aw xs us):us=[]↔xs=[]:=by
 cases r with
 | nil=>simp
 | cons _ _=>simp
theorem Cp:Nr X (binaryOp .Add) (HC X.K):=by
 intro aa s σ H x y v u Q I rx ry h;obtain⟨a,b,xs,ys,rfl,rfl,ha,hb,hx,hz,q1,q2⟩:=h;cases rx;cases ry;obtain⟨Mh,r1,p1,_⟩:=I.tuple ha;obtain⟨U6,r2,p2,_⟩:=I.tuple hb;refine HT.Cn p1 p2 (λz=>hx (r1.abk.mp z)) (λz=>⟨.ref a,H,I,rfl,q1 (r2.abk.mp z)⟩) (λz=>?_) (by rw[<-r1.length,<-r2.length];exact hz);refine⟨.ref s.heap.objs.size,_,I.laid (t':=s.toks) (o:=.tup (xs++ys)) (λb ob q=>MZ _ q) (MJ _) ?_,rfl,q2 (λw=>z (r2.abk.mpr w)) _ (I.My.fresh (MJ _))⟩;exact⟨by rw[NQ];exact hz,_,r1.append r2,eY.new _ _⟩
end
def Wn (n:Nat)(i:Int):Option Nat:=if 0<=i then (if i<n then some i.toNat else none) else if -(n:Int)<=i then some (i+n).toNat else none
def PP {α:Type}(xs:List α)(i:Int):Option α:=(Wn xs.length i).bind λj=>xs[j]?
theorem Cq (h:Wn n i=some j):seqIndex? i n=some j/\j<n/\-(n:Int)<=i/\i<n:=by
 unfold Wn at h
 by_cases h0:0<=i
 .rw[Mu h0] at h
  by_cases h1:i<n
  .rw[Mu h1] at h;have e:i.toNat=j:=Rv h;exact⟨by rw[seqIndex_of h0 h1,e],by lia,by lia,h1⟩
  .rw[Mq h1] at h;cases h
 .rw[Mq h0] at h
  by_cases h1:-(n:Int)<=i
  .rw[Mu h1] at h;have e:(i+n).toNat=j:=Rv h;exact⟨by rw[seqIndex_neg (by lia) h1,e],by lia,h1,by lia⟩
  .rw[Mq h1] at h;cases h
theorem vn {α:Type}{xs:List α}{i:Int}{v:α}(h:PP xs i=some v):∃j,seqIndex? i xs.length=some j/\xs[j]?=some v/\j<xs.length/\-(xs.length:Int)<=i/\i<xs.length:=by
 unfold PP at h;cases e:Wn xs.length i with
 | none=>rw[e] at h;cases h
 | some j=>
  rw[e] at h;obtain⟨h1,h2,h3,h4⟩:=Cq e;exact⟨j,h1,h,h2,h3,h4⟩
theorem ck {α:Type}{xs:List α}{j:Nat}{v:α}(h:xs[j]?=some v):PP xs (j:Int)=some v:=by
 have hj:j<xs.length:=(NP.mp h).1;have e:Wn xs.length (j:Int)=some j:=by
  unfold Wn;rw[Mu (by lia),Mu (by lia)];simp
 unfold PP;rw[e];exact h
def Cr (b:MK):Prop:=∀o i,subscripted b false o i=operate [o,i] (getItem o i)
def Nl (X:Cx)(r:R2):Prop:=
 ∀(value slice:MK) (aa:List (D'×Mc)) (s:Md) (σ:St) (H:Hp) (x y:V) (v u:G') (Q:VK),Inv X aa σ H s->ax x v->ax y u->r x y H Q->
  subscripted slice false v u=operate [v,u] (getItem v u)->Ml (Mr X.prog X.w) X.A (subscriptTail value slice v u) (EP X aa σ Q) X.xe s
def MtR (X:Cx)(id:String)(r:V->List V->Hp->VK->Prop):Prop:=
 ∀(aa:List (D'×Mc)) (s:Md) (σ:St) (H:Hp) (x:V) (xs:List V) (v:G') (us:List G') (Q:VK),Inv X aa σ H s->ax x v->aw xs us->r x xs H Q->
  Ml (Mr X.prog X.w) X.A (call (.builtin id) (v::us)) (EP X aa σ Q) X.xe s
section
theorem aJ (hr:Nl X r)(ha:PE X a ta)(hb:PE X b tb)(hs:Cr b):PE X (.Subscript a b pos) (Tu r ta tb):=by
 intro aa s σ H Q I h;exact Subscript_ (Am ha hb I h λv u s2 x y H2 I2 rx ry q=>hr a b aa s2 σ H2 x y v u Q I2 rx ry q (hs _ _))
def dG (K:Mi):R2:=λx y H Q=>∃p xs i v,x=.ref p/\y=.int i/\MA K H p xs/\PP xs i=some v/\Q v H
def bF (K:Mi):R2:=λx y H Q=>∃p xs i v,x=.ref p/\y=.int i/\MR K H p xs/\PP xs i=some v/\Q v H
theorem bE:Nl X (dG X.K):=by
 intro value slice aa s σ H x y v u Q I rx ry h hs;obtain⟨p,xs,i,z,rfl,rfl,hq,he,q⟩:=h;cases rx;obtain⟨t,rfl⟩:=ry;obtain⟨Mh,r,pl,hz⟩:=I.list hq;obtain⟨j,h1,h2,h3,h4,h5⟩:=vn he;obtain⟨w,ew,Sg⟩:=r.get h2;have hl:=r.length;have hn:=mW;have fin:EP X aa σ Q w s:=⟨z,H,I,Sg,q⟩
 by_cases h0:0<=i
 .have hj:i.toNat=j:=by
   rw[seqIndex_of h0 h5] at h1;exact Rv h1
  exact item_listR pl.isList h0 (by lia) (by rw[hj];simpa using ew) fin hs
 .have hj:(i+(Mh.toArray.size:Int)).toNat=j:=by
   rw[seqIndex_neg (by lia) h4] at h1;rw[ND,<-hl];exact Rv h1
  exact subscriptTail_builtinR (x:=w) pl.isList.typeIs slot_list_getitem.lookup
   (wpAny_getItem_list_neg (Q:=λr s'=>r=w/\EP X aa σ Q r s') pl.isList (by lia) (by rw[ND] <;> lia) (by lia) (by rw[hj];simpa using ew) ⟨rfl,fin⟩) hs
theorem bc:Nl X (bF X.K):=by
 intro value slice aa s σ H x y v u Q I rx ry h hs;obtain⟨p,xs,i,z,rfl,rfl,hq,he,q⟩:=h;cases rx;obtain⟨t,rfl⟩:=ry;obtain⟨Mh,r,pl,hz⟩:=I.tuple hq;obtain⟨j,h1,h2,h3,h4,h5⟩:=vn he;obtain⟨w,ew,Sg⟩:=r.get h2;have hl:=r.length;have hn:=mW;have fin:EP X aa σ Q w s:=⟨z,H,I,Sg,q⟩
 exact subscriptTail_builtinR (x:=w) pl.typeIs slot_tuple_getitem.lookup
  (getItem_tuple (j:=j) (Q:=λr s'=>r=w/\EP X aa σ Q r s') pl (by lia) (by lia) (by rw[ND,<-hl];exact h1) (by simpa using ew) ⟨rfl,fin⟩) hs
theorem rY (lo hi)(n:Nat):(sliceBounds lo hi none n).1=((HT.Nk n 0 lo:Nat):Int)/\(sliceBounds lo hi none n).2.1=((HT.Nk n n hi:Nat):Int)/\(sliceBounds lo hi none n).2.2=1:=by
 refine⟨?_,?_,rfl⟩
 .cases lo with
  | none=>simp[sliceBounds,HT.Nk]
  | some i=>
   simp only[sliceBounds,HT.Nk,aeF,show(1:Int) > 0 by decide,if_true]
   by_cases h:i<0
   .simp only[h,if_true] <;> lia
   .simp only[h,if_false] <;> lia
 .cases hi with
  | none=>simp[sliceBounds,HT.Nk]
  | some i=>
   simp only[sliceBounds,HT.Nk,aeF,show(1:Int) > 0 by decide,if_true]
   by_cases h:i<0
   .simp only[h,if_true] <;> lia
   .simp only[h,if_false] <;> lia
theorem re (Mh:List G')(lo hi:Option Int):slicePick Mh.toArray lo hi none=((Mh.drop (HT.Nk Mh.length 0 lo)).take (HT.Nk Mh.length Mh.length hi-HT.Nk Mh.length 0 lo)).toArray:=by
 obtain⟨h1,h2,h3⟩:=rY lo hi Mh.toArray.size;unfold slicePick;rw[h1,h2,h3];simp only[sliceRange_one,pick_run,ND] <;> rfl
def Ja (K:Mi):V->Option Int->Option Int->Hp->VK->Prop:=λx lo hi H Q=>∃a xs,x=.ref a/\MA K H a xs/\∀p,H p=none->Q (.ref p) (upd H p (.lst (cO xs lo hi)))
theorem vo:SlR X (Ja X.K):=by
 intro aa s σ H x v vl vu lo hi sl Q I rx hs pl pu h;obtain⟨a,xs,rfl,hx,q⟩:=h;cases rx;obtain⟨Mh,r,ht,hz⟩:=I.list hx;have hlen:=r.length;refine⟨"list",_,slot_list_getitem.lookup,ht.isList.typeIs,?_⟩;refine wpAny_getItem_list_slice ht.isList hs pl pu .none (by simp) ?_ (by rw[ND] <;> lia);rw[re,<-hlen];refine⟨.ref s.heap.objs.size,_,I.laid (t':=s.toks) (o:=.lst (cO xs lo hi)) (λb ob q=>MZ _ q) (MJ _) ?_,rfl,q _ (I.My.fresh (MJ _))⟩;exact⟨OT (lK xs lo hi) hz,_,0,(r.drop (HT.Nk xs.length 0 lo)).take (HT.Nk xs.length xs.length hi-HT.Nk xs.length 0 lo),NV _ rfl⟩
def cI:V->Bool
 | .MV=>true
 | .bl _=>true
 | .int _=>true
 | .str _=>true
 | _=>false
def OX:V->V->Bool
 | .MV,.MV=>true
 | .bl a,.bl b=>a==b
 | .bl a,.int b=>(if a then 1 else 0)==b
 | .int a,.bl b=>a==(if b then 1 else 0)
 | .int a,.int b=>a==b
 | .str a,.str b=>a==b
 | _,_=>false
theorem yd (ry:ax y u)(rx:ax x v)(fy:cI y=true)(fx:cI x=true):R3 A s u v (OX y x):=by
 cases y with
 | MV=>
  cases ry;cases x with
  | MV=>cases rx;exact XD _
  | bl b=>cases rx;exact R3.none_bool b
  | int b=>obtain⟨t,rfl⟩:=rx;exact R3.none_int b t
  | str b=>obtain⟨t,rfl⟩:=rx;exact R3.none_str b t
  | _=>exact Mw (show false=true from fx) Oo
 | bl a=>
  cases ry;cases x with
  | MV=>cases rx;exact R3.bool_none a
  | bl b=>cases rx;exact R3.bool_bool a b
  | int b=>obtain⟨t,rfl⟩:=rx;exact R3.bool_int a b t
  | str b=>obtain⟨t,rfl⟩:=rx;exact R3.bool_str a b t
  | _=>exact Mw (show false=true from fx) Oo
 | int a=>
  obtain⟨t',rfl⟩:=ry;cases x with
  | MV=>cases rx;exact R3.int_none a t'
  | bl b=>cases rx;exact R3.int_bool a t' b
  | int b=>obtain⟨t,rfl⟩:=rx;exact aaG a t' b t
  | str b=>obtain⟨t,rfl⟩:=rx;exact aew a t' b t
  | _=>exact Mw (show false=true from fx) Oo
 | str a=>
  obtain⟨t',rfl⟩:=ry;cases x with
  | MV=>cases rx;exact R3.str_none a t'
  | bl b=>cases rx;exact R3.str_bool a t' b
  | int b=>obtain⟨t,rfl⟩:=rx;exact aex a t' b t
  | str b=>obtain⟨t,rfl⟩:=rx;exact R3.str_str a t' b t
  | _=>exact Mw (show false=true from fx) Oo
 | _=>exact Mw (show false=true from fy) Oo
def Rm (x:V)(u:G'):Bool:=match u with
 | .none=>OX .MV x
 | .bool b=>OX (.bl b) x
 | .int i _=>OX (.int i) x
 | .str z _=>OX (.str z) x
 | _=>false
theorem mY (r:ax y u)(f:cI y=true):Rm x u=OX y x:=by
 cases y with
 | MV=>cases r;rfl
 | bl b=>cases r;rfl
 | int i=>obtain⟨t,rfl⟩:=r;rfl
 | str z=>obtain⟨t,rfl⟩:=r;rfl
 | _=>exact Mw (show false=true from f) Oo
theorem oM:∀{xs:List V}{us:List G'},aw xs us->xs.all cI=true->us.any (Rm x)=xs.any λy=>OX y x
 | _,_,.nil,_=>rfl
 | y::xs,u::us,.cons r t,f=>by
  rw[XI,QW] at f;rw[Td,Td,mY r f.1,oM t f.2]
theorem gU (rx:ax x v)(fx:cI x=true):∀{xs:List V}{us:List G'},aw xs us->xs.all cI=true->∀u∈us,R3 A s u v (Rm x u)
 | _,_,.nil,_=>λu hu=>by cases hu
 | y::xs,u::us,.cons r t,f=>λu' hu=>by
  rw[XI,QW] at f;rcases M0.mp hu with rfl|hu
  .rw[mY r f.1];exact yd r rx f.1 fx
  .exact gU rx fx t f.2 u' hu
def inV (x:V)(xs:List V):Bool:=xs.any λy=>OX y x
def rIn (K:Mi)(neg:Bool):R2:=λx y H Q=>∃p xs,y=.ref p/\(MA K H p xs\/MR K H p xs)/\cI x=true/\xs.all cI=true/\Q (.bl (if neg then !inV x xs else inV x xs)) H
theorem rZ:Nr X (OM .NotIn) (rIn X.K true):=by
 intro aa s σ H x y v u Q I rx ry h;obtain⟨p,xs,rfl,hq,fx,fs,q⟩:=h;cases ry;rcases hq with hq|hq
 .obtain⟨Mh,r,pl,hz⟩:=I.list hq;refine aez (Rm x) pl.isList (λw hw=>gU rx fx r fs w (by simpa using hw)) ⟨.bl _,H,I,rfl,?_⟩;rw[show Mh.toArray.any (Rm x)=Mh.any (Rm x) by simp,oM r fs];exact q
 .obtain⟨Mh,r,pl,hz⟩:=I.tuple hq;refine aep (Rm x) pl (λw hw=>gU rx fx r fs w (by simpa using hw)) ⟨.bl _,H,I,rfl,?_⟩;rw[show Mh.toArray.any (Rm x)=Mh.any (Rm x) by simp,oM r fs];exact q
theorem bh:cC X (.builtin "len") (λxs H Q=>∃p ys,xs=[.ref p]/\(MA X.K H p ys\/MR X.K H p ys)/\Q (.int ys.length) H):=by
 intro aa s σ H xs us Q I r h;obtain⟨p,ys,rfl,hq,q⟩:=h;obtain⟨u,rfl,rx⟩:=dw r;cases rx;have hn:=mW;rcases hq with hq|hq
 .obtain⟨Mh,r',pl,hz⟩:=I.list hq;have hlen:=r'.length;exact Calls.call_len_list pl.isList (by simp only[ND] <;> lia) ⟨.int ys.length,H,I.tok _,⟨s.toks+1,by rw[ND,hlen]⟩,q⟩
 .obtain⟨Mh,r',pl,hz⟩:=I.tuple hq;have hlen:=r'.length;exact len_tuple pl (by simp only[ND] <;> lia) ⟨.int ys.length,H,I.tok _,⟨s.toks+1,by rw[ND,hlen]⟩,q⟩
theorem jQ:cC X (.type "list") (λxs H Q=>∃p ys,xs=[.ref p]/\(MA X.K H p ys\/MR X.K H p ys)/\∀l,H l=none->Q (.ref l) (upd H l (.lst ys))):=by
 intro aa s σ H xs us Q I r h;obtain⟨p,ys,rfl,hq,q⟩:=h;obtain⟨u,rfl,rx⟩:=dw r;cases rx;have fin:∀(Mh:List G'),aw ys Mh->ys.length<=Mz->∀(h':Mp) (c':Nat),(∀b o',s.heap.get? b=some o'->h'.get? b=some o')->
   h'.get? s.heap.objs.size=some { cls:=.type "list",dict:=none,data:=.seq Mh.toArray c',slots:=#[] }->EP X aa σ Q (.ref s.heap.objs.size) { s with heap:=h' }:=λMh r' hz h' c' kp e=>
  ⟨.ref s.heap.objs.size,_,I.laid (t':=s.toks) kp (MJ _) (show bg X.prog X.w _ h' _ (.lst ys) from⟨hz,Mh,c',r',e⟩),rfl,q _ (I.My.fresh (MJ _))⟩
 rcases hq with hq|hq
 .obtain⟨Mh,r',pl,hz⟩:=I.list hq;have hlen:=r'.length;obtain⟨o,ho,hc,n,hd⟩:=pl.isList;exact call_list_seq p (.inl rfl) ho hc hd (λh' c' kp e=>fin Mh r' hz h' c' kp e) (by simp only[ND] <;> lia)
 .obtain⟨Mh,r',pl,hz⟩:=I.tuple hq;have hlen:=r'.length;obtain⟨o,ho,hc,n,hd⟩:=pl;exact call_list_seq p (.inr rfl) ho hc hd (λh' c' kp e=>fin Mh r' hz h' c' kp e) (by simp only[ND] <;> lia)
theorem cU:cC X (.type "tuple") (λxs H Q=>∃p ys,xs=[.ref p]/\((MA X.K H p ys/\∀l,H l=none->Q (.ref l) (upd H l (.tup ys)))\/(MR X.K H p ys/\Q (.ref p) H))):=by
 intro aa s σ H xs us Q I r h;obtain⟨p,ys,rfl,h⟩:=h;obtain⟨u,rfl,rx⟩:=dw r;cases rx;rcases h with⟨hq,q⟩|⟨hq,q⟩
 .obtain⟨Mh,r',pl,hz⟩:=I.list hq;have hlen:=r'.length;refine call_tuple_list pl.isList (λh' kp=>?_) (by simp only[ND] <;> lia);have I1:Inv X aa σ H { s with heap:=h' }:=I.kept (t':=s.toks) kp;have I2:Inv X aa σ (upd H h'.objs.size (.tup ys)) { s with heap:=h'.push { cls:=.type "tuple",data:=.seq Mh.toArray } }:=
   I1.laid (t':=s.toks) (λb o e=>MZ _ e) (MJ _) (show bg X.prog X.w _ _ _ (.tup ys) from⟨hz,Mh,r',eY.new _ _⟩)
  exact⟨.ref h'.objs.size,_,I2,rfl,q _ (I1.My.fresh (MJ _))⟩
 .obtain⟨Mh,r',pl,hz⟩:=I.tuple hq;exact call_tuple_same pl ⟨.ref p,H,I,rfl,q⟩
def tyV (K:Mi)(T:String)(x:V)(H:Hp):Prop:=match x with
 | .str _=>T="str"
 | .int _=>T="int"
 | .ref p=>(T="list"/\∃xs,MA K H p xs)\/(T="tuple"/\∃o,K.lookup p=some o/\o.cls=.type "tuple"/\o.dict=none)\/
   (T="dict"/\((∃kvs,H p=some (.dK kvs))\/∃kvs,H p=some (.dT kvs)))\/(T="set"/\∃S n,H p=some (.set S n))
 | _=>False
theorem DN {σ:St}(I:Inv X aa σ H s)(r:ax x v)(ty:tyV X.K T x H):
  s.TypeIs v T/\∀a,v=.ref a->∃ob,s.heap.get? a=some ob/\ob.dict=none:=by
 cases x with
 | str z=>
  obtain⟨t,rfl⟩:=r;cases (show T="str" from ty);exact⟨typeIs_str s z t,λ_ e=>nomatch e⟩
 | int i=>
  obtain⟨t,rfl⟩:=r;cases (show T="int" from ty);exact⟨abe s i t,λ_ e=>nomatch e⟩
 | ref p=>
  cases r;rcases ty with⟨rfl,xs,hq⟩|⟨rfl,o,hk,hc,hd⟩|⟨rfl,hk⟩|⟨rfl,S,n,hk⟩
  .obtain⟨Mh,_,pl,_⟩:=I.list hq;refine⟨pl.isList.typeIs,λa e=>?_⟩;cases e;obtain⟨o,n,e,c,hd,_⟩:=pl;exact⟨o,e,hd⟩
  .refine⟨⟨o,I.NZ p o hk,hc⟩,λa e=>?_⟩;cases e;exact⟨o,I.NZ _ o hk,hd⟩
  .have z:∃o,s.heap.get? p=some o/\o.ExactDict:=by
    rcases hk with⟨kvs,hk⟩|⟨kvs,hk⟩
    .obtain⟨_,_,_,_,o,_,_,e,ex,_⟩:=I.My p _ hk;exact⟨o,e,ex⟩
    .obtain⟨_,_,_,_,o,_,_,e,ex,_⟩:=I.My p _ hk;exact⟨o,e,ex⟩
   obtain⟨o,e,ex⟩:=z;refine⟨⟨o,e,ex.1⟩,λa e2=>?_⟩;cases e2;exact⟨o,e,ex.2.1⟩
  .obtain⟨o,_,_,_,e,ex,_⟩:=I.My p _ hk;refine⟨⟨o,e,ex.1⟩,λa e2=>?_⟩;cases e2;exact⟨o,e,ex.2.1⟩
 | _=>exact Pp ty
def tBM (K:Mi)(T:String)(r:V->List V->Hp->VK->Prop)(to:TE)(t:TA):TE:=λσ H Q=>to σ H λx H1=>tyV K T x H1/\t σ H1 λxs H2=>r x xs H2 Q
variable {X:Cx}{o:MK}{e:MK}{es:List MK}{to:TE}{t:TA}{name:Me}{apos:Ni}{Pr:Ni}{T:String}{id:String}{r:V->List V->Hp->VK->Prop} in
theorem eG (pa:PlainAttrs T)(slot:Slot T name id)(hty:typeOf (.builtin id)=pure (.type "method_descriptor"))(hm:MtR X id r)(ho:PE X o to)(ha:PA X (e::es) t)(aeV:attributeBase o name X.env (eval o X.env)=eval o X.env:=by rfl)(afk:((backTo Pr (NM (e::es) X.env)).all (λx=>!x.1)&&(backToKw Pr (keywordEach [] X.env)).all (λx=>x.1.isSome)
   && decide ((e::es).length+([]:List Keyword).length+(if ([]:List Keyword).isEmpty then 0 else 1)<30))=true:=by rfl)(aeW:(apos.endLine==Pr.line)=true:=by rfl)(hs:NM (e::es) X.env=(false,eval e X.env)::NM es X.env:=by rfl)(aeP:(backTo Pr (NM es X.env)).any (·.1)=false:=by rfl):
  PE X (.Call (.Attribute o name apos) (e::es) [] Pr) (tBM X.K T r to t):=by
 intro aa s σ H Q I h;refine wpAny_Call_method_late aeV afk aeW rfl (ME (ho aa s σ H _ I h) λv s1 ⟨x,H1,I1,r1,ty,q1⟩=>?_);obtain⟨h1,h2⟩:=DN I1 r1 ty;refine⟨T,id,pa,slot,hty,h1,h2,?_⟩;have hA:=ha Pr aa s1 σ H1 _ I1 q1;rw[hs] at hA ⊢;refine aec (by show(false||(backTo Pr (NM es X.env)).any (·.1))=false;rw[aeP] <;> rfl) (acg ?_);exact ME hA λus s2 ⟨vs,H2,I2,r2,q2⟩=>hm aa s2 σ H2 x vs v us Q I2 r1 r2 q2
end
def MtM (X:Cx)(id:String)(r:V->List V->Hp->VK->Prop):Prop:=
 ∀(aa:List (D'×Mc)) (s:Md) (σ:St) (H:Hp) (x:V) (xs:List V) (v:G') (us:List G') (Q:VK),Inv X aa σ H s->ax x v->aw xs us->r x xs H Q->
  Ml (Mr X.prog X.w) X.A (call (.builtin id) (v::us)) (EP X aa σ Q) X.xe s
theorem aw.one:∀{x:V}{us:List G'},aw [x] us->∃u,us=[u]/\ax x u
 | _,_,.cons r .nil=>⟨_,rfl,r⟩
theorem aw.two:∀{x y:V}{us:List G'},aw [x,y] us->∃u v,us=[u,v]/\ax x u/\ax y v
 | _,_,_,.cons r (.cons q .nil)=>⟨_,_,rfl,r,q⟩
theorem aw.rep (h:aw xs us):∀k:Nat,aw (O1 k xs).flatten (O1 k us).flatten
 | 0=>.nil
 | k+1=>by
  rw[VJ,VJ,ZH,ZH];exact aw.append h (aw.rep h k)
theorem pW (Mh):∀(k:Nat) (acc:List G'),
  abf (λx1 x2=>x1++x2) acc.toArray (O1 k Mh.toArray)=(acc++(O1 k Mh).flatten).toArray
 | 0,acc=>by simp
 | k+1,acc=>by
  have e:acc.toArray++Mh.toArray=(acc++Mh).toArray:=by simp
  have e2:(acc++Mh)++(O1 k Mh).flatten=acc++(O1 (k+1) Mh).flatten:=by
   rw[VJ,ZH,VP]
  rw[<-e2,<-pW Mh k (acc++Mh),<-e,VJ,VS]
section
variable {X:Cx}{aa:List (D'×Mc)}{σ:St}{H:Hp}{s:Md}{l:D'}{xs:List V}{ys:List V} in
theorem Inv.afl {Mh its':List G'}{n:Nat}{f:Array G'->Array G'}{t':Nat}(I:Inv X aa σ H s)(hH:H l=some (.lst xs))(e:s.heap.get? l=some { cls:=.type "list",data:=.seq Mh.toArray n })(hf:f Mh.toArray=its'.toArray)(hv:aw ys its')(hz:ys.length<=Mz):
  Inv X aa σ (upd H l (.lst ys)) { s with heap:=s.heap.update l (OU f),toks:=t' }:=by
 have q:=PySem.IsL.update e f;rw[hf] at q;refine I.write (x:=l) (e:=l) (by rw[hH];exact trivial) (.inl rfl) (λb' u hb hu=>(S0 s.heap (OU f) (M' hb)).trans hu) ⟨_,q⟩ ?_;exact⟨hz,its',_,hv,q⟩
variable {σ:St} in
theorem Inv.adj {t':Nat}(I:Inv X aa σ H s)(hv:aw ys Mh)(hz:ys.length<=Mz):
  Inv X aa σ (upd H s.heap.objs.size (.lst ys)) { s with heap:=s.heap.push { cls:=.type "list",data:=.seq Mh.toArray },toks:=t' }:=
 I.laid (λ_ _ q=>MZ _ q) (MJ _) ⟨hz,Mh,0,hv,NV _ rfl⟩
variable {σ:St} in
theorem Inv.fresh (I:Inv X aa σ H s):H s.heap.objs.size=none:=I.My.fresh (MJ _)
variable {σ:St} in
theorem Inv.υ (I:Inv X aa σ H s)(hH:H l=some (.lst xs)):xs.length<=Mz/\∃(Mh:List G') (n:Nat),aw xs Mh/\xs.length=Mh.length/\s.heap.get? l=some { cls:=.type "list",data:=.seq Mh.toArray n }:=by
 obtain⟨z,Mh,n,r,e⟩:=I.My l _ hH;exact⟨z,Mh,n,r,r.length,e⟩
theorem Aw (h:n<=Mz):abU n=false:=by
 unfold abU;exact M4 (by lia)
end
section
def Cs:V->List V->Hp->VK->Prop:=λx vs H Q=>∃l xs y,x=.ref l/\vs=[y]/\H l=some (.lst xs)/\xs.length<Mz/\Q .MV (upd H l (.lst (xs++[y])))
theorem cZ:MtM X "list.append" Cs:=by
 intro aa s σ H x vs v us Q I rx rv h;obtain⟨l,xs,y,rfl,rfl,hH,hz,q⟩:=h;cases rx;obtain⟨u,rfl,ru⟩:=rv.one;obtain⟨z,Mh,n,r,hl,e⟩:=I.υ hH;refine V9 F.slot_list_append ⟨_,e,rfl⟩ F.entry_list_append (F.args_list_append_2 _ _) (PySem.list_append l Mh.toArray n u (by rw[ND];lia)) ⟨e,?_⟩;refine⟨.MV,_,I.afl (its':=Mh++[u]) hH e (by simp) (r.append (.cons ru .nil)) ?_,rfl,q⟩;rw[NQ,ab6];lia
def Jb:R2:=λx y H Q=>∃l b xs zs,x=.ref l/\y=.ref b/\H l=some (.lst xs)/\H b=some (.lst zs)/\xs.length+zs.length<=Mz/\∀p,H p=none->Q (.ref p) (upd H p (.lst (xs++zs)))
theorem se:Nr X (binaryOp .Add) Jb:=by
 intro aa s σ H x y v u Q I rx ry h;obtain⟨l,b,xs,zs,rfl,rfl,hH,hB,hz,q⟩:=h;cases rx;cases ry;obtain⟨z,Mh,n,r,hl,e⟩:=I.υ hH;obtain⟨z2,U6,n2,r2,NC,e2⟩:=I.υ hB;refine PySem.P.add_list e e2 ?_ (by rw[ND,ND];lia);have ea:Mh.toArray++U6.toArray=(Mh++U6).toArray:=by simp
 rw[ea];exact⟨.ref _,_,I.adj (t':=s.toks) (r.append r2) (by rw[NQ];lia),rfl,q _ I.fresh⟩
def Jc:R2:=λx y H Q=>∃l k xs,x=.ref l/\y=.int k/\H l=some (.lst xs)/\-(2 ^ 63)<=k/\k<2 ^ 63/\xs.length*k.toNat<=Mz/\
 ∀p,H p=none->Q (.ref p) (upd H p (.lst (O1 k.toNat xs).flatten))
theorem Ct {α:Type}(xs:List α)(k:Nat):(O1 k xs).flatten.length=k*xs.length:=by
 induction k with
 | zero=>simp
 | succ k ih=>rw[VJ,ZH,NQ,ih,acW,Nat.add_comm]
theorem ye:Nr X (binaryOp .Mult) Jc:=by
 intro aa s σ H x y v u Q I rx ry h;obtain⟨l,k,xs,rfl,rfl,hH,h1,h2,hz,q⟩:=h;cases rx;obtain⟨t,rfl⟩:=ry;obtain⟨z,Mh,n,r,hl,e⟩:=I.υ hH;have hlen:Mh.toArray.size*k.toNat<=Mz:=by rw[ND,<-hl];exact hz
 have afm:¬Mh.toArray.size*k.toNat > (2 ^ 63-1) / 8:=by
  have:(Mz:Nat)<=(2 ^ 63-1) / 8:=by decide
  lia
 have afn:¬(!PH.List.listFitsIndex k)=true:=by
  rw[fitsIndex_both h1 h2];exact Oo
 have aeX:¬abU (Mh.toArray.size*k.toNat)=true:=by
  rw[Aw hlen];exact Oo
 have X3:abf (λx1 x2=>x1++x2) #[] (O1 (if Mh.toArray.isEmpty=true then 0 else k.toNat) Mh.toArray)=(O1 k.toNat Mh).flatten.toArray:=by
  have f0:∀m:Nat,abf (λx1 x2=>x1++x2) #[] (O1 m Mh.toArray)=(O1 m Mh).flatten.toArray:=λm=>by
   have:=pW Mh m [];rw[List.nil_append] at this;exact this
  rw[f0];cases Mh with
  | nil=>simp
  | cons a r'=>rw[Mq (by simp)]
 refine wpAny_binaryOp_repeat_ref (T:="list") (U:="int") (by decide) ⟨_,e,rfl⟩ (λs'=>abe s' k t) noFill_list_mul F.fills_int_mul F.slot_int_rmul repeat_list F.slot_int_index.lookup
  (V9 F.slot_int_rmul (abe s k t) F.entry_int_rmul (F.args_int_rmul_2 _ _) (int___rmul___int_list k t l Mh.toArray n)
   ⟨e,rfl,⟨_,e,rfl⟩,V9 F.slot_list_mul ⟨_,e,rfl⟩ F.entry_list_mul (F.args_list_mul_2 _ _) (AutoListH.list___mul___list_int_3 l Mh.toArray n k t afn afm aeX) ⟨e,?_⟩⟩)
 rw[X3];exact⟨.ref _,_,I.adj (t':=s.toks) (r.rep k.toNat) (by rw[Ct,Nat.mul_comm];exact hz),rfl,q _ I.fresh⟩
end
section
set_option maxRecDepth 100000 in
end
section
end
end L2
namespace Att
open PySem PySem.W PySem.Calls PyProof.Rows
theorem mZ:∀(ns:List Int) (vs:List G'),WellAll P h vs (ns.map WData.int)->Ry vs ns:=by
 intro ns
 induction ns with
 | nil=>
  intro vs w;rw[Z1] at w;cases w;exact .nil
 | cons n ns ih=>
  intro vs w;rw[Nt] at w;cases w with
  | cons a b=>
   cases a;exact .cons _ _ (ih _ b)
theorem yf {l:OpenLaw}(hn:l.most=some n)(χ:l.row.toRowW.claim.pre args=true)(hwl:WellAll P h vals args):
  ∃a vs ns,vals=[Nd a]/\args=[WData.list (ns.map WData.int)]/\h.get? a=some { cls:=.type "list",data:=.seq vs.toArray }/\Ry vs ns/\ns.length<=n:=by
 have hsh:WShape.hasAll [] args [.list .int]=true:=(pre_splitW χ).1;have hc:l.pre.holds [] { args:=args }=true:=(pre_splitW χ).2;obtain⟨d,r,rfl,h1,h2⟩:=hasAllW_cons hsh;obtain rfl:=hasAllW_nil h2;obtain⟨xs,rfl,h3⟩:=hasW_list h1;obtain⟨ns,rfl⟩:=abh h3;have hlen:ns.length<=n:=by
  unfold OpenLaw.pre at hc;have h4:(WTm.not (.lt (.lit (.int (n:Int))) (.len (.arg 0)))).holds [] { args:=[.list (ns.map .int)] }=true:=by
   have h4:=(holds_andW hc).1;rw[hn] at h4;exact h4
  have h5:=condW_of h4 (w_not (w_lt w_lit (w_len_list (w_arg rfl))));rw[Ng] at h5;refine acw λq=>?_;have q':(n:Int)<((ns.length:Nat):Int):=by lia
  first
   | (rw[M6 q'] at h5;exact Mw h5 (by decide))
   | (simp at h5;lia)
 cases hwl with
 | cons w1 w2=>
  cases w2;cases w1 with
  | list ho Qe=>exact⟨_,_,ns,rfl,rfl,ho,mZ ns _ Qe,hlen⟩
theorem yg (l:OpenLaw)(args:List WData):l.row.toRowW.claim.post args (.bool true) args=true:=
 postW_of (r:=l.row.toRowW) (X:=(true==true))
  (show WShape.has [] (.bool true) .bool=true by first|rfl|decide|simp[WShape.has,WShape.arms,WShape.armsAll])
  (show(WTm.eq .res (.lit (.bool true))).value [] { args:=args,res:=some (.bool true),after:=args }=some (.bool (true==true)) from w_eq_bool (w_res rfl) w_lit) rfl
theorem uP {l:OpenLaw}(hn:l.most=some n)(Yt:d.params.defaults=[])(call:∀(w:Mt) (Nv MN:Md) (mg mb:Me->Option G') (fa:D') (o:Mc) (pm cd doc:G') (a:D') (vs:List G') (ns:List Int),
   Ground q loose [] XP w Nv mg mb MN.heap->YP w MN.heap->
   MN.heap.get? fa=some o->o.data=.func (docDef d.name d.params d.body d.scope pm cd doc)->MN.heap.CodeRec cd d.name->mg d.name=some (.ref fa)->
   MN.heap.get? a=some { cls:=.type "list",data:=.seq vs.toArray }->Ry vs ns->ns.length<=n->MN.gens=#[]->
   codeAny (Mr l.prog w) callerA (.call (.ref fa) ⟨[.ref a],[]⟩) (λr s'=>r=.ok (.ret (.bool true))/\OldK MN.heap s'.heap/\s'.os=MN.os/\Sy s'.gens) MN):
  WalkO q loose XP YP l.row.toRowW d [] (λf vs=>ac1 f vs):=by
 intro w Nv MN mg mb G Y fa o pm cd doc dV kV ho hd O6 hD Yu hg args vals as χ af9 hrd hwl Yv;obtain rfl:dV=.none:=Dflts.none hD Yt;obtain rfl:kV=.none:=Dflts.noKw hD;obtain⟨a,vs,ns,rfl,rfl,abA,hints,hlen⟩:=yf hn χ hwl;refine enter_call (Ug (call w Nv MN mg mb fa o pm cd doc a vs ns G Y ho (fd_plain hd) O6 Yu abA hints hlen hg) λr s' hq=>?_);obtain⟨rfl,h2,h3,h4⟩:=hq;exact⟨.inl ⟨.bool true,.bool true,[],rfl,λ_=>rfl,.bool true,yg l _,λ_=>⟨T',λ_ hm=>(nomatch hm)⟩⟩,h2,h3,h4⟩
section
end
end Att
namespace L2
open PySem PySem.Spec PyProof.Rows
theorem ir:∀{vs:List G'}{ns:List Int},Ry vs ns->aw (ns.map V.int) vs
 | _,_,.nil=>.nil
 | _,_,.cons n t h=>.cons ⟨t,rfl⟩ (ir h)
def dz (s:Mv):Wb:=match s with
 | .FunctionDef _ a _ _ _ _ _ _ _ _=>a
 | _=>{ posonlyargs:=[],args:=[],vararg:=none,kwonlyargs:=[],kw_defaults:=[],kwarg:=none,defaults:=[] }
def cm (s:Mv):List Mv:=match s with
 | .FunctionDef _ _ b _ _ _ _ _ _ _=>b
 | _=>[]
def ak (s:Mv):OE:=match s with
 | .FunctionDef _ _ _ _ _ _ sc _ _ _=>sc
 | _=>{ kind:=.function,names:=[],isGenerator:=false,isCoroutine:=false }
abbrev MM:Pd:=λ_ _ _ _ _ _=>False
abbrev E0:XK:=λ_ _ _=>False
theorem nh:iQ MM X E0:=λ_ _ _ _ _ _ _ h=>h.elim
structure Nh (K)(x qual)(st)(f)(fd):Prop where
 ex:∃(oc:G') (od:Option D') (kV doc pm:G') (an:Option D') (MB ct:G') (PN:Array (Option G')),
  fd=Tk x qual (dz st) (cm st) (ak st) .none kV doc pm an MB ct/\K.lookup f=some ⟨oc,od,.func fd,PN⟩/\Z9 K MB qual=true
 kp:Sx K (.ref f)=true
section
variable {P:MD}{w:Mt}{K:Mi}{mg:Me->Option G'}{base:Mp} in
theorem Nh.ok {x qual:Me}{st:Mv}{f:D'}{fd:MY}{N ps:List Me}{k:Nat}{sp:Sp}(F:Nh K x qual st f fd)(S:NE N ps (ak st))(len:∀vs H Q E,sp vs H Q E->vs.length=ps.length)(Tn:∀(MB:G') (A:ML) (outer:List NK) (s:Md) (H:Hp) (vs:List V) (Q:VK) (E:XK),Mg k (A.deeper (envOfC qual (ak st) s.heap.objs.size f MB))->sp vs H Q E->
   ∃t,PY (cH MM P w K mg base N qual (ak st) f MB A outer s H E).Qt (cm st) t/\t { nx:=λ_ H'=>Q .MV H',rt:=Q } (gr N vs) H):MU P w K mg base MM (k+1) f fd ps sp:=by
 obtain⟨oc,od,kV,doc,pm,an,MB,ct,PN,rfl,lk,O6⟩:=F.ex;refine wz lk O6 S len λA outer s H vs Q E hr Nj=>?_;obtain⟨t,h,q⟩:=Tn MB A outer s H vs Q E hr Nj;exact⟨t,h.Qt,q⟩
variable {K:Mi} in
theorem Nh.binds {x qual:Me}{st:Mv}{f:D'}{fd:MY}{ps:List Me}(F:Nh K x qual st f fd)(h:∀(kV doc pm:G') (an:Option D') (MB ct:G') (us:List G'),us.length=ps.length->bindArgs (Tk x qual (dz st) (cm st) (ak st) .none kV doc pm an MB ct) ⟨us,[]⟩=pure (ps.zip us)):bK K fd ps []:=by
 obtain⟨oc,od,kV,doc,pm,an,MB,ct,PN,rfl,lk,O6⟩:=F.ex;exact .all (h kV doc pm an MB ct)
variable {K:Mi} in
theorem yh {x qual:Me}{st:Mv}{f:D'}{oc:G'}{od an:Option D'}{PN:Array (Option G')}{kV doc pm MB ct:G'}(l:K.lookup f=some ⟨oc,od,.func (Tk x qual (dz st) (cm st) (ak st) .none kV doc pm an MB ct),PN⟩)(c:Z9 K MB qual=true)(k:Sx K (.ref f)=true):Nh K x qual st f (Tk x qual (dz st) (cm st) (ak st) .none kV doc pm an MB ct):=⟨⟨oc,od,kV,doc,pm,an,MB,ct,PN,rfl,l,c⟩,k⟩
end
theorem rq (hr:Mg k A):A.units+1<MQ:=ack (Nat.add_le_add_left (by decide:1<=64) _) hr.units
section
theorem pv (i:Nat)(hN:X.N[i]?=some x:=by rfl)(hv:Yn X.env.scope x:=by first|exact MX rfl|exact NR (MX rfl)|exact NR (NR rfl))(hd:(x==("__debug__":Me))=false:=by decide)(O6:(x==("__classdict__":Me))=false:=by decide):PE X (.Name x pos) (dF i):=xO hN hv hd O6
end
theorem aK {A B:Prop}(h:B):if false=true then A else B:=by
 rw[Mq Oo];exact h
theorem aV {A B:Prop}(h:A):if true=true then A else B:=by
 rw[Mu rfl];exact h
theorem md {c A B:Prop}[Decidable c](h1:c->A)(h2:¬c->B):if c then A else B:=by
 by_cases h:c
 .rw[Mu h];exact h1 h
 .rw[Mq h];exact h2 h
def ar (H H':Hp):Prop:=∀b o,H b=some o->H' b=some o
theorem ar.refl (H):ar H H:=λ_ _ h=>h
theorem ar.trans (a:ar H H1)(b:ar H1 H2):ar H H2:=λc o h=>b c o (a c o h)
theorem ar.free (e:ar H H')(h:H' l=Option.none):H l=Option.none:=by
 cases q:H l with
 | none=>rfl
 | some o=>
  rw[e l o q] at h;cases h
end L2
set_option maxHeartbeats 4000000
namespace L2
open PySem PySem.Spec PyProof.Rows
theorem sf (x:bg P w H h a o):∃u,h.get? a=some u:=by
 cases o with
 | lst xs=>obtain⟨_,_,_,_,e⟩:=x;exact⟨_,e⟩
 | tup xs=>obtain⟨_,_,_,_,e,_⟩:=x;exact⟨_,e⟩
 | dK kvs=>obtain⟨_,_,_,_,o,_,_,e,_⟩:=x;exact⟨_,e⟩
 | dT kvs=>obtain⟨_,_,_,_,o,_,_,e,_⟩:=x;exact⟨_,e⟩
 | set S n=>obtain⟨o,_,_,_,e,_⟩:=x;exact⟨_,e⟩
 | ins C dx fs=>obtain⟨_,_,_,e,_⟩:=x;exact⟨_,e⟩
 | own y=>obtain⟨_,e⟩:=x;exact⟨_,e⟩
 | xd fs=>obtain⟨_,⟨_,_,_,e,_⟩,_⟩:=x;exact⟨_,e⟩
 | Rj lo hi=>obtain⟨_,_,_,e⟩:=x;exact⟨_,e⟩
 | NO ob u=>obtain⟨e,_⟩:=x;exact⟨_,e⟩
 | Pu ps=>exact⟨_,show h.get? a=some _ from x⟩
 | met f y=>exact⟨_,show h.get? a=some _ from x⟩
 | ext φ=>obtain⟨_,⟨_,e⟩,_⟩:=x;exact⟨_,e⟩
def Yw (h:Mp)(e:D')(cls:G')(T:D'):Prop:=
 ∃a0 oe vs oT ts,h.get? e=some oe/\(oe.cls=cls/\vs[0]?=some a0)/\oe.data=.fields vs/\vs[1]?=some (.ref T)/\T≠e/\h.get? T=some oT/\oT.data=.fields ts/\ts[3]?=some .none
theorem Yw.abn (x:Yw h e cls T)(hT:B.get? T=none):∃a0,h.TracedW B e cls a0:=by
 obtain⟨a0,oe,vs,oT,ts,x1,x2,x3,x4,x5,x6⟩:=x;exact⟨a0,oe,vs,T,oT,ts,x1,x2,x3,x4,hT,x5,x6⟩
theorem sg (x:h.TracedW B e cls a0):∃T,Yw h e cls T/\B.get? T=none:=by
 obtain⟨oe,vs,T,oT,ts,x1,x2,x3,x4,hT,x5,x6⟩:=x;exact⟨T,⟨a0,oe,vs,oT,ts,x1,x2,x3,x4,x5,x6⟩,hT⟩
structure Fly (h0:Mp)(H:Hp)(e:D')(cls:G')(h:Mp):Prop where
 new:h0.get? e=none
 free:H e=none
 tr:∃T,Yw h e cls T/\h0.get? T=none/\H T=none
def Nb (P:MD)(w:Mt):Pd:=λouter H s E e s'=>
 ∃(ea:D') (cls:G') (H':Hp),e=.ref ea/\s'.os=s.os/\Sy s'.gens/\Un (Nq outer) [] H H' s.heap s'.heap/\N5 P w H' s'.heap/\Fly s.heap H' ea cls s'.heap/\E cls none H'
section
variable {X:Cx} in
theorem BJ (Q2:X.stack=X.env::X.outer)(hb:b∈X.fs):b∈Nq X.stack:=by
 rw[Q2];obtain⟨env,he,hf⟩:=Qm.mp hb;exact Qm.mpr ⟨env,Na _ he,hf⟩
variable {σ:St} in
theorem kM (I:Inv X aa σ H s)(hb:b∈Nq X.stack):∃o,s.heap.get? b=some o/\∀vs,o.data≠.fields vs:=(I.stack.mem hb).2
variable {σ:St} in
theorem oO (I:Inv X aa σ H s)(hex:X.ex=[])(Q2:X.stack=X.env::X.outer)(hl:∀b∈l,H b=none/\X.Nv.heap.get? b=none)(he:H e=none)(Oz:X.Nv.heap.get? e=none)(st:∀b o,b∉Nq X.stack->b∉l->s.heap.get? b=some o->h'.get? b=some o)(up:s.heap.UpToSlots h')(tr:h'.TracedW (Rx s.heap (Nq X.stack++l)) e cls a0)(q:E cls none H):
  Nb X.prog X.w X.outer X.U4 X.Nv E (.ref e) { s with heap:=h' }:=by
 have Qc:∀b,b∉X.ex:=λb z=>by rw[hex] at z;exact Mw z (by simp)
 have nfr:∀b o,X.Nv.heap.get? b=some o->b∉X.fs->b∉Nq X.stack:=λb o e1 nb z=>by
  rcases M0.mp (I.Rf b z) with r|r
  .exact Mw (NH (MS e1) I.ok.above) (by rw[r];exact RX _)
  .exact nb r
 have nl:∀b o,X.Nv.heap.get? b=some o->b∉l:=λb o e1 z=>by rw[(hl b z).2] at e1;cases e1
 have abB:∀b,b∈Nq X.stack->∃o sl,s.heap.get? b=some o/\(∀vs,o.data≠.fields vs)/\h'.get? b=some { o with slots:=sl }:=λb hb=>by
  obtain⟨o,e1,nd⟩:=kM I hb;obtain⟨sl,e2⟩:=up b o e1 nd;exact⟨o,sl,e1,nd,e2⟩
 obtain⟨T,Uw,hT⟩:=sg tr;refine⟨e,cls,H,rfl,I.os,I.bare,⟨λb o e1 n hb _=>?_,λb o e1 n hb _=>?_,λb o e1 n _=>I.base.free b o e1 n (Qc b),λb o e1 _=>?_,I.base.OG,I.base.QF,I.base.QG⟩,λa o ea=>?_,⟨Oz,he,T,Uw,?_,?_⟩,q⟩
 .exact st b o (nfr b o e1 hb) (nl b o e1) (I.base.keep b o e1 n hb (Qc b))
 .obtain⟨sl,e2⟩:=I.base.slot b o e1 n hb (Qc b);obtain⟨o',Va,e3,nd,e4⟩:=abB b (BJ Q2 hb);rw[e2] at e3;cases e3;exact⟨Va,e4⟩
 .obtain⟨o',e2⟩:=I.base.there b o e1 (Qc b)
  by_cases hb:b∈Nq X.stack
  .obtain⟨_,_,_,_,e4⟩:=abB b hb;exact⟨_,e4⟩
  .exact⟨o',st b o' hb (nl b o e1) e2⟩
 .refine(I.My a o ea).RA (λb u hb e1=>st b u (λz=>?_) (λz=>?_) e1) (λ_ z=>z) λ_ _ z=>z
  .have n:=I.ζ b z;rcases hb with r|r
   .rw[r,ea] at n;cases n
   .rw[r] at n;cases n
  .have n:=(hl b z).1;rcases hb with r|r
   .rw[r,ea] at n;cases n
   .rw[r] at n;cases n
 all_goals
  have nfT:T∉Nq X.stack:=λz=>by
   obtain⟨o,sl,_,nd,e4⟩:=abB T z;obtain⟨_,_,_,oT,ts,_,_,_,_,_,e5,e6,_⟩:=Uw;rw[e4] at e5;cases e5;exact nd ts e6
  have old:T∈l\/s.heap.get? T=none:=by
   by_cases z:T∈l
   .exact .inl z
   .refine .inr ?_;cases e1:s.heap.get? T with
    | none=>rfl
    | some o=>
     rw[Tc _ e1 (λm=>(Ny.mp m).elim nfT z)] at hT;cases hT
 .rcases old with z|z
  .exact(hl T z).2
  .cases e1:X.Nv.heap.get? T with
   | none=>rfl
   | some o=>
    obtain⟨o',e2⟩:=I.base.there T o e1 (Qc T);rw[z] at e2;cases e2
 .rcases old with z|z
  .exact(hl T z).1
  .cases e1:H T with
   | none=>rfl
   | some o=>
    obtain⟨u,e2⟩:=sf (I.My T o e1);rw[z] at e2;cases e2
end
def cM (CX:Pd)(X:Cx)(E:St->XK):Prop:=∀(aa:List (D'×Mc)) (σ:St) (H:Hp) (s:Md) (e:G') (s':Md),Inv X aa σ H s->CX X.stack H s (E σ) e s'->X.xe e s'
def si (X:Cx)(E:St->XK):Prop:=∀(aa:List (D'×Mc)) (σ:St) (H:Hp) (s:Md) (h':Mp) (e:D') (cls:G') (vs:List G'),Inv X aa σ H s->Mp.MadeExcOf s.heap h' e cls vs->E σ cls none H->X.xe (.ref e) { s with heap:=h' }
def DQ (sp:Sp)(OJ:List V)(E:St->XK)(t:TA):TE:=λσ H Q=>t σ H λvs H1=>sp (vs++OJ) H1 Q (E σ)
section
variable {X:Cx}{CX:Pd}{k:Nat}{f:D'}{fd:MY}{ps:List Me}{sp:Sp}{OJ:List V}{ds:List G'}{E:St->XK} in
theorem vp {aa:List (D'×Mc)}{σ:St}{H:Hp}{s:Md}{Q:VK}{us:List G'}{vs:List V}(F:MU X.prog X.w X.K X.mg X.base CX k f fd ps sp)(hr:Mg k X.A)(hb:bK X.K fd ps ds)(hd:aw OJ ds)(hx:cM CX X E)(I:Inv X aa σ H s)(r:aw vs us)(h:sp (vs++OJ) H Q (E σ)):Ml (Mr X.prog X.w) X.A (call (.ref f) us) (EP X aa σ Q) X.xe s:=by
 have r2:aw (vs++OJ) (us++ds):=r.append hd;have hl:(us++ds).length=ps.length:=by rw[<-r2.length];exact F.len _ _ _ _ h
 refine Z5 (Ug (F.run X.A X.stack s H ⟨us,[]⟩ (us++ds) (vs++OJ) Q (E σ) hr I.τ (hb s us I.NZ hl) r2 h) λr s' hq=>?_);cases r with
 | error e=>exact hx aa σ H s e s' I hq
 | ok fl=>
  cases fl with
  | ret u=>exact I.after hq
  | next=>exact Pp hq
  | brk=>exact Pp hq
  | cont=>exact Pp hq
theorem Ax (F:MU X.prog X.w X.K X.mg X.base CX k f fd ps sp)(hr:Mg k X.A)(hg:Gl X x)(hm:X.mg x=some (.ref f))(hk:Sx X.K (.ref f)=true)(hb:bK X.K fd ps ds)(hd:aw OJ ds)(hx:cM CX X E)(ha:PA X (e::es) t)(QL:(x==("__debug__":Me))=false:=by decide)(he:NM (e::es) X.env=(false,eval e X.env)::NM es X.env:=by rfl)(P0:(backTo pos (NM es X.env)).any (·.1)=false:=by rfl):
  PE X (.Call (.Name x p) (e::es) [] pos) (DQ sp OJ E t):=by
 intro aa s σ H Q I h;refine Xp (gJ I hg hm ?_ QL);refine W.callWith_K (h₀:=X.base) I.ok.mod.Us hk (ME (ha pos aa s σ H _ I h) λus s1 ⟨vs,H1,I1,r,q⟩=>⟨I1.NZ,?_⟩) he P0;exact vp F hr hb hd hx I1 r q
end
theorem aX:cM MM X E:=λ_ _ _ _ _ _ _ h=>h.elim
section
variable {K:Mi} in
theorem Ay:cM (Nb P w) (cH (Nb P w) P w K mg base N qual scope f cd A outer MN H₁ E) (λ_=>E):=by
 intro aa σ H s e s' I hx;obtain⟨ea,cls,H',rfl,ho,hg,un,My,fl,q⟩:=hx;have I':=I.XZ (ch:=[]) ho un My hg (λb z=>Mw z (by simp));obtain⟨T,Uw,Yx,Yy⟩:=fl.tr;have up:∀b,s.heap.get? b=none->MN.heap.get? b=none:=λb hb=>by
  cases e1:MN.heap.get? b with
  | none=>rfl
  | some o=>
   obtain⟨o',e2⟩:=I.base.there b o e1 (by intro z;exact Mw (show b∈([]:List D') from z) (by simp));rw[hb] at e2;cases e2
 have hB:∀b∈[ea,T],(Rx s'.heap (Nq (cH (Nb P w) P w K mg base N qual scope f cd A outer MN H₁ E).stack++[ea,T])).get? b=none:=λb hb=>XG _ (OA _ hb);obtain⟨a0,tw⟩:=Uw.abn (hB T (by simp));show Ml (Mr P w) (A.deeper (envOfC qual scope MN.heap.objs.size f cd)) (leaving (envOfC qual scope MN.heap.objs.size f cd) (.ref ea)) _ _ s';refine wpAny_leaving_nextW (outer:=outer) (L:=MN.heap.objs.size) I'.ok.frames (ZO I'.stack λenv he a ha=>P6 _ (Qm.mpr ⟨env,he,ha⟩)) rfl tw (λb o z=>V4 _ z) (hB ea (by simp)) λh' hL=>?_;obtain⟨k1,k2,k3,k4⟩:=hL;exact oO (X:=cH (Nb P w) P w K mg base N qual scope f cd A outer MN H₁ E) (l:=[ea,T]) I' rfl rfl
  (λb hb=>by
   rcases M0.mp hb with z|z
   .rw[z];exact⟨fl.free,up ea fl.new⟩
   .rw[N3.mp z];exact⟨Yy,up T Yx⟩)
  fl.free (up ea fl.new) (λb o z1 z2 e1=>k1 b o (Tc _ e1 λm=>(Ny.mp m).elim z1 z2)) k4 k3 q
variable {K:Mi} in
theorem wD:si (cH (Nb P w) P w K mg base N qual scope f cd A outer MN H₁ E) (λ_=>E):=by
 intro aa σ H s h1 e cls vs I hm q;show Ml (Mr P w) (A.deeper (envOfC qual scope MN.heap.objs.size f cd)) (leaving (envOfC qual scope MN.heap.objs.size f cd) (.ref e)) _ _ { s with heap:=h1 };have hn:H e=none:=by
  cases e1:H e with
  | none=>rfl
  | some o=>
   obtain⟨u,e2⟩:=sf (I.My e o e1);rw[hm.new] at e2;cases e2
 have h0:MN.heap.get? e=none:=by
  cases e1:MN.heap.get? e with
  | none=>rfl
  | some o=>
   obtain⟨o',e2⟩:=I.base.there e o e1 (by intro z;exact Mw (show e∈([]:List D') from z) (by simp));rw[hm.new] at e2;cases e2
 refine wpAny_leaves_madeW (base:=Rx s.heap (Nq (cH (Nb P w) P w K mg base N qual scope f cd A outer MN H₁ E).stack++[])) (h:=s.heap) (outer:=outer) (L:=MN.heap.objs.size) (cls:=cls) (args:=vs) I.ok.frames rfl (λb o z=>V4 _ z)
  (ZO I.stack λenv he a ha=>P6 _ (Qm.mpr ⟨env,he,ha⟩)) hm λh' t fl _ _ ups=>?_
 obtain⟨k1,k2,k3,k4⟩:=fl;exact oO (X:=cH (Nb P w) P w K mg base N qual scope f cd A outer MN H₁ E) (s:=s) (l:=[]) I rfl rfl (λb z=>Mw z (by simp)) hn h0
  (λb o z1 z2 e1=>k1 b o (Tc _ e1 λm=>(Ny.mp m).elim z1 z2)) ((Mp.UpToSlots.of_keeps hm.keeps).trans ups) k4 q
end
theorem Nh.QM {P:MD}{w:Mt}{K:Mi}{mg:Me->Option G'}{base:Mp}{x qual:Me}{st:Mv}{f:D'}{fd:MY}{N ps:List Me}{k:Nat}{sp:Sp}(F:Nh K x qual st f fd)(S:NE N ps (ak st))(len:∀vs H Q E,sp vs H Q E->vs.length=ps.length)(Tn:∀(X:Cx) (MB:G') (A:ML) (outer:List NK) (s:Md) (H:Hp) (vs:List V) (Q:VK) (E:XK),X=cH (Nb P w) P w K mg base N qual (ak st) f MB A outer s H E->cM (Nb P w) X (λ_=>E)->si X (λ_=>E)->
   Mg k X.A->sp vs H Q E->∃t,PY X (cm st) t/\t { nx:=λ_ H'=>Q .MV H',rt:=Q } (gr N vs) H):MU P w K mg base (Nb P w) (k+1) f fd ps sp:=by
 obtain⟨oc,od,kV,doc,pm,an,MB,ct,PN,rfl,lk,O6⟩:=F.ex;refine wz lk O6 S len λA outer s H vs Q E hr Nj=>?_;exact Tn _ MB A outer s H vs Q E rfl Ay wD hr Nj
section
theorem PS.Qt {st:Mv}(h:PS X.Qt st t):PS X st t:=λaa s σ H D I hw=>
 QZ (h aa s σ H D (I.Qr _) hw) (λ_ _ q=>q.R7) λ_ _ z=>Pp z
end
abbrev Yz:List G':=[.type "ValueError",.type "Exception",.type "BaseException",.type "object"]
theorem HD {K:Mi}(I:K.In h)(q:Wc K C bmB newId=true):
  ∃bm N nm qn bs hdct sn sub ab col dd k0 k1 k2 k3 k5 mN,h.get? C=some (excClassObj nm qn C N bs bm hdct sn sub ab col dd k0 k1 k2 k3 k5 newId)/\h.Ns N mN/\mN "__init__"=none/\OwnTail h bmB bm:=by
 unfold Wc at q
 split at q
 case h_2=>cases q
 case h_1 dd cd sl lk=>
  split at q
  case h_2=>cases q
  case h_1 C' bm k0 k1 k2 k3 nid k5 em es=>
   rw[QW,QW,QW,QW,QW] at q;obtain⟨⟨⟨⟨⟨q1,q2⟩,q3⟩,q4⟩,q5⟩,q6⟩:=q;have e1:C'=C:=beq_iff_eq.mp q1;have e2:nid=newId:=beq_iff_eq.mp q2;have e3:cd.hasDel=false:=by cases hh:cd.hasDel with
    | false=>rfl
    | true=>rw[hh] at q3;cases q3
   subst e1 e2;have e4:sl=#[k0,k1,k2,k3,some (.builtin nid),k5]:=by
    cases sl with
    | mk l=>exact congrArg Array.mk es
   cases cd with
   | mk name bases mro ns qualname hasDict slotNames subclasses abstract collection hasDel=>
    simp only at em e3;subst em e3 e4;exact⟨bm,ns,name,qualname,bases,hasDict,slotNames,subclasses,abstract,collection,dd,k0,k1,k2,k3,k5,_,I _ _ lk,
     .of_isNs (W.isNs_of_in I q5),W.nsMap_none_of_in I q5 (beq_iff_eq.mp q6),W.tail_of_in I q4⟩
structure Rh (K)(mg:Me->Option G')(x)(C):Prop where
 bound:mg x=some (.ref C)
 ok:Wc K C Yz "ValueError.__new__"=true
def DR (C:D')(E:St->XK)(t:TA):TS:=λ_ σ H=>t σ H λvs H1=>vs.length<=Mz/\E σ (.ref C) none H1
theorem bN (hc:X.calm=true)(hg:Gl X x)(O:Rh X.K X.mg x C)(hr:si X E)(ha:PA X (ψ::rest) t)(hd:(x==("__debug__":Me))=false:=by decide)(he:NM (ψ::rest) X.env=(false,eval ψ X.env)::NM rest X.env:=by rfl)(P0:(backTo Pr (NM rest X.env)).any (·.1)=false:=by rfl):
  PS X (.Raise (some (.Call (.Name x np) (ψ::rest) [] Pr)) none pos) (DR C E t):=by
 intro aa s σ H D I h;obtain⟨bm,N,nm,qn,bs,hdct,sn,sub,ab,col,dd,k0,k1,k2,k3,k5,mN,hC,hN,hni,T⟩:=HD I.ok.mod.Us O.ok;refine wpAny_Raise_call_subT (C:=C) (nm:=nm) (q:=qn) (N:=N) (bs:=bs) (bm:=bm) (hdct:=hdct) (sn:=sn) (sub:=sub) (ab:=ab) (col:=col) (dd:=dd) (k0:=k0) (k1:=k1) (k2:=k2) (k3:=k3) (k5:=k5) (mN:=mN)
  PySem.F.excBase_ValueError (T.hasType (by decide +kernel)) (I.ok.hd hc) (by rw[he];show(false||(backTo Pr (NM rest X.env)).any (·.1))=false;rw[P0];rfl) hni (gJ I hg O.bound ⟨rfl,?_⟩ hd)
 have h2:=ha Pr aa s σ H _ I h;rw[he] at h2 ⊢;refine acg (ME h2 λus s2 ⟨vs,H2,I2,r,q1,q2⟩=>⟨rfl,by rw[<-r.length];exact q1,I2.bk _ _ hC,hN.keeps I2.bk,T.keeps I2.bk,λh' e hm=>?_⟩);exact hr aa σ H2 s2 h' e _ _ I2 hm q2
theorem gW:∀(names:List (Me×Th)) (acc:List (Me×D')),(∀y∈names,y.2=.free->∃c,env.cells.lookup y.1=some c)->
  ∃cl,(forIn (m:=Pb) names acc λ(y:Me×Th) cs=>(do if (y.2==V0)=true then (do let c <-cellOf env y.1;pure (VT ((y.1,c)::cs))) else pure (VT cs)))=pure cl/\
   (∀y c,cl.lookup y=some c->acc.lookup y=some c\/env.cells.lookup y=some c)/\(∀y∈names,y.2=.free->(cl.lookup y.1).isSome=true)/\∀y,(acc.lookup y).isSome=true->(cl.lookup y).isSome=true
 | [],acc,_=>⟨acc,rfl,λ_ _ e=>.inl e,(λ_ h=>Mw h (by simp)),λ_ e=>e⟩
 | (n,k)::r,acc,h=>by
  by_cases hk:k=.free
  .subst hk;obtain⟨c,hc⟩:=h (n,.free) MO rfl;obtain⟨cl,e1,e2,e3,e4⟩:=gW r ((n,c)::acc) λy hy=>h y (Na _ hy);have look:∀y,UY y ((n,c)::acc)=if (y==n)=true then some c else acc.lookup y:=λy=>by
    rw[UW];cases (y==n) <;> rfl
   refine⟨cl,?_,λy d e=>?_,λy hy hf=>?_,λy e=>?_⟩
   .rw[acC];have hco:cellOf env n=pure c:=by unfold cellOf;rw[hc]
    simp only[beq_self_eq_true,if_true,hco,pure_bind];exact e1
   .rcases e2 y d e with z|z
    .rw[look] at z
     by_cases hy:(y==n)=true
     .rw[Mu hy] at z;have:y=n:=by simpa using hy
      subst this;rw[hc];exact .inr z
     .rw[Mq hy] at z;exact .inl z
    .exact .inr z
   .rcases M0.mp hy with z|z
    .subst z;exact e4 n (by rw[look,Mu (by simp)];rfl)
    .exact e3 y z hf
   .refine e4 y ?_;rw[look]
    split
    .rfl
    .exact e
  .obtain⟨cl,e1,e2,e3,e4⟩:=gW r acc λy hy=>h y (Na _ hy);refine⟨cl,?_,e2,λy hy hf=>?_,e4⟩
   .rw[acC];have hb:(k==V0)=false:=by simpa using hk
    simp only[hb,NT,if_false,pure_bind];exact e1
   .rcases M0.mp hy with z|z
    .subst z;exact Mw hf hk
    .exact e3 y z hf
theorem jh (h:∀y∈scope.names,y.2=.free->∃c,env.cells.lookup y.1=some c):
  ∃cl,closureFor scope env=pure cl/\(∀y c,cl.lookup y=some c->env.cells.lookup y=some c)/\∀y∈scope.names,y.2=.free->(cl.lookup y.1).isSome=true:=by
 obtain⟨cl,e1,e2,e3,_⟩:=gW scope.names [] h;refine⟨cl,?_,λy c e=>(e2 y c e).elim (λz=>by cases z) id,e3⟩;have e:closureFor scope env=((forIn (m:=Pb) scope.names ([]:List (Me×D')) λ(y:Me×Th) cs=>(do if (y.2==V0)=true then (do let c <-cellOf env y.1;pure (VT ((y.1,c)::cs))) else pure (VT cs))) >>= pure):=rfl;rw[e,e1];rfl
def Nz (X:Cx)(scope:OE)(cl:List (Me×D'))(x:Me)(C:D')(M1:Md)(NF:Hp)(fp:List D')(aa:List (D'×Mc)):Cx where
 prog:=X.prog
 w:=X.w
 K:=X.K
 mg:=X.mg
 base:=X.base
 A:=X.A
 N:=x::X.N
 Nv:=M1
 U4:=NF
 env:=compEnvC scope cl C X.env
 outer:=X.stack
 stack:=X.stack
 ex:=fp
 fn:=λ_=>false
 calm:=X.calm
 pn:=X.pn++aa
 xe:=λ_ _=>False
structure Qb (sc:OE)(N:List Me)(scope:OE)(x:Me):Prop where
 kind:scope.kind=.function
 cell:∀y∈scope.names,y.2≠.cell
 free:∀y∈scope.names,y.2=.free->sc.names.lookup y.1=some .cell\/sc.names.lookup y.1=some .free
 names:∀y∈scope.names,y.2=.local ->scope.names.lookup y.1=some .local
 var:scope.names.lookup x=some .local
 fresh:x∉N
 other:∀y∈N,scope.names.lookup y≠some .local
theorem iR {scope:OE}{env:NK}:∀{names:List (Me×Th)}{y:Me}{k:Th},
  (names.map λ(n,k)=>if (k==V0&&env.scope.kind==.function&&env.kindOf n==some .cell) then (n,Th.cell) else (n,k)).lookup y=some k->
   ∃k',names.lookup y=some k'/\(k'=k\/(k'=.free/\k=.cell))
 | [],_,_,h=>by simp at h
 | (n,k0)::r,y,k,h=>by
  rw[Nt] at h
  by_cases hy:(y==n)=true
  .have:y=n:=by simpa using hy
   subst this
   by_cases hc:(k0==V0&&env.scope.kind==.function&&env.kindOf y==some .cell)=true
   .simp only[hc,if_true,UW,beq_self_eq_true] at h;cases h;rw[QW,QW] at hc;exact⟨k0,by simp[UW],.inr ⟨by simpa using hc.1.1,rfl⟩⟩
   .simp only[hc,NT,if_false,UW,beq_self_eq_true] at h;cases h;exact⟨k0,by simp[UW],.inl rfl⟩
  .have YA:(y==n)=false:=by simpa using hy
   have h':(r.map λ(n,k)=>if (k==V0&&env.scope.kind==.function&&env.kindOf n==some .cell) then (n,Th.cell) else (n,k)).lookup y=some k:=by
    by_cases hc:(k0==V0&&env.scope.kind==.function&&env.kindOf n==some .cell)=true
    .simp only[hc,if_true,UW,YA] at h;exact h
    .simp only[hc,NT,if_false,UW,YA] at h;exact h
   obtain⟨k',e1,e2⟩:=iR (scope:=scope) (env:=env) h';exact⟨k',by rw[UW,YA];exact e1,e2⟩
section
abbrev bw (Mh:List G')(n:Nat):Mc:={ cls:=.type "list",data:=.seq Mh.toArray n }
variable {X:Cx}{scope:OE}{cl:List (Me×D')}{x:Me}{C:D'}{D:D'}{M1:Md}{NF:Hp}{fp:List D'}{aa:List (D'×Mc)}{σ:St} in
theorem jR {OP:Mp}{t':Nat}{Mh:List G'}{n:Nat}(I:Inv X aa σ NF M1)(S:Qb X.env.scope X.N scope x)(Vi:∀b∈fp,fT X aa NF b)(hfo:∀b∈fp,∃o,M1.heap.get? b=some o)(Pe:∀y c,cl.lookup y=some c->X.env.cells.lookup y=some c)(hcf:∀y∈scope.names,y.2=.free->(cl.lookup y.1).isSome=true)(hD:M1.heap.objs.size<=D)(hC:M1.heap.objs.size<=C)(RF:D≠C)(P1:∃m,OP.Ns C m)(hd:OP.get? D=some (bw Mh n))(keep:∀b o,M1.heap.get? b=some o->OP.get? b=some o):
  Inv (Nz X scope cl x C M1 NF fp aa) [(D,bw Mh n)] (none::σ) NF { M1 with heap:=OP,toks:=t' }:=by
 have lk:∀{y:Me}{k:Th},(compEnvC scope cl C X.env).kindOf y=some k->∃k',scope.names.lookup y=some k'/\(k'=k\/(k'=.free/\k=.cell)):=λ{y k} h=>iR (scope:=scope) h;have ac5:∀{y:Me},((compEnvC scope cl C X.env).kindOf y=some .cell\/(compEnvC scope cl C X.env).kindOf y=some .free)->scope.names.lookup y=some .free:=λ{y} h=>by
  rcases h with h|h
  .obtain⟨k',e1,e2⟩:=lk h;rcases e2 with z|z
   .subst z;exact Mw rfl (S.cell _ (Ru e1))
   .rw[z.1] at e1;exact e1
  .obtain⟨k',e1,e2⟩:=lk h;rcases e2 with z|z
   .rw[z] at e1;exact e1
   .exact Mw z.2 (by decide)
 have sz:=I.sz;have new:∀b,M1.heap.objs.size<=b->b∉Nq X.stack:=λb hb z=>by
  rcases M0.mp (I.Rf b z) with r|r
  .exact Mw (NH I.lt hb) (by rw[r];exact RX _)
  .exact I.adi hb r
 have Pj:∀b o,M1.heap.get? b=some o->b≠C:=λb o e=>M8 (NH (MS e) hC);refine⟨⟨I.ok.mod,S.kind,I.ok.glob,I.ok.blt,hC,λy z c h1 h2=>I.ok.inj y z c (Pe y c h1) (Pe z c h2),λy hy=>?_,λy c h=>Mw h (by show ¬(false=true);decide),I.ok.hd,I.ok.frames,.inl rfl,λb hb=>⟨?_,λy c h=>?_⟩,I.bs,OT I.ok.R' sz,λb o e hb=>?_,λb hb z=>?_,I.stack,I.ζ⟩,
  rfl,I.bare,Un.kept keep,?_,λy c h=>?_,I.My.fresh hC,λy c h=>I.Qp y c (Pe y c h),λp hp=>?_,I.My.kept keep,?_⟩
 .have e:=ac5 hy;exact TZ.mp (hcf (y,.free) (Ru e) rfl)
 .obtain⟨o,e⟩:=hfo b hb;exact Pj b o e
 .exact(Vi b hb).2.2.2.2.1 y c (Pe y c h)
 .obtain⟨_,_,_,hx,_⟩:=Vi b hb;rcases hx with r|r
  .exact I.ok.Qc b o e r
  .exact Mw (NH (MS (I.ok.bs b o e).1) r) (RX _)
 .obtain⟨_,hL,hf,_⟩:=Vi b hb;rcases M0.mp (I.Rf b z) with r|r
  .exact hL r
  .exact hf r
 .obtain⟨m,hm⟩:=P1;obtain⟨m',_,hl⟩:=I.loc;refine⟨m,hm,λi y v e1 e2 e3=>?_⟩;cases i with
  | zero=>cases (show some (none:Option V)=some (some v) from e2)
  | succ i=>
   have Vj:X.N[i]?=some y:=e1;have Tx:σ[i]?=some (some v):=e2;have fr:scope.names.lookup y=some .free:=by
    rcases e3 with z|z
    .obtain⟨k',q1,q2⟩:=lk z;rcases q2 with q2|q2
     .rw[q2] at q1;exact Mw q1 (S.other y (N1 Vj))
     .exact Mw q2.2 (by decide)
    .exact ac5 z
   have kd:(compEnvC scope cl C X.env).kindOf y=some .cell\/(compEnvC scope cl C X.env).kindOf y=some .free:=by
    rcases e3 with z|z
    .obtain⟨k',q1,q2⟩:=lk z;rw[fr] at q1;cases q1;rcases q2 with q2|q2
     .cases q2
     .exact Mw q2.2 (by decide)
    .exact z
   have kx:=S.free (y,.free) (Ru fr) rfl;obtain⟨u,r,q⟩:=hl i y v Vj Tx (.inr kx);refine⟨u,r,.inr ⟨kd,?_⟩⟩;obtain⟨c,hc⟩:=TZ.mp (hcf (y,.free) (Ru fr) rfl);refine⟨c,hc,?_⟩;rcases q with⟨ql,_⟩|⟨_,c',Vb,z⟩
   .have ql':X.env.scope.names.lookup y=some .local :=ql;rcases kx with kx|kx <;> (rw[ql'] at kx;cases kx)
   .have:=Pe y c hc;rw[Vb] at this;cases this;obtain⟨o,ho,hd⟩:=z;exact⟨o,keep _ _ ho,hd⟩
 .obtain⟨v,o,ho,hd⟩:=I.cell y c (Pe y c h);exact⟨v,o,keep _ _ ho,hd⟩
 .rcases Ny.mp hp with z|z
  .obtain⟨e,n0,ne,nf,d⟩:=I.pin p z;refine⟨keep _ _ e,n0,Pj _ _ e,λq=>?_,d⟩;rcases M0.mp (I.Rf _ q) with r|r
   .exact ne r
   .exact nf r
  .rw[N3.mp z];exact⟨hd,I.My.fresh hD,RF,new D hD,λv q=>nomatch q⟩
 .show σ.length+1=X.N.length+1;rw[I.len]
variable {X:Cx}{scope:OE}{cl:List (Me×D')}{x:Me}{C:D'}{D:D'}{M1:Md}{NF:Hp}{fp:List D'}{aa:List (D'×Mc)}{σ:St} in
theorem me {Ux:Mp}{s':Md}{H':Hp}{MP:St}{Mh:List G'}{n:Nat}{ys:List V}(I:Inv X aa σ NF M1)(Vi:∀b∈fp,fT X aa NF b)(hD:M1.heap.objs.size<=D)(hC:M1.heap.objs.size<=C)(J:Inv (Nz X scope cl x C M1 NF fp aa) [(D,bw Mh n)] MP H' s')(hs:QY C s'.heap Ux)(r:aw ys Mh)(hz:ys.length<=Mz):
  Inv X aa σ (upd H' D (.lst ys)) { s' with heap:=Ux }/\H' D=none:=by
 obtain⟨eD,nD,SH,_,_⟩:=J.pin (D,bw Mh n) (OA _ MO);have kp:∀b,b≠C->Ux.get? b=s'.heap.get? b:=λb hb=>hs.2 b hb;have Pj:∀b o,M1.heap.get? b=some o->b≠C:=λb o e=>M8 (NH (MS e) hC);have afo:∀b o,M1.heap.get? b=some o->b≠D:=λb o e=>M8 (NH (MS e) hD);have YB:∀b u,H' b=some u->b≠C:=λb u e z=>by
  have f:H' C=none:=J.free;rw[z,f] at e;cases e
 have un:=J.base;refine⟨I.XZ (ch:=fp) J.os ⟨λb o e m hb hx=>?_,λb o e m hb hx=>?_,λb o e m hx=>?_,λb o e hx=>?_,λb xs e=>?_,λb o u e=>?_,λb ps e=>?_⟩ ?_ J.bare (λb hb=>?_),nD⟩
 .exact(kp b (Pj b o e)).trans (un.keep b o e m hb hx)
 .obtain⟨sl,q⟩:=un.slot b o e m hb hx;exact⟨sl,(kp b (Pj b o e)).trans q⟩
 .rw[ao (afo b o e)];exact un.free b o e m hx
 .obtain⟨o',q⟩:=un.there b o e hx;exact⟨o',(kp b (Pj b o e)).trans q⟩
 .have q:=un.OG b xs e;rw[ao (aq q nD)];exact q
 .have q:=un.QF b o u e;rw[ao (aq q nD)];exact q
 .obtain⟨m,q⟩:=un.QG b ps e;exact⟨m,by rw[ao (aq q nD)];exact q⟩
 .intro a o e
  by_cases ha:a=D
  .subst ha;rw[ag] at e;cases e;exact⟨hz,Mh,n,r,(kp _ SH).trans eD⟩
  .rw[ao ha] at e;refine(J.My a o e).RA (λb u hb q=>(kp b ?_).trans q) (λb q=>by rw[ao (aq q nD)];exact q) λb xs q=>by rw[ao (aq q nD)];exact q
   rcases hb with z|z
   .rw[z];exact YB a o e
   .exact YB b _ z
 .obtain⟨_,h2,_,h4,h5,h6⟩:=Vi b hb;exact⟨h4,h2,h5,h6⟩
end
def kN (J:It)(σ:St)(tt:TT)(te:TE)(Q:VK)(H1:Hp):Prop:=∃W:Nat->Nat->List V->Hp->Prop,(∃m,W 0 m [] H1)/\∀i m ys H2,W i m ys H2->
 (J.stop i H2/\ys.length<=Mz/\∀p,H2 p=none->Q (.ref p) (upd H2 p (.lst ys)))\/
 (J.go i H2/\ys.length<Mz/\∃N:List V->Hp->Prop,(∀zs H',N zs H'->∃m',m' < m/\W (i+1) m' zs H')/\∀x H3,J.Wl i H2 x H3->tt (some x::σ) H3 λb H4=>if b=true then te (some x::σ) H4 λy H5=>N (ys++[y]) H5 else N ys H4)
def wE (wi:TI)(tt:TT)(te:TE):TE:=λσ H Q=>wi σ H λJ H1=>kN J σ tt te Q H1
def BK:TT:=λ_ H Q=>Q true H
theorem goT (h:Q true H):BK σ H Q:=h
def YC (Y:Cx)(ifs:List MK)(t:TT):Prop:=
 ∀(aa:List (D'×Mc)) (s:Md) (σ:St) (H:Hp) (Q:Bool->Hp->Prop),Inv Y aa σ H s->t σ H Q->
  Ml (Mr Y.prog Y.w) Y.A (forIn ifs true λc r=>if r=true then do let ok <-isTrue c Y.env (eval c Y.env);pure (VT ok) else pure (VT r)) (TP Y aa σ Q) Y.xe s
theorem kO:YC Y [] BK:=λaa s σ H Q I h=>wpAny_tests_nil ⟨H,I,h⟩
theorem eI (h:PT Y c t):YC Y [c] t:=λaa s σ H Q I q=>wpAny_tests_one (h aa s σ H Q I q)
section
theorem eJ {α:Type}{M:Tl}{A:ML}{t:Pb α}{Q:α->Md->Prop}{E:G'->Md->Prop}{s:Md}(h:Ml M A t Q (λ_ _=>False) s):Ml M A t Q E s:=QZ h (λ_ _ z=>z) λ_ _ z=>z.elim
theorem fE (hc:X.calm=true)(S:Qb X.env.scope X.N scope x)(hi:PI X (.Name x px) iter wi)(ht:∀(cl:List (Me×D')) (C:D') (M1:Md) (NF:Hp) (fp:List D') (aa:List (D'×Mc)),YC (Nz X scope cl x C M1 NF fp aa) ifs tt)(he:∀(cl:List (Me×D')) (C:D') (M1:Md) (NF:Hp) (fp:List D') (aa:List (D'×Mc)),PE (Nz X scope cl x C M1 NF fp aa) elt te)(hN:X.N.Nodup)(hs:∀v,foldedSetIterable iter X.env v=pure v:=by intro _;rfl):PE X (.ListComp elt [⟨.Name x px,iter,ifs,0⟩] scope pos) (wE wi tt te):=by
 intro aa s σ H Q I h;obtain⟨cl,X4,R9,X5⟩:=jh (scope:=scope) (env:=X.env) (λy hy hf=>I.ok.has y.1 (S.free y hy hf));rw[eval_ListComp];refine abV (use:=none) (E:=X.xe) rfl hs X4 S.kind S.names (ME (hi aa s σ H _ I h) λxv s1 h1=>ME h1 λYq s2 h2=>?_);obtain⟨it,fp,tn,J,H2,e,I2,T,Oi,f2,W,⟨m0,w0⟩,turn⟩:=h2;subst e;refine S8 (aaz S.cell (by intro y hy;cases hy) (λOP P1 Pw=>?_) S.kind);dsimp only at P1 Pw ⊢;generalize hP:s2.heap.push { cls:=.type "list",dict:=none,data:=.seq ([]:List G').toArray }=P2 at P1 Pw ⊢;have hC:P2.objs.size=s2.heap.objs.size+1:=by rw[<-hP,XH]
 have RF:s2.heap.objs.size≠P2.objs.size:=by rw[hC];exact M8 (XA _)
 have Ps:s2.heap.objs.size<=P2.objs.size:=by rw[hC];exact UZ _
 have old:∀b o,s2.heap.get? b=some o->OP.get? b=some o:=λb o e=>by
  have hb:=MS e;exact Pw.extBut b o (by rw[hC];exact M8 (Xx hb)) (MZ _ (hP▸MZ _ e))
 have hd:OP.get? s2.heap.objs.size=some (bw [] 0):=Pw.extBut _ _ RF (MZ _ (hP▸NV _ rfl));have fo:∀b∈fp,∃o,s2.heap.get? b=some o:=λb hb=>by
  obtain⟨o,e,_⟩:=T.obj _ _ Oi b hb;exact⟨o,e⟩
 have SH:∀b∈fp,b≠s2.heap.objs.size:=λb hb=>by
  obtain⟨o,e⟩:=fo b hb;exact M8 (MS e)
 have JY:Inv (Nz X scope cl x P2.objs.size s2 H2 fp aa) [(s2.heap.objs.size,bw [] 0)] (none::σ) H2 { s2 with heap:=OP,toks:=s2.toks+([]:List (Me×G')).length }:=
  jR I2 S f2 fo R9 X5 (MJ _) Ps RF ⟨_,P1⟩ hd old
 have QH:∀{H':Hp}{Mh:List G'}{n:Nat},(∀b∈fp,H' b=none)->∀b∈fp,fT (Nz X scope cl x P2.objs.size s2 H2 fp aa) [(s2.heap.objs.size,bw Mh n)] H' b:=λ{H' Mh n} hn b hb=>by
  obtain⟨_,g1,g2,g3,g4,g5⟩:=f2 b hb;obtain⟨o,e⟩:=fo b hb;refine⟨hn b hb,?_,λz=>?_,.inl hb,λy c q=>g4 y c (R9 y c q),λp hp=>?_⟩
  .show b≠P2.objs.size;exact M8 (NH (MS e) Ps)
  .rcases M0.mp (I2.Rf b z) with r|r
   .exact g1 r
   .exact g2 r
  .rcases Ny.mp hp with z|z
   .exact g5 p z
   .rw[N3.mp z];exact λq=>SH b hb q.symm
 have nodup:(Nz X scope cl x P2.objs.size s2 H2 fp aa).N.Nodup:=Py.mpr ⟨S.fresh,hN⟩;have loc:Loc (Nz X scope cl x P2.objs.size s2 H2 fp aa).env.scope x:=.inl (Xl S.var);have loop:∀s4:Md,s4={ s2 with heap:=OP,toks:=s2.toks+([]:List (Me×G')).length }->
   codeAny (Mr X.prog X.w) X.A (.compLoop (.ListComp elt [⟨.Name x px,iter,ifs,0⟩] scope pos) 0 (.ref it) (.ref s2.heap.objs.size) (compEnvC scope cl P2.objs.size X.env))
    (compPost (Mr X.prog X.w) X.A X.xe none (EP X aa σ Q) (.ref s2.heap.objs.size) P2.objs.size) s4:=by
  rintro s4 rfl;refine codeAny_loop rfl (λn s'=>∃i ys Mh c H' v0,Inv (Nz X scope cl x P2.objs.size s2 H2 fp aa) [(s2.heap.objs.size,bw Mh c)] (v0::σ) H' s'/\tn i s'.heap/\(∀b∈fp,H' b=none)/\aw ys Mh/\W i n ys H') ?_ m0
   ⟨0,[],[],0,H2,none,JY,T.keep _ _ _ Oi (λb _ o e=>old b o e),λb hb=>(f2 b hb).1,.nil,w0⟩
  rintro n s3 ⟨i,ys,Mh,c,H3,v0,I3,Pc,Se,rv,w3⟩;show Ml _ _ ((compTurn (.ListComp elt [⟨.Name x px,iter,ifs,0⟩] scope pos) 0 (.ref it) (.ref s2.heap.objs.size) (compEnvC scope cl P2.objs.size X.env)).onRaise (λz=>do noteFrame z (compEnvC scope cl P2.objs.size X.env);theTreesLotGoes z)) _ _ s3;refine wpAny_noted ?_;rw[acQ];rcases turn i n ys H3 w3 with⟨stop,hz,qn⟩|⟨go,hz,NN,Uy,step⟩
  .refine Mf (UX (Mf (ME (T.done (Nz X scope cl x P2.objs.size s2 H2 fp aa) rfl rfl rfl hc i _ s3 _ H3 _ I3 (QH Se) Pc stop) λr s5 ⟨hr,I5⟩=>?_)));subst hr;refine Mm ?_;obtain⟨mC,Uz,_⟩:=I5.loc;refine⟨mC,Uz,λUx afp=>?_⟩;obtain⟨I6,nD⟩:=me I2 f2 (MJ _) Ps I5 afp rv hz;exact⟨.ref s2.heap.objs.size,_,I6,rfl,qn _ nD⟩
  .refine Mf (UX (Mf (ME (T.item (Nz X scope cl x P2.objs.size s2 H2 fp aa) rfl rfl rfl hc i _ s3 _ H3 _ I3 (QH Se) Pc go) λr s5 ⟨u,hr,h5⟩=>?_)));subst hr;refine Mf (ME h5 λ_ s6 ⟨xv,H6,I6,r6,y6,Sh,YD⟩=>?_);have YE:=I6.pinned (QH YD) (T.obj _ _ Sh);refine Mf (Xv (fS (i:=0) YE nodup rfl loc r6 (λs7 I7=>?_) (.inr (Xl S.var))));have q7:=step xv H6 y6;refine Mf (eJ (ME (ht cl P2.objs.size s2 H2 fp aa _ s7 _ H6 _ I7 q7) λok s8 ⟨H8,I8,q8⟩=>?_));have back:∀{H9:Hp}{s9:Md},Inv (Nz X scope cl x P2.objs.size s2 H2 fp aa) ([(s2.heap.objs.size,bw Mh c)]++gQ fp s6.heap) (some xv::σ) H9 s9->tn (i+1) s9.heap/\∀b∈fp,H9 b=none:=λ{H9 s9} I9=>by
    refine⟨T.keep _ _ _ Sh λb hb o e=>(I9.pin (b,o) (OA _ (OA _ (cX hb e)))).1,λb hb=>?_⟩;obtain⟨o,e,d⟩:=T.obj _ _ Sh b hb;exact(I9.pin (b,o) (OA _ (OA _ (cX hb e)))).2.1
   cases ok with
   | false=>
    obtain⟨m',hm,w8⟩:=Uy ys H8 q8;obtain⟨t8,YF⟩:=back I8;exact Mm ⟨rfl,m',hm,i+1,ys,Mh,c,H8,_,I8.Ti,t8,YF,rv,w8⟩
   | true=>
    refine Mf (Mf (eJ (ME (he cl P2.objs.size s2 H2 fp aa _ s8 _ H8 _ I8 q8) λyv s9 ⟨y,H9,I9,r9,q9⟩=>?_)));obtain⟨m',hm,w9⟩:=Uy _ _ q9;obtain⟨t9,YG⟩:=back I9;have UA:=I9.Ti;obtain⟨eD,nD,Sc,nf,_⟩:=UA.pin (s2.heap.objs.size,bw Mh c) (OA _ MO);refine Mf (abY (items:=Mh.toArray) ⟨c,eD⟩ (λRG X6 SC=>?_) (by rw[ND,<-rv.length];exact Uf hz));obtain⟨c',YH⟩:=X6;have X7:RG.get? s2.heap.objs.size=some (bw (Mh++[yv]) c'):=by rw[YH];simp
    have YI:Inv (Nz X scope cl x P2.objs.size s2 H2 fp aa) [] (some xv::σ) H9 { s9 with heap:=RG }:=by
     have YJ:Inv (Nz X scope cl x P2.objs.size s2 H2 fp aa) [] (some xv::σ) H9 s9:=UA.Uk λp hp=>Mw hp (by simp);refine YJ.turned (t':=s9.toks) (it:=s2.heap.objs.size) (λb o hb q=>(SC.2 b hb).trans q) nD Sc (.inr (MJ _)) (λy cc q=>?_) λp hp=>?_
     .obtain⟨v,z⟩:=I2.cell y cc (R9 y cc q);exact M8 z.lt
     .have UB:p∈X.pn++aa:=by
       have z:p∈(X.pn++aa)++[]:=hp;simpa using z
      exact M8 (MS (I2.pin p UB).1)
    have YK:Inv (Nz X scope cl x P2.objs.size s2 H2 fp aa) [(s2.heap.objs.size,bw (Mh++[yv]) c')] (some xv::σ) H9 { s9 with heap:=RG }:=
     YI.Uk λp hp=>by rw[N3.mp hp];exact⟨X7,nD,Sc,nf,λv q=>nomatch q⟩
    refine Mm (Mm ⟨rfl,m',hm,i+1,ys++[y],Mh++[yv],c',H9,_,YK,?_,YG,rv.append (.cons r9 .nil),w9⟩);exact T.keep _ _ _ t9 λb hb o q=>(SC.2 b (SH b hb)).trans q
 exact ab2 (loop _ rfl) (T.self X.A 0 _ _ _ (T.keep _ _ _ Oi (λb _ o e=>old b o e)) (loop _ rfl))
end
section
variable {K:Mi} in
theorem sj (Pv:Nat->List V->Hp->Prop)(h0:Pv 0 [] H)(hl:∀i ys H,i<=xs.length->Pv i ys H->MR K H a xs/\ys.length<=i)(hz:xs.length<=Mz)(hs:∀i x ys H,xs[i]?=some x->Pv i ys H->tt (some x::σ) H λb H4=>if b=true then te (some x::σ) H4 λy H5=>Pv (i+1) (ys++[y]) H5 else Pv (i+1) ys H4)(hd:∀ys H p,Pv xs.length ys H->H p=none->Q (.ref p) (upd H p (.lst ys))):kN (Wm K a) σ tt te Q H:=by
 refine⟨λi m ys H=>m=xs.length-i/\i<=xs.length/\Pv i ys H,⟨xs.length,by simp,NX _,h0⟩,?_⟩;rintro i m ys H2 ⟨rfl,hi,p⟩;obtain⟨q,hn⟩:=hl i ys H2 hi p
 by_cases Nw:i<xs.length
 .refine .inr ⟨⟨xs,xs[i],q,by simp[Nw]⟩,by lia,Pv (i+1),λzs H' p'=>⟨xs.length-(i+1),by lia,rfl,Nw,p'⟩,λx H3 y=>?_⟩;obtain⟨e,y⟩:=y;subst e;exact hs i x ys _ (y xs q) p
 .have e:i=xs.length:=by lia
  subst e;exact .inl ⟨⟨xs,q,MJ _⟩,by lia,λb hb=>hd ys H2 b p hb⟩
variable {K:Mi} in
theorem fU (Pv:Nat->List V->Hp->Prop)(h0:Pv 0 [] H)(hl:∀i ys H,i<=xs.length->Pv i ys H->MA K H a xs/\ys.length<=i)(hz:xs.length<=Mz)(hs:∀i x ys H,xs[i]?=some x->Pv i ys H->tt (some x::σ) H λb H4=>if b=true then te (some x::σ) H4 λy H5=>Pv (i+1) (ys++[y]) H5 else Pv (i+1) ys H4)(hd:∀ys H p,Pv xs.length ys H->H p=none->Q (.ref p) (upd H p (.lst ys))):kN (Vd K a) σ tt te Q H:=by
 refine⟨λi m ys H=>m=xs.length-i/\i<=xs.length/\Pv i ys H,⟨xs.length,by simp,NX _,h0⟩,?_⟩;rintro i m ys H2 ⟨rfl,hi,p⟩;obtain⟨q,hn⟩:=hl i ys H2 hi p
 by_cases Nw:i<xs.length
 .refine .inr ⟨⟨xs,xs[i],q,by simp[Nw]⟩,by lia,Pv (i+1),λzs H' p'=>⟨xs.length-(i+1),by lia,rfl,Nw,p'⟩,λx H3 y=>?_⟩;obtain⟨e,y⟩:=y;subst e;exact hs i x ys _ (y xs q) p
 .have e:i=xs.length:=by lia
  subst e;exact .inl ⟨⟨xs,q,MJ _⟩,by lia,λb hb=>hd ys H2 b p hb⟩
theorem sr {lo:Int}(Pv:Nat->List V->Hp->Prop)(h0:Pv 0 [] H)(hl:∀i ys H,i<=n->Pv i ys H->ys.length<=i)(hz:n<=Mz)(hs:∀i ys H,i<n->Pv i ys H->tt (some (.int (lo+i))::σ) H λb H4=>if b=true then te (some (.int (lo+i))::σ) H4 λy H5=>Pv (i+1) (ys++[y]) H5 else Pv (i+1) ys H4)(hd:∀ys H p,Pv n ys H->H p=none->Q (.ref p) (upd H p (.lst ys))):kN (Ve lo n) σ tt te Q H:=by
 refine⟨λi m ys H=>m=n-i/\i<=n/\Pv i ys H,⟨n,by simp,NX _,h0⟩,?_⟩;rintro i m ys H2 ⟨rfl,hi,p⟩;have hn:=hl i ys H2 hi p
 by_cases Nw:i<n
 .refine .inr ⟨Nw,by lia,Pv (i+1),λzs H' p'=>⟨n-(i+1),by lia,rfl,Nw,p'⟩,λx H3 y=>?_⟩;obtain⟨e,y⟩:=y;subst e y;exact hs i ys _ Nw p
 .have e:i=n:=by lia
  subst e;exact .inl ⟨MJ _,by lia,λb hb=>hd ys H2 b p hb⟩
end
def fV (lo:Int)(n:Nat):List V:=(Ox n).map λ(i:Nat)=>V.int (lo+(i:Int))
theorem iH (lo:Int)(n:Nat):(fV lo n).length=n:=by simp[fV]
theorem lL (hl:xs.length=us.length)(h:∀(i:Nat) x u,xs[i]?=some x->us[i]?=some u->ax x u):aw xs us:=by
 induction xs generalizing us with
 | nil=>cases us with
  | nil=>exact .nil
  | cons _ _=>simp at hl
 | cons x xs ih=>cases us with
  | nil=>simp at hl
  | cons u us=>exact .cons (h 0 x u rfl rfl) (ih (by simpa using hl) λi y v h1 h2=>h (i+1) y v (by simpa using h1) (by simpa using h2))
section
theorem jS:cC X (.type "range") (λxs H Q=>∃j,xs=[.int j]/\∀p,H p=none->Q (.ref p) (upd H p (.Rj 0 j))):=by
 intro aa s σ H xs us Q I r h;obtain⟨j,rfl,q⟩:=h;obtain⟨u,rfl,ru⟩:=dw r;obtain⟨t,rfl⟩:=ru;refine call_range_1 ⟨.ref s.heap.objs.size,_,I.laid (λb o e=>MZ _ e) (MJ _) ?_,rfl,q _ (I.My.fresh (MJ _))⟩;exact⟨_,_,_,NV _ rfl⟩
theorem gF (hc:X.calm=true):cC X (.type "list") (λxs H Q=>∃p lo hi,xs=[.ref p]/\H p=some (.Rj lo hi)/\-(2 ^ 62)<=lo/\lo<2 ^ 62/\-(2 ^ 62)<=hi/\hi<2 ^ 62/\(hi-lo).toNat<=2 ^ 24/\
  ∀l,H l=none->Q (.ref l) (upd H l (.lst (fV lo (hi-lo).toNat)))):=by
 intro aa s σ H xs us Q I r h;obtain⟨p,lo,hi,rfl,hp,h1,h2,h3,h4,h5,q⟩:=h;obtain⟨u,rfl,ru⟩:=dw r;cases ru;obtain⟨t,u,v,e⟩:=I.My p _ hp;refine call_list_range (I.ok.hd hc) e (small_one h1 h2 h3 h4) (rangeSize_nat lo hi) h5 λh' tk OW c' hk hS X8=>?_;refine⟨.ref s.heap.objs.size,_,I.laid (o:=.lst (fV lo (hi-lo).toNat)) hk (MJ _) ?_,rfl,q _ (I.My.fresh (MJ _))⟩;refine⟨by rw[iH];exact h5,OW.toList,c',lL (by rw[iH,Od,X8.1]) λi x u e1 e2=>?_,by simpa using hS⟩;have Tx:OW[i]?=some u:=by simpa using e2
 obtain⟨t',rfl⟩:=X8.2 i u Tx;have OK:i<(hi-lo).toNat:=by
  have:=(NP.mp e1).1;rw[iH] at this;exact this
 have:x=V.int (lo+(i:Int)):=by
  simp[fV,OK] at e1;exact e1.symm
 subst this;exact⟨t',by rw[Int.mul_one]⟩
def fb (xs ys:List V):Bool:=xs.length==ys.length&&(xs.zip ys).all λp=>OX p.1 p.2
theorem jT (ns ms:List Int):fb (ns.map V.int) (ms.map V.int)=decide (ns=ms):=by
 unfold fb
 induction ns generalizing ms with
 | nil=>cases ms with
  | nil=>rfl
  | cons m ms=>simp
 | cons n ns ih=>cases ms with
  | nil=>simp
  | cons m ms=>
   have:=ih ms;simp only[Ng,Nt,N',Xq,XI] at this ⊢;have e:(ns.length+1==ms.length+1)=(ns.length==ms.length):=by
    rw[Ta];simp
   rw[e];have e2:OX (V.int n) (V.int m)=(n==m):=rfl;rw[e2]
   by_cases hh:n=m
   .subst hh;simp only[beq_self_eq_true,Bool.true_and];rw[this,Ta];simp
   .have:(n==m)=false:=by simpa using hh
    rw[this];simp[hh]
theorem yi:∀(xs ys:List V) (k:Nat),xs.length=ys.length->(∀(i:Nat) x y,xs[i]?=some x->ys[i]?=some y->e (k+i)=OX x y)->((List.range' k xs.length).all e)=(xs.zip ys).all λp=>OX p.1 p.2
 | [],ys,k,_,_=>by simp
 | x::xs,[],k,h,_=>by simp at h
 | x::xs,y::ys,k,h,he=>by
  have ih:=yi xs ys (k+1) (by simpa using h) λi x' y' h1 h2=>by
   have:=he (i+1) x' y' (by simpa using h1) (by simpa using h2);rw[show k+1+i=k+(i+1) by lia];exact this
  rw[N',List.range'_succ,XI,Xq,XI,ih];have:=he 0 x y rfl rfl;rw[aa2] at this;rw[this]
theorem Az {xs ys:List V}(hn:n=xs.length)(hl:xs.length=ys.length)(he:∀(i:Nat) x y,xs[i]?=some x->ys[i]?=some y->e i=OX x y):(Ox n).all e=(xs.zip ys).all λp=>OX p.1 p.2:=by
 subst hn;rw[List.range_eq_range'];exact yi xs ys 0 hl λi x y h1 h2=>by rw[aa3];exact he i x y h1 h2
def ji (xs ys:List V)(j:Nat):Bool:=match xs[j]?,ys[j]? with
 | some x,some y=>OX x y
 | _,_=>false
theorem ni (r1:aw xs us)(r2:aw ys vs)(f1:xs.all cI=true)(f2:ys.all cI=true):
  ∀j (h1:j<us.toArray.size) (h2:j<vs.toArray.size),R3 A s us.toArray[j] vs.toArray[j] (ji xs ys j):=by
 intro j h1 h2;have l1:=r1.length;have l2:=r2.length;have h1':j<us.length:=by simpa using h1
 have h2':j<vs.length:=by simpa using h2
 obtain⟨u,e1,q1⟩:=r1.get (i:=j) (x:=xs[j]'(by lia)) (by simp);obtain⟨v,e2,q2⟩:=r2.get (i:=j) (x:=ys[j]'(by lia)) (by simp);have Vj:us.toArray[j]=u:=by
  have:=(NP.mp e1).2;simpa using this
 have Tx:vs.toArray[j]=v:=by
  have:=(NP.mp e2).2;simpa using this
 have e3:ji xs ys j=OX (xs[j]'(by lia)) (ys[j]'(by lia)):=by
  unfold ji;rw[Om (by lia),Om (by lia)]
 rw[Vj,Tx,e3];exact yd q1 q2 (Sq.mp f1 _ (VQ _)) (Sq.mp f2 _ (VQ _))
theorem pX (hn:n=xs.length)(hl:xs.length=ys.length):(Ox n).all (ji xs ys)=fb xs ys:=by
 unfold fb;rw[Az hn hl λi x y h1 h2=>by unfold ji;rw[h1,h2]];simp[hl]
theorem oP (h:xs.length≠ys.length):fb xs ys=false:=by
 unfold fb;have:(xs.length==ys.length)=false:=by simpa using h
 rw[this,ZT]
def DS (K:Mi)(neg:Bool):R2:=λx y H Q=>∃a b xs ys,x=.ref a/\y=.ref b/\MA K H a xs/\MA K H b ys/\xs.all cI=true/\ys.all cI=true/\Q (.bl (if neg then !fb xs ys else fb xs ys)) H
theorem ss (hu:X.A.units<MQ):Nr X (OM .Eq) (DS X.K false):=by
 intro aa s σ H x y v u Q I rx ry h;obtain⟨a,b,xs,ys,rfl,rfl,ha,hb,f1,f2,q⟩:=h;cases rx;cases ry;obtain⟨Mh,r1,p1,_⟩:=I.list ha;obtain⟨U6,r2,p2,_⟩:=I.list hb;have l1:=r1.length;have l2:=r2.length
 by_cases hl:xs.length=ys.length
 .refine SeqAt.eq_listAt (e:=ji xs ys) p1.isList p2.isList (by simp;lia) hu (ni r1 r2 f1 f2) ⟨.bl (fb xs ys),H,I,?_,q⟩;show _=R0 _;rw[pX (by simp;lia) hl]
 .refine SeqAt.eq_list_lengthsAt p1.isList p2.isList (by simp;lia) hu ⟨.bl (fb xs ys),H,I,?_,q⟩;show _=R0 _;rw[oP hl]
theorem su (hu:X.A.units<MQ):Nr X (OM .NotEq) (DS X.K true):=by
 intro aa s σ H x y v u Q I rx ry h;obtain⟨a,b,xs,ys,rfl,rfl,ha,hb,f1,f2,q⟩:=h;cases rx;cases ry;obtain⟨Mh,r1,p1,_⟩:=I.list ha;obtain⟨U6,r2,p2,_⟩:=I.list hb;have l1:=r1.length;have l2:=r2.length
 by_cases hl:xs.length=ys.length
 .refine aeA (e:=ji xs ys) p1.isList p2.isList (by simp;lia) hu (ni r1 r2 f1 f2) _ _ _ _ ⟨.bl (!fb xs ys),H,I,?_,q⟩;show _=R0 _;rw[pX (by simp;lia) hl]
 .refine adT p1.isList p2.isList (by simp;lia) hu _ _ _ _ ⟨.bl (!fb xs ys),H,I,?_,q⟩;show _=R0 _;rw[oP hl];rfl
theorem yj:∀{xs:List V}{us:List G'},aw xs us->xs.all cI=true->us.countP (Rm x)=xs.countP λy=>OX y x
 | _,_,.nil,_=>rfl
 | y::xs,u::us,.cons r t,f=>by
  rw[XI,QW] at f;rw[List.countP_cons,List.countP_cons,mY r f.1,yj t f.2]
def DT (K:Mi):V->List V->Hp->VK->Prop:=λo vs H Q=>∃p xs x,o=.ref p/\vs=[x]/\MA K H p xs/\cI x=true/\xs.all cI=true/\Q (.int (xs.countP λy=>OX y x)) H
theorem AA:MtM X "list.count" (DT X.K):=by
 intro aa s σ H o vs v us Q I ro rv h;obtain⟨p,xs,x,rfl,rfl,hp,fx,fs,q⟩:=h;cases ro;obtain⟨u,rfl,ru⟩:=rv.one;obtain⟨Mh,r,pl,hz⟩:=I.list hp;obtain⟨⟨cls,dd,data,sl⟩,ho,hc,n,hd⟩:=pl.isList;simp only at hc hd;subst hc hd;refine V9 ad4 ⟨_,ho,rfl⟩ PySem.F.entry_list_count (PySem.F.args_list_count_2 _ _) (SeqAt.list_countAt p Mh.toArray n dd sl u (Rm x)) ⟨ho,λy hy=>gU ru fx r fs y (by simpa using hy),?_⟩;refine⟨.int (xs.countP λy=>OX y x),H,I.tok _,⟨s.toks,?_⟩,q⟩;rw[show Mh.toArray.toList=Mh from rfl,yj r fs]
def DU (K:Mi):V->List V->Hp->VK->Prop:=λo vs H Q=>∃p xs x j,o=.ref p/\vs=[x]/\MA K H p xs/\cI x=true/\xs.all cI=true/\(∃y,xs[j]?=some y/\OX y x=true)/\(∀(i:Nat) y,i<j->xs[i]?=some y->OX y x=false)/\Q (.int (j:Int)) H
theorem AB:MtM X "list.index" (DU X.K):=by
 intro aa s σ H o vs v us Q I ro rv h;obtain⟨p,xs,x,j,rfl,rfl,hp,fx,fs,⟨y,hy,hit⟩,Tw,q⟩:=h;cases ro;obtain⟨u,rfl,ru⟩:=rv.one;obtain⟨Mh,r,pl,hz⟩:=I.list hp;obtain⟨⟨cls,dd,data,sl⟩,ho,hc,n,hd⟩:=pl.isList;simp only at hc hd;subst hc hd;have hl:=r.length;have hj:j<xs.length:=(NP.mp hy).1;have Vk:j<Mh.toArray.size:=by simp;lia
 have at_:∀(i:Nat) (hi:i<Mh.toArray.size) (z:V),xs[i]?=some z->Rm x Mh.toArray[i]=OX z x:=λi hi z hz=>by
  obtain⟨w,e1,e2⟩:=r.get hz;have:Mh.toArray[i]=w:=by
   have:=(NP.mp e1).2;simpa using this
  rw[this];exact mY e2 (Sq.mp fs _ (N1 hz))
 refine V9 aau ⟨_,ho,rfl⟩ ad1 (adV _ _)
  (aeB p Mh.toArray n dd sl u (Rm x) j Vk (by have:=hz;rw[Nf] at this;lia) (by rw[at_ j Vk y hy];exact hit) λm hm Nw=>?_) ⟨ho,λz hz=>gU ru fx r fs z (by simpa using hz),?_⟩
 .have Wo:m<xs.length:=by lia
  rw[at_ m hm _ (Om Wo)];exact Tw m _ Nw (Om Wo)
 .exact⟨.int (j:Int),H,I.tok _,⟨s.toks,rfl⟩,q⟩
end
section
theorem wF {σ:St}{tk:Nat}(I:Inv X aa σ H s)(k:∀b u,b∉[s.heap.objs.size]->(s.heap.push o).get? b=some u->h'.get? b=some u):Inv X aa σ H { s with heap:=h',toks:=tk }:=by
 have I1:Inv X aa σ H { s with heap:=s.heap.push o }:=I.kept (t':=s.toks) λb u e=>MZ _ e;obtain⟨f0,f1,_,f3,f4,f5⟩:=I.X2 (b:=s.heap.objs.size) (MJ _) (I.My.fresh (MJ _));have z:=Inv.turned (s:={ s with heap:=s.heap.push o }) (h':=h') (t':=tk) (it:=s.heap.objs.size) I1 (λb u hb e=>k b u (by simpa using hb) e) f0 f1 f3 f4 f5;exact z
theorem AC (hc:X.calm=true):cC X (.builtin "all") (λxs H Q=>∃(p:D') (bs:List Bool),xs=[.ref p]/\MA X.K H p (bs.map V.bl)/\Q (.bl (bs.all id)) H):=by
 intro aa s σ H xs us Q I r h;obtain⟨p,bs,rfl,hp,q⟩:=h;obtain⟨u,rfl,ru⟩:=dw r;cases ru;obtain⟨Mh,rv,pl,hz⟩:=I.list hp;have hl:=rv.length;rw[Ng] at hl;have NI:p≠s.heap.objs.size:=by
  obtain⟨o,ho,_⟩:=pl.isList;exact M8 (MS ho)
 have tr:TruthOf X.prog X.w X.A.in1 (λi v=>Mh.toArray[i]?=some v) (λi=>(bs[i]?).getD false):=λi v s' Q' E' hP hQ=>by
  have e:Mh[i]?=some v:=by simpa using hP
  have hi:i<bs.length:=by have:=(NP.mp e).1;lia
  obtain⟨w,e1,e2⟩:=rv.get (i:=i) (x:=V.bl bs[i]) (by simp[hi]);rw[e] at e1;cases e1;cases e2;refine Q9 ?_;have hQ2:Q' ((bs[i]?).getD false) s':=hQ;rw[Om hi] at hQ2;exact hQ2
 refine call_all_walk (acp pl.isList ⟨s.heap.objs.size,_,_,_,_,_,_,rfl,Walks.list (A:=X.A.in1) (show X.A.in1.handled=none from I.ok.hd hc) s.heap.objs.size p NI Mh.toArray,⟨⟨_,NV _ rfl,rfl,rfl⟩,pl.isList.at λo e=>MZ _ e⟩,tr,λh' tk k=>?_⟩);have Iw:Inv X aa σ H { s with heap:=h',toks:=tk }:=wF I k;refine⟨.bl (bs.all id),H,Iw,?_,q⟩;show _=R0 _
 congr 1
 have:∀(l:List Bool),(Ox l.length).all (λi=>(l[i]?).getD false)=l.all id:=λl=>by
  rw[Ta];simp only[Sq,P8,id];constructor
  .intro h x hx;obtain⟨i,hi,e⟩:=List.getElem_of_mem hx;have:=h i hi;rw[Om hi,e] at this;exact this
  .intro h i hi;rw[Om hi];exact h _ (VQ _)
 rw[ND,<-hl];exact this bs
theorem uQ (hl:IsTup s.heap l vs.toArray)(hsz:vs.length<=Mz)(h:Q vs { s with heap:=(s.heap.push (M5 "list" #[] 0)).update s.heap.objs.size (OU (·++vs.toArray)) }):Ml (Mr prog w) A (collect (.ref l)) Q E s:=by
 obtain⟨o,ho,hc,n,hd⟩:=id hl;have Ty:(s.heap.push (M5 "list" #[] 0)).get? l=some o:=MZ _ ho;have hS:(s.heap.push (M5 "list" #[] 0)).get? s.heap.objs.size=some (M5 "list" #[] 0):=NV _ rfl;unfold collect;refine Mf (acJ (Sr entry_proto_collect' ?_));show Ml _ _ (newList [] >>= λv=>again (.builtin "list.__iadd__" ⟨[v,.ref l],[]⟩)) _ _ s;refine Mf (V1 (Mm ⟨acl _ (by decide +kernel),Sr entry_list_iadd' ?_⟩));show Ml _ _ (adK (.ref s.heap.objs.size) (.ref l) (.ref s.heap.objs.size)) _ _ _;unfold adK;refine Mf (V6 (T:="tuple") ⟨o,Ty,hc⟩ ?_);have e1:(PH.List.listSameRef (.ref s.heap.objs.size) (.ref l)||QE "tuple"==QE "list"||QE "tuple"==QE "tuple")=true:=by
  rw[show(QE "tuple"==QE "tuple")=true from rfl,Bool.or_true]
 rw[Mu e1];refine Mf (XM Ty hd (Mf (XM hS rfl ?_)));rw[Mq (by simp)];refine Mf (aaX hS rfl ?_ (NX _) (by rw[Array.size_append,ND];simp;lia));refine Mm ?_;have hU:=XE hS (·++vs.toArray);refine Mf (wpAny_load hU ?_);show Ml _ _ (pure ((#[]:Array G')++vs.toArray).toList) Q E _;rw[Array.empty_append,List.toList_toArray];exact Mm h
theorem wG (hl:IsTup s.heap l vs.toArray)(hI:Ry vs ns)(SI:vs.length<64)(h:∀(out:Array G') (Ob:List Int),Ry out.toList Ob->Ob.Perm ns->Ob.Pairwise (·<=·)->Q (.ref (s.heap.objs.size+1)) { s with heap:=sortedAll s.heap vs out }):
  Ml (Mr prog w) A (call (.builtin "sorted") [.ref l]) Q E s:=by
 refine aao abb aa4 aa5 (aa6 _) ?_;have hz:((s.heap.push (M5 "list" #[] 0)).update s.heap.objs.size (OU (·++vs.toArray))).objs.size=s.heap.objs.size+1:=by rw[Mp.size_update,size_push']
 have hL:(((s.heap.push (M5 "list" #[] 0)).update s.heap.objs.size (OU (·++vs.toArray))).push (M5 "list" vs.toArray 0)).get? (s.heap.objs.size+1)=some (M5 "list" vs.toArray 0):=by
  rw[<-hz];exact NV _ rfl
 unfold PH.«sorted»;refine Mf (m:=checkCount "sorted" 1 1 _) (Mm (Mf (uQ hl (by rw[Nf];lia) (Mf (V1 ?_)))));show Ml _ _ _ _ _ { s with heap:=((s.heap.push (M5 "list" #[] 0)).update s.heap.objs.size (OU (·++vs.toArray))).push (M5 "list" vs.toArray 0) };rw[hz];refine Mf (O2 (Ra aam ⟨_,hL,rfl⟩ aak (list_sort_tree hL hI SI λout Ob a1 a2 a3=>⟨_,rfl,Mm ⟨_,rfl,h out Ob a1 a2 a3⟩⟩) (aaT _)))
theorem sv:cC X (.builtin "sorted") (λxs H Q=>∃(p:D') (ns:List Int),xs=[.ref p]/\MR X.K H p (ns.map V.int)/\ns.length<64/\∀(l:D') (Ob:List Int),H l=none->Ob.Perm ns->Ob.Pairwise (·<=·)->Q (.ref l) (upd H l (.lst (Ob.map V.int)))):=by
 intro aa s σ H xs us Q I r h;obtain⟨p,ns,rfl,hp,SI,q⟩:=h;obtain⟨u,rfl,ru⟩:=dw r;cases ru;obtain⟨Mh,rv,pl,hz⟩:=I.tuple hp;have hl:=rv.length;rw[Ng] at hl;refine wG pl (wC rv) (by lia) λout Ob h1 h2 h3=>?_;obtain⟨e,he⟩:=sortedAll_at s.heap Mh out;have abo:H (s.heap.objs.size+1)=none:=I.My.fresh (UZ _);have hv:aw (Ob.map V.int) out.toList:=ir h1;have hlen:Ob.length=ns.length:=h2.length_eq;refine⟨.ref (s.heap.objs.size+1),_,I.laid (t':=s.toks) (o:=.lst (Ob.map V.int)) (λb o z=>sortedAll_old z) (UZ _) ⟨by rw[Ng,Nf];lia,out.toList,e,hv,by simpa [M5] using he⟩,rfl,q _ Ob abo h2 h3⟩
theorem AD:Nr X (binaryOp .Add) (λx y H Q=>∃a b ys,x=.ref a/\y=.ref b/\MR X.K H a []/\MR X.K H b ys/\Q (.ref b) H):=by
 intro aa s σ H x y v u Q I rx ry h;obtain⟨a,b,ys,rfl,rfl,ha,hb,q⟩:=h;cases rx;cases ry;obtain⟨Mh,r1,p1,_⟩:=I.tuple ha;obtain⟨U6,r2,p2,_⟩:=I.tuple hb;cases r1;obtain⟨⟨cls,dd,data,sl⟩,ho,hc,n,hd⟩:=id p1;obtain⟨⟨afj,dd2,data2,sl2⟩,Tv,Ys,n2,hd2⟩:=id p2;simp only at hc hd Ys hd2;subst hc hd Ys hd2;exact concat_meets ⟨_,ho,rfl⟩ ⟨_,Tv,rfl⟩ acv acP ab1 abX (abT _ _)
  (tuple_addW0 a b #[] U6.toArray n n2 dd dd2 sl sl2 rfl) ⟨ho,Tv,⟨.ref b,H,I,rfl,q⟩⟩
end
def PF (X:Cx)(e:MK)(P:St->Hp->Prop)(k:Nat):Prop:=
 ∀(aa:List (D'×Mc)) (s:Md) (σ:St) (H:Hp) (Q:G'->Md->Prop),Inv X aa σ H s->P σ H->(∀y t s',Inv X aa σ H s'->y.length<=k->Q (.str y t) s')->Ml (Mr X.prog X.w) X.A (eval e X.env) Q X.xe s
def PJ (X:Cx)(es:List MK)(P:St->Hp->Prop)(n:Nat):Prop:=
 ∀(aa:List (D'×Mc)) (s:Md) (σ:St) (H:Hp) (acc:Me) (Q:Me->Md->Prop),Inv X aa σ H s->P σ H->acc.length+n<=Mz->(∀out s',Inv X aa σ H s'->out.length<=acc.length+n->Q out s')->
  Joins (Mr X.prog X.w) X.A X.xe (evalEach es X.env) acc Q s
section
theorem gX:PJ X [] (λ_ _=>True) 0:=λaa s σ H acc Q I _ _ h=>h acc s I (MJ _)
theorem bB (h1:PF X e P k)(h2:PJ X es R n)(he:evalEach (e::es) X.env=eval e X.env::evalEach es X.env:=by rfl):PJ X (e::es) (λσ H=>P σ H/\R σ H) (k+n):=by
 intro aa s σ H acc Q I hp hz hq;rw[he];refine h1 aa s σ H _ I hp.1 λy t s1 I1 hy=>?_;have hl:(acc++y).length=acc.length+y.length:=acR acc y;refine⟨y,t,rfl,by lia,?_⟩;exact h2 aa s1 σ H _ _ I1 hp.2 (by lia) λout s2 I2 ho=>hq out s2 I2 (by lia)
theorem fW (h:PJ X (QI::QJ::rest) P n)(hn:n<=Mz):PE X (.JoinedStr (QI::QJ::rest) pos) (λσ H Q=>P σ H/\∀x,Q (.str x) H):=by
 intro aa s σ H Q I hq;have hz:Str.empty.length=0:=rfl;refine wpAny_JoinedStr (h aa s σ H _ _ I hq.1 (by lia) λout s' I' ho=>⟨by lia,?_⟩);exact⟨.str out,H,I'.tok _,⟨_,rfl⟩,hq.2 out⟩
theorem cV {j pos}(h:x.length<=k):PF X (.Constant (.str x) j pos) (λ_ _=>True) k:=λaa s σ H Q I _ hq=>aey (hq x _ _ (I.tok _) h)
def isI (te:TE):St->Hp->Prop:=λσ H=>te σ H λv H'=>H'=H/\∃i:Int,v=.int i/\i.natAbs.log2<1900
def isT (K:Mi)(te:TE):St->Hp->Prop:=λσ H=>te σ H λv H'=>H'=H/\∃(a:D') (ns:List Int),v=.ref a/\MR K H a (ns.map V.int)/\ns.length<=64/\∀i∈ns,i.natAbs.log2<1900
theorem oQ {i:Int}(h:i.natAbs.log2<1900):(RZ (toString i)).length<=1901:=by
 rw[PySem.ofString_length];exact int_text_length_le (by decide) h
theorem iT (h:PE X e te):PF X (.FormattedValue e (-1) none pos) (isI te) 1901:=by
 intro aa s σ H Q I hp hq;refine wpAny_FormattedValue_plain (ME (h aa s σ H _ I hp) λu s1 ⟨v,H1,I1,r,eH,i,ev,hb⟩=>?_);subst eH ev;obtain⟨t,rfl⟩:=r;exact wpAny_formatField_int (by lia) (hq _ _ _ (I1.tok _) (oQ hb))
theorem Cu (h:PE X e te):PF X (.FormattedValue e 114 none pos) (isI te) 1901:=by
 intro aa s σ H Q I hp hq;refine adW (ME (h aa s σ H _ I hp) λu s1 ⟨v,H1,I1,r,eH,i,ev,hb⟩=>?_);subst eH ev;obtain⟨t,rfl⟩:=r;have hl:=oQ hb;have hz:(RZ (toString i)).length<=Mz:=by rw[Nf];lia
 refine wpAny_pyReprObj_gives (abe _ i t) F.slot_int_repr F.entry_int_repr (F.args_int_repr_1 _) (gives_int_repr i t (by lia)) ?_ rfl hz;exact wpAny_formatField_str (hq _ _ _ (I1.tok _) hl) (hq _ _ _ ((I1.tok _).tok _) hl) hz
theorem DV (h:∀t∈ts,t.length<=m):(tupleText ts).length<=ts.length*(m+2)+4:=by
 have hp:∀l:List Me,(∀t∈l,t.length<=m)->piled l<=l.length*(m+2):=λl=>by
  induction l with
  | nil=>intro _;simp[piled]
  | cons t r ih=>
   intro hh;have:=ih λu hu=>hh u (Na _ hu);have h1:=hh t MO;rw[piled_cons,N',acW];lia
 have hj:(Me.join ", " ts).length<=piled ts:=by
  cases ts with
  | nil=>exact MJ _
  | cons t r=>have:=join_length_add (t::r) (by simp);lia
 unfold tupleText;rw[acR,acR];have e1:(("(":String):Me).length=1:=rfl;have e2:((if ts.length==1 then ",)" else ")":String):Me).length<=2:=by
  split
  .exact V5 rfl
  .exact Nat.le_succ_of_le (V5 rfl)
 have:=hp ts h;have Vj:(RZ "(").length=1:=rfl;lia
theorem oS (hr:Mg k X.A)(h:PE X e te):PF X (.FormattedValue e 114 none pos) (isT X.K te) 200000:=by
 intro aa s σ H Q I hp hq;refine adW (ME (h aa s σ H _ I hp) λu s1 ⟨v,H1,I1,r,eH,a,ns,ev,ht,hn,hb⟩=>?_);subst eH ev;cases r;obtain⟨Mh,rv,pl,hz⟩:=I1.tuple ht;obtain⟨o,ho,hc,n,hd⟩:=pl;have Qe:∀(ns:List Int) (us:List G'),(∀i∈ns,i.natAbs.log2<1900)->aw (ns.map V.int) us->ReprAllK X.prog X.w [] s1.heap 0 us (ns.map λi=>RZ (toString i)):=by
  intro ns
  induction ns with
  | nil=>intro us _ rr;cases rr;exact .nil
  | cons i ns ih=>
   intro us hh rr;cases rr with
   | cons r1 r2=>
    obtain⟨t,rfl⟩:=r1;exact .cons (ReprK.of_is (ReprIs.int t (by have:=hh i MO;lia)) _ _ _) (ih _ (λj hj=>hh j (Na _ hj)) r2)
 have hlen:(tupleText (ns.map λi=>RZ (toString i))).length<=200000:=by
  have:=DV (ts:=ns.map λi=>RZ (toString i)) (m:=1901) λt ht=>by
   obtain⟨i,hi,rfl⟩:=Nm.mp ht;exact oQ (hb i hi)
  rw[Ng] at this;have h2:ns.length*(1901+2)<=64*1903:=VG _ hn;lia
 have hu:=hr.units;refine wpAny_pyReprObj_tupleK ho hc hd (by simp) (Qe ns Mh hb rv) hr.gd (λb _=>Clear.nil b) (by lia) (λb o z=>z) (λh' u tk hk=>?_) (by rw[Nf];lia);have I2:Inv X aa σ H1 { s1 with heap:=h',toks:=tk }:=I1.kept hk;exact wpAny_formatField_str (hq _ _ _ I2 hlen) (hq _ _ _ (I2.tok _) hlen) (by rw[Nf];lia)
end
def jU (a:D')(cls:G'):HO:=.ext λh=>∃oe vs,h.get? a=some oe/\oe.cls=cls/\oe.data=.fields vs
theorem Cv (x:Yw h a cls T):bg P w H h a (jU a cls):=by
 obtain⟨_,oe,vs,_,_,e1,e2,e3,_⟩:=x;exact⟨⟨oe,vs,e1,e2.1,e3⟩,⟨oe,e1⟩,λh1 h2 ⟨o,ws,q1,q2,q3⟩ k=>⟨o,ws,k _ q1,q2,q3⟩⟩
section
variable {X:Cx}{aa:List (D'×Mc)}{σ:St}{H:Hp}{s:Md}{h':Mp} in
theorem Inv.abt {g':Array Z8}{t':Nat}{d':Drawn}{ch:List D'}(I:Inv X aa σ H s)(OD:∀b∈ch,X.Nv.heap.get? b=none/\b≠X.env.locals/\(∀x c,X.env.cells.lookup x=some c->c≠b)/\∀p∈X.pn++aa,p.1≠b)(keep:∀b o,b∉Nq X.stack->b∉ch->s.heap.get? b=some o->h'.get? b=some o)(slot:∀b o,b∈Nq X.stack->s.heap.get? b=some o->∃sl,h'.get? b=some { o with slots:=sl })(hex:X.ex=[])(Q2:X.stack=X.env::X.outer)(U7:∀b∈ch,H b=none)(hg:Sy g'):
  Inv X aa σ H { s with heap:=h',gens:=g',drawn:=d',toks:=t' }:=by
 have Qc:∀b,b∉X.ex:=λb z=>by rw[hex] at z;exact Mw z (by simp)
 have nfr:∀b o,X.Nv.heap.get? b=some o->b∉X.fs->b∉Nq X.stack:=λb o e1 nb z=>by
  rcases M0.mp (I.Rf b z) with r|r
  .exact Mw (NH (MS e1) I.ok.above) (by rw[r];exact RX _)
  .exact nb r
 have Uu:∀b o,X.Nv.heap.get? b=some o->b∉ch:=λb o e1 z=>by rw[(OD b z).1] at e1;cases e1
 have ns:∀m,s.heap.Ns X.env.locals m->h'.Ns X.env.locals m:=λm hm=>by
  obtain⟨o,es,ep,ho,r⟩:=hm
  by_cases hb:X.env.locals∈Nq X.stack
  .obtain⟨sl,e⟩:=slot _ o hb ho;exact⟨_,es,ep,e,r⟩
  .exact⟨o,es,ep,keep _ o hb (λz=>(OD _ z).2.1 rfl) ho,r⟩
 have cellK:∀x c,X.env.cells.lookup x=some c->∀v,s.heap.IsCell c v->h'.IsCell c v:=λx c e v ⟨o,ho,hd⟩=>by
  by_cases hb:c∈Nq X.stack
  .obtain⟨sl,q⟩:=slot c o hb ho;exact⟨_,q,hd⟩
  .exact⟨o,keep c o hb (λz=>(OD c z).2.2.1 x c e rfl) ho,hd⟩
 refine⟨I.ok,I.os,hg,⟨λb o e n hb hx=>?_,λb o e n hb hx=>?_,λb o e n hx=>I.base.free b o e n hx,λb o e hx=>?_,I.base.OG,I.base.QF,I.base.QG⟩,?_,λx c e=>?_,I.free,I.Qp,λp hp=>?_,λa o e=>?_,I.len⟩
 .exact keep b o (nfr b o e hb) (Uu b o e) (I.base.keep b o e n hb hx)
 .obtain⟨sl,e1⟩:=I.base.slot b o e n hb hx;obtain⟨Va,e2⟩:=slot b _ (BJ Q2 hb) e1;exact⟨Va,e2⟩
 .obtain⟨o',e1⟩:=I.base.there b o e hx
  by_cases hb:b∈Nq X.stack
  .obtain⟨sl,e2⟩:=slot b o' hb e1;exact⟨_,e2⟩
  .exact⟨o',keep b o' hb (Uu b o e) e1⟩
 .obtain⟨m,hn,hl⟩:=I.loc;refine⟨m,ns m hn,λi x v e1 e2 e3=>?_⟩;obtain⟨u,r,l⟩:=hl i x v e1 e2 e3;refine⟨u,r,?_⟩;rcases l with l|⟨k,c,e,z⟩
  .exact .inl l
  .exact .inr ⟨k,c,e,cellK x c e _ z⟩
 .obtain⟨v,z⟩:=I.cell x c e;exact⟨v,cellK x c e v z⟩
 .obtain⟨e,n,ne,nf,d⟩:=I.pin p hp;refine⟨keep p.1 p.2 (λz=>?_) (λz=>(OD p.1 z).2.2.2 p hp rfl) e,n,ne,nf,d⟩;rcases M0.mp (I.Rf _ z) with r|r
  .exact ne r
  .exact nf r
 .refine(I.My a o e).RA (λb u hb q=>keep b u (λz=>?_) (λz=>?_) q) (λ_ z=>z) λ_ _ z=>z
  .have n:=I.ζ b z;rcases hb with r|r
   .rw[r,e] at n;cases n
   .rw[r] at n;cases n
  .have n:=U7 b z;rcases hb with r|r
   .rw[r,e] at n;cases n
   .rw[r] at n;cases n
variable {σ:St} in
theorem Inv.aeY (I:Inv X aa σ H s)(hD:H D=none)(h0:X.Nv.heap.get? D=none)(hL:D≠X.env.locals)(hc:∀x c,X.env.cells.lookup x=some c->c≠D)(hp:∀p∈X.pn++aa,p.1≠D)(My:bg X.prog X.w (upd H D o) s.heap D o):Inv X aa σ (upd H D o) s:=by
 have ne:∀b u,H b=some u->b≠D:=λb u e z=>by rw[z,hD] at e;cases e
 have n0:∀b ob,X.Nv.heap.get? b=some ob->b≠D:=λb ob e z=>by rw[z,h0] at e;cases e
 refine⟨I.ok,I.os,I.bare,⟨I.base.keep,I.base.slot,λb ob e n hx=>by rw[ao (n0 b ob e)];exact I.base.free b ob e n hx,I.base.there,λb xs e=>?_,λb ob u e=>?_,λb ps e=>?_⟩,I.loc,I.cell,by rw[ao (M' hL)];exact I.free,
  λx c e=>by rw[ao (hc x c e)];exact I.Qp x c e,λp hpp=>?_,λa u e=>?_,I.len⟩
 .have q:=I.base.OG b xs e;rw[ao (ne b _ q)];exact q
 .have q:=I.base.QF b ob u e;rw[ao (ne b _ q)];exact q
 .obtain⟨m,q⟩:=I.base.QG b ps e;exact⟨m,by rw[ao (ne b _ q)];exact q⟩
 .obtain⟨e,n,r⟩:=I.pin p hpp;exact⟨e,by rw[ao (hp p hpp)];exact n,r⟩
 .by_cases ha:a=D
  .subst ha;rw[ag] at e;cases e;exact My
  .rw[ao ha] at e;exact(I.My a u e).RA (λb v _ q=>q) (λb q=>by rw[ao (ne b _ q)];exact q) λb xs q=>by rw[ao (ne b _ q)];exact q
variable {σ:St} in
theorem Inv.forget {t':Nat}(I:Inv X aa σ H s)(hN:X.N.Nodup)(hi:X.N[i]?=some x)(hl:∀(i:Nat) (x:Me) (v:V),X.N[i]?=some x->σ[i]?=some (some v)->Yn X.env.scope x->∃u,ax v u/\DC X.env s.heap m x u)(hn':h'.Ns X.env.locals (λy=>if y=x then v else m y))(hs:QY X.env.locals s.heap h'):Inv X aa (σ.set i none) H { s with heap:=h',toks:=t' }:=by
 have ρ:i<σ.length:=by rw[I.len];exact(NP.mp hi).1
 have ne0:∀b o,X.Nv.heap.get? b=some o->b≠X.env.locals:=λb o e=>M8 (NH (MS e) I.ok.above);refine⟨I.ok,I.os,I.bare,⟨λb o e n hb hx=>(hs.2 b (ne0 b o e)).trans (I.base.keep b o e n hb hx),λb o e n hb hx=>?_,I.base.free,λb o e hx=>?_,I.base.OG,I.base.QF,I.base.QG⟩,⟨_,hn',λj y v' e1 e2 e3=>?_⟩,λy c e=>?_,I.free,I.Qp,λp hp=>?_,λa o e=>?_,by simpa using I.len⟩
 .obtain⟨sl,e1⟩:=I.base.slot b o e n hb hx;exact⟨sl,(hs.2 b (ne0 b o e)).trans e1⟩
 .obtain⟨o',e1⟩:=I.base.there b o e hx;exact⟨o',(hs.2 b (ne0 b o e)).trans e1⟩
 .by_cases hj:j=i
  .subst hj;rw[ab0 ρ] at e2;cases e2
  .rw[acf (M' hj)] at e2;obtain⟨u',r',q⟩:=hl j y v' e1 e2 e3;refine⟨u',r',?_⟩;rcases q with⟨k,e⟩|⟨k,c,e,z⟩
   .refine .inl ⟨k,?_⟩;have:y≠x:=λe=>hj (lU hN e1 (e▸hi));simp[this,e]
   .exact .inr ⟨k,c,e,z.sameBut hs (I.SF y c e)⟩
 .obtain⟨w',z⟩:=I.cell y c e;exact⟨w',z.sameBut hs (I.SF y c e)⟩
 .obtain⟨e,n,ne,nf,d⟩:=I.pin p hp;exact⟨(hs.2 p.1 ne).trans e,n,ne,nf,d⟩
 .refine(I.My a o e).RA (λc w' hc q=>(hs.2 c ?_).trans q) (λ_ q=>q) λ_ _ q=>q;rintro rfl;have hf:=I.free;rcases hc with z|hc
  .rw[<-z] at e;rw[hf] at e;cases e
  .rw[hf] at hc;cases hc
abbrev Cx.PQ (X:Cx)(A':ML)(c:Bool)(Q3:List (D'×Mc))(RH:G'->Md->Prop):Cx:={ X with A:=A',calm:=c,pn:=Q3,xe:=RH }
variable {X:Cx}{aa:List (D'×Mc)}{σ:St}{H:Hp}{s:Md} in
theorem Inv.PQ {A':ML}{c:Bool}{Q3 Tm:List (D'×Mc)}{RH:G'->Md->Prop}(I:Inv X aa σ H s)(hf:A'.frames=X.A.frames)(hh:c=true->A'.handled=none)(hp:∀p∈Q3++Tm,p∈X.pn++aa):
  Inv (X.PQ A' c Q3 RH) Tm σ H s:=
 ⟨⟨I.ok.mod,I.ok.kind,I.ok.glob,I.ok.blt,I.ok.above,I.ok.inj,I.ok.has,I.ok.Ut,hh,hf.trans I.ok.frames,I.ok.Wj,I.ok.exf,I.ok.bs,I.ok.R',I.ok.Qc,I.ok.Wg,I.ok.Qd,I.ok.Sb⟩,
  I.os,I.bare,I.base,I.loc,I.cell,I.free,I.Qp,λp h=>I.pin p (hp p h),I.My,I.len⟩
variable {X:Cx}{aa:List (D'×Mc)}{σ:St}{H:Hp}{s:Md} in
theorem Inv.out {A':ML}{c:Bool}{Q3 Tm:List (D'×Mc)}{RH:G'->Md->Prop}(I:Inv (X.PQ A' c Q3 RH) Tm σ H s)(hf:X.A.frames=some X.stack)(hh:X.calm=true->X.A.handled=none)(hp:∀p∈X.pn++aa,p∈Q3++Tm):
  Inv X aa σ H s:=
 ⟨⟨I.ok.mod,I.ok.kind,I.ok.glob,I.ok.blt,I.ok.above,I.ok.inj,I.ok.has,I.ok.Ut,hh,hf,I.ok.Wj,I.ok.exf,I.ok.bs,I.ok.R',I.ok.Qc,I.ok.Wg,I.ok.Qd,I.ok.Sb⟩,
  I.os,I.bare,I.base,I.loc,I.cell,I.free,I.Qp,λp h=>I.pin p (hp p h),I.My,I.len⟩
end
theorem pY {K:Mi}(I:K.In h)(hc:PB K C=true):W.Looks M h (isType (.ref C)) true:=by
 unfold PB W.clsIn at hc
 split at hc
 .rename_i c' d' cd' Va lk;intro A Q E s k q;unfold isType loadHead;exact Mf (wpAny_loadPart (k _ _ (I _ _ lk)) (Mm q))
 .cases hc
theorem wH {K:Mi}(I:K.In s.heap)(he:s.heap.get? e=some oe)(hc:oe.cls=.ref C)(hnt:W.instIn K (.ref CN) (.type "tuple")=some false)(hxc:Np K CN (.type "BaseException")=some true)(Pe:PB K CN=true)(hm:Np K C (.ref CN)=some true)(hq:Q true s):
  Ml M A (excMatches (.ref e) (.ref CN)) Q E s:=by
 have L1:=W.looks_instIn (M:=M) I hnt;have L2:=aaY (M:=M) I hxc;have L3:=aaY (M:=M) I hm;have L0:W.Looks M s.heap (isType (.ref CN)) true:=pY I Pe;have LE:W.Looks M s.heap (isExcClass (.ref CN)) true:=L0.andThen (by simpa using L2);have LT:W.Looks M s.heap (typeOf (.ref e)) (.ref C):=hc▸(ac2 he).andThen .now;obtain⟨hp,g,d,tk,os⟩:=s;unfold excMatches;refine Mf (L1.at ?_);simp only[NT,if_false,pure_bind,acC,List.forIn_nil,bind_assoc];refine Mf (LE.at ?_);simp only[QX,NT,if_false,pure_bind];refine Mf (LT.at ?_);refine Mf (L3.at ?_);simp only[if_true,pure_bind];exact Mm hq
def Jd (K:Mi)(CN:D')(tb:(St->XK)->TS)(ie:Nat)(ts:TS):TS:=λD σ H=>
 tb (λMP cls _ H'=>∃C,cls=.ref C/\Np K C (.ref CN)=some true/\∀e,H' e=none->ts { nx:=λQf H2=>D.nx (Qf.set ie none) H2,rt:=λ_ _=>False } (MP.set ie (some (.ref e))) (upd H' e (jU e (.ref C)))) D σ H
section
theorem DW (hc:X.calm=true)(hex:X.ex=[])(Q2:X.stack=X.env::X.outer)(hfr:X.env.frame=some X.env.locals)(hg:Gl X x)(hm:X.mg x=some (.ref CN))(hnt:W.instIn X.K (.ref CN) (.type "tuple")=some false)(hxc:Np X.K CN (.type "BaseException")=some true)(Pe:PB X.K CN=true)(hN:X.N.Nodup)(hi:X.N[ie]?=some nm)(hl:X.env.scope.names.lookup nm=some .local)(hb:∀(Q3:List (D'×Mc)) (RH:G'->Md->Prop) (E:St->XK),cM (Nb X.prog X.w) (X.PQ X.A X.calm Q3 RH) E->PY (X.PQ X.A X.calm Q3 RH) body (tb E))(hs:∀(A':ML) (Q3:List (D'×Mc)) (RH:G'->Md->Prop),PY (X.PQ A' false Q3 RH) (X9::X0) ts)(hd:(x==("__debug__":Me))=false:=by decide):
  PS X (.Try body [.ExceptHandler (some (.Name x np)) (some nm) (X9::X0) Tq] [] [] pos) (Jd X.K CN tb ie ts):=by
 intro aa s σ H D I h;refine wpAny_Try_except ?_;have pass:cM (Nb X.prog X.w) (X.PQ X.A X.calm (X.pn++aa) (λe MN=>Ml (Mr X.prog X.w) X.A (noteFrame e X.env) (λ_ M1=>Ml (Mr X.prog X.w) X.A (setFlight e none) (λ_ Uq=>
   Ml (Mr X.prog X.w) X.A (handleBy e X.env [.ExceptHandler (some (.Name x np)) (some nm) (X9::X0) Tq]) (SP X aa D) X.xe Uq) X.xe M1) X.xe MN))
   (λMP cls _ H'=>∃C,cls=.ref C/\Np X.K C (.ref CN)=some true/\∀e,H' e=none->ts { nx:=λQf H2=>D.nx (Qf.set ie none) H2,rt:=λ_ _=>False } (MP.set ie (some (.ref e))) (upd H' e (jU e (.ref C)))):=by
  intro Tm MP H' s' e Os I' hx;obtain⟨ea,cls,Qg,rfl,ho,hgn,un,My,fl,C,rfl,adk,q⟩:=hx;have Ic:=I'.XZ (ch:=[]) ho un My hgn (λb z=>Mw z (by simp));have I1:Inv X aa MP Qg Os:=Ic.out (aa:=aa) I.ok.frames I.ok.hd λp hp=>P6 _ hp;obtain⟨T,Uw,Yx,Yy⟩:=fl.tr;have old:∀b,s'.heap.get? b=none->X.Nv.heap.get? b=none:=λb O7=>by
   cases e1:X.Nv.heap.get? b with
   | none=>rfl
   | some o=>
    obtain⟨o',e2⟩:=I'.base.there b o e1 (by intro z;rw[show(X.PQ X.A X.calm (X.pn++aa) _).ex=X.ex from rfl,hex] at z;exact Mw z (by simp));rw[O7] at e2;cases e2
  have apart:∀b,s'.heap.get? b=none->X.Nv.heap.get? b=none/\b≠X.env.locals/\(∀y c,X.env.cells.lookup y=some c->c≠b)/\∀p∈X.pn++aa,p.1≠b:=λb O7=>by
   refine⟨old b O7,?_,λy c hy z=>?_,λp hp z=>?_⟩
   .rintro rfl;obtain⟨m,⟨o,_,_,e2,_⟩,_⟩:=I'.loc;have e3:s'.heap.get? X.env.locals=some o:=e2;rw[O7] at e3;cases e3
   .obtain⟨v,o,e2,_⟩:=I'.cell y c hy;rw[z,O7] at e2;cases e2
   .have e2:=(I'.pin p (P6 _ hp)).1;rw[z,O7] at e2;cases e2
  have OD:∀b∈[ea,T],X.Nv.heap.get? b=none/\b≠X.env.locals/\(∀y c,X.env.cells.lookup y=some c->c≠b)/\∀p∈X.pn++aa,p.1≠b:=λb O7=>by
   rcases M0.mp O7 with z|z
   .rw[z];exact apart ea fl.new
   .rw[N3.mp z];exact apart T Yx
  have U7:∀b∈[ea,T],Qg b=none:=λb O7=>by
   rcases M0.mp O7 with z|z
   .rw[z];exact fl.free
   .rw[N3.mp z];exact Yy
  have hB:∀b∈[ea,T],(Rx Os.heap (Nq X.stack++[ea,T])).get? b=none:=λb O7=>XG _ (OA _ O7);have RE:(Rx Os.heap (Nq X.stack++[ea,T])).StaysIn Os.heap:=λb o z=>V4 _ z;have hff:Os.heap.FunFrames (Rx Os.heap (Nq X.stack++[ea,T])) X.stack:=ZO I1.stack λenv he a ha=>P6 _ (Qm.mpr ⟨env,he,ha⟩);obtain⟨a0,tw⟩:=Uw.abn (hB T (by simp));show Ml (Mr X.prog X.w) X.A (noteFrame (.ref ea) X.env) _ X.xe Os;refine wpAny_noteFrame_onW (outer:=X.outer) (L:=X.env.locals) (Q2▸I.ok.frames) (Q2▸hff) hfr tw RE (hB ea (by simp)) λh4 hN4=>?_;obtain⟨n1,n2,n3,n4⟩:=hN4;refine ab7 n1 n2 n3 λh5 m1 m2 m3 m4=>?_;have kp5:∀b o,b∉Nq X.stack->b∉[ea,T]->Os.heap.get? b=some o->h5.get? b=some o:=λb o z1 z2 e1=>m1 b o (Tc _ e1 λm=>(Ny.mp m).elim z1 z2);have sl5:∀b o,b∈Nq X.stack->Os.heap.get? b=some o->∃sl,h5.get? b=some { o with slots:=sl }:=λb o O7 e1=>by
   obtain⟨o',e2,nd⟩:=kM I1 O7;rw[e1] at e2;cases e2;obtain⟨sl,e3⟩:=n4 b o e1 nd;exact⟨sl,m4 b _ e3 nd⟩
  have I5:Inv X aa MP Qg { Os with heap:=h5 }:=I1.abt (g':=Os.gens) (d':=Os.drawn) (t':=Os.toks) OD kp5 sl5 hex Q2 U7 I1.bare;have hfm:(X.A.mark (some (.ref ea))).frames=X.A.frames:=rfl;refine wpAny_handleBy_cons (codeAny_handlers_test ?_) (by intro q;cases q);have J5:Inv (X.PQ (X.A.mark (some (.ref ea))) false (X.pn++aa) (notedBy (Mr X.prog X.w) (X.A.mark (some (.ref ea))) X.env (cameBackBy (Mr X.prog X.w) X.A X.env X.xe))) [] MP Qg { Os with heap:=h5 }:=
   I5.PQ hfm (λz=>by cases z) λp hp=>by simpa using hp
  refine gJ J5 hg hm ?_ hd;obtain⟨T5,afq,hT5⟩:=sg m3;obtain⟨_,oe,_,_,_,e5,c5,_⟩:=id afq;refine wH I5.NZ e5 c5.1 hnt hxc Pe adk ?_;refine codeAny_handlers_suite_as ?_;refine ab7 m1 m2 m3 λh6 p1 p2 p3 p4=>?_;have kp6:∀b o,b∉Nq X.stack->b∉[ea,T]->Os.heap.get? b=some o->h6.get? b=some o:=λb o z1 z2 e1=>p1 b o (Tc _ e1 λm=>(Ny.mp m).elim z1 z2);have sl6:∀b o,b∈Nq X.stack->Os.heap.get? b=some o->∃sl,h6.get? b=some { o with slots:=sl }:=λb o O7 e1=>by
   obtain⟨o',e2,nd⟩:=kM I1 O7;rw[e1] at e2;cases e2;obtain⟨sl,e3⟩:=sl5 b o O7 e1;exact⟨sl,p4 b _ e3 nd⟩
  have I6:Inv X aa MP Qg { Os with heap:=h6 }:=I1.abt (g':=Os.gens) (d':=Os.drawn) (t':=Os.toks) OD kp6 sl6 hex Q2 U7 I1.bare;obtain⟨T6,afr,_⟩:=sg p3;have I7:Inv X aa MP (upd Qg ea (jU ea (.ref C))) { Os with heap:=h6 }:=
   I6.aeY fl.free (OD ea (by simp)).1 (OD ea (by simp)).2.1 (OD ea (by simp)).2.2.1 (OD ea (by simp)).2.2.2 (Cv afr)
  have J7:Inv (X.PQ (X.A.mark (some (.ref ea))) false (X.pn++aa) (λ_ _=>False)) [] MP (upd Qg ea (jU ea (.ref C))) { Os with heap:=h6 }:=
   I7.PQ hfm (λz=>by cases z) λp hp=>by simpa using hp
  refine fS (X:=X.PQ (X.A.mark (some (.ref ea))) false (X.pn++aa) (λ_ _=>False)) (i:=ie) (v:=.ref ea) J7 hN hi (.inl hl) rfl (λs8 J8=>?_) (.inr hl);refine eJ (ME (hs _ _ _ [] s8 _ _ _ J8 (q ea fl.free)) λf s9 q9=>?_);cases f with
  | next=>
   obtain⟨YL,H9,J9,d9⟩:=q9;have J9':Inv X aa YL H9 s9:=J9.out (aa:=aa) I.ok.frames I.ok.hd λp hp=>by simpa using hp
   obtain⟨m9,hn9,hl9⟩:=id J9'.loc;refine wpAny_nameGoes_keeps hl hn9 (by rw[I.ok.kind];rfl) λRG v afs SC=>?_;exact⟨YL.set ie none,H9,J9'.forget hN hi hl9 afs SC,d9⟩
  | ret u=>obtain⟨v,YL,H9,J9,r9,d9⟩:=q9;exact d9.elim
  | brk=>obtain⟨YL,H9,J9,d9⟩:=q9;exact d9.elim
  | cont=>obtain⟨YL,H9,J9,d9⟩:=q9;exact d9.elim
 have Ib:Inv (X.PQ X.A X.calm (X.pn++aa) (λe MN=>Ml (Mr X.prog X.w) X.A (noteFrame e X.env) (λ_ M1=>Ml (Mr X.prog X.w) X.A (setFlight e none) (λ_ Uq=>
   Ml (Mr X.prog X.w) X.A (handleBy e X.env [.ExceptHandler (some (.Name x np)) (some nm) (X9::X0) Tq]) (SP X aa D) X.xe Uq) X.xe M1) X.xe MN)) [] σ H s:=I.PQ rfl I.ok.hd λp hp=>by simpa using hp
 refine ME (hb _ _ _ pass [] s σ H D Ib h) λf s1 q1=>?_;have bk:∀{PZ:St}{H1:Hp},Inv (X.PQ X.A X.calm (X.pn++aa) (λe MN=>Ml (Mr X.prog X.w) X.A (noteFrame e X.env) (λ_ M1=>Ml (Mr X.prog X.w) X.A (setFlight e none) (λ_ Uq=>
   Ml (Mr X.prog X.w) X.A (handleBy e X.env [.ExceptHandler (some (.Name x np)) (some nm) (X9::X0) Tq]) (SP X aa D) X.xe Uq) X.xe M1) X.xe MN)) [] PZ H1 s1->Inv X aa PZ H1 s1:=λ{PZ H1} J=>J.out (aa:=aa) I.ok.frames I.ok.hd λp hp=>by simpa using hp
 cases f with
 | next=>obtain⟨PZ,H1,J1,d1⟩:=q1;exact ZQ ⟨PZ,H1,bk J1,d1⟩
 | ret u=>obtain⟨v,PZ,H1,J1,r1,d1⟩:=q1;exact⟨v,PZ,H1,bk J1,r1,d1⟩
 | brk=>obtain⟨PZ,H1,J1,d1⟩:=q1;exact⟨PZ,H1,bk J1,d1⟩
 | cont=>obtain⟨PZ,H1,J1,d1⟩:=q1;exact⟨PZ,H1,bk J1,d1⟩
end
structure Ur (K)(C):Prop where
 cl:PB K C=true
 ga:OO K (.ref C) "__getattribute__"=some (some (.builtin "BaseException.__getattribute__"))
 gt:OO K (.ref C) "__getattr__"=some none
 cls:OO K (.ref C) "__class__"=some (some (.builtin "object.__class__"))
 ob:Np K C (.type "object")=some true
 be:Np K C (.type "BaseException")=some true
section
variable {prog:MD}{w:Mt}{A:ML}{K:Mi}{h:Mp}{g:Array Z8}{d:Drawn}{t:Nat}{os:OV}{a:D'}{C:D'}{o:Mc} in
theorem wI {R:Result->Md->Prop}(X:K.In h)(F0:Ur K C)(hx:h.get? a=some o)(hc:o.cls=.ref C)(hq:R (.ok (.ret (.ref C))) ⟨h,g,d,t,os⟩):
  codeAny (Mr prog w) A (.call (.builtin "getset_descriptor.__get__") ⟨[.builtin "object.__class__",.ref a,.ref C],[]⟩) R ⟨h,g,d,t,os⟩:=by
 have hT5:(⟨h,g,d,t,os⟩:Md).TypeIs (.builtin "object.__class__") "getset_descriptor":=ab8;have L1:=aaY (M:=Mr prog w) X F0.ob;have aft:(".".intercalate ("object.__class__".cutAt '.').dropLast)="object":=F.owner_object_class;refine ach acS.plain F.entry_gs_get (acS.check _ _ _ _ _ _ _ _ hT5 (F.args_gs_get _ _ _) ?_)
 repeat (any_goals (first|assumption|(with_reducible refine ZI hx ?_;rw[hc])|(rw[aft];refine L1.at ?_)|wp_step))
 refine⟨acl _ (by decide +kernel),Sr F.entry_object_class ?_⟩
 repeat (any_goals (first|assumption|(with_reducible refine ZI hx ?_;rw[hc])|wp_step))
variable {prog:MD}{w:Mt}{A:ML}{E:G'->Md->Prop}{K:Mi}{h:Mp}{g:Array Z8}{d:Drawn}{t:Nat}{os:OV}{a:D'}{C:D'}{o:Mc} in
theorem sw {tk:Tok}{Q:Fin->Md->Prop}(X:K.In h)(F0:Ur K C)(hx:h.get? a=some o)(hc:o.cls=.ref C)(hq:Q (.done (.ret (.ref C))) ⟨h,g,d,t,os⟩):
  Ml (Mr prog w) A (PH.«object.__getattribute__» ⟨[.ref a,.str "__class__" tk],[]⟩) Q E ⟨h,g,d,t,os⟩:=by
 have hT5:(⟨h,g,d,t,os⟩:Md).TypeIs (.builtin "object.__class__") "getset_descriptor":=ab8;have L1:=aaS (M:=Mr prog w) X F0.cls;have f5:=ab8;have f6:=acS.lookup;have f7:=F.slot_gs_set.lookup
 repeat (any_goals (first|assumption|(with_reducible refine ZI hx ?_;rw[hc])|(with_reducible refine L1.at ?_)|wp_step))
 refine wI X F0 hx hc ?_
 repeat (any_goals (first|assumption|wp_step))
variable {A:ML}{E:G'->Md->Prop}{K:Mi}{h:Mp}{g:Array Z8}{d:Drawn}{t:Nat}{os:OV}{a:D'}{C:D'}{o:Mc} in
theorem sx {M:Tl}{ac8:G'}{Q:Unit->Md->Prop}(X:K.In h)(F0:Ur K C)(hx:h.get? a=some o)(hc:o.cls=.ref C)(hq:Q () ⟨h,g,d,t,os⟩):
  Ml M A (checkBuiltinCall "BaseException.__getattribute__" ⟨[.ref a,ac8],[]⟩) Q E ⟨h,g,d,t,os⟩:=by
 have L1:=aaY (M:=M) X F0.be;have hk:builtinKind "BaseException.__getattribute__"=some .slot:=by decide +kernel
 have Nj:splitId "BaseException.__getattribute__"=some ("BaseException","__getattribute__"):=by decide +kernel
 have af3:=F.args_bexc_ga (.ref a) ac8;simp only[checkBuiltinCall,hk,Nj];refine Mf ?_;unfold isInstance
 repeat (first|(with_reducible refine ZI hx ?_;rw[hc])|(with_reducible refine L1.at ?_)|wp_step)
 exact hq
variable {prog:MD}{w:Mt}{A:ML}{E:G'->Md->Prop}{K:Mi}{h:Mp}{g:Array Z8}{d:Drawn}{t:Nat}{os:OV}{a:D'}{C:D'}{o:Mc} in
theorem yk {tk:Tok}{Q:G'->Md->Prop}(X:K.In h)(F0:Ur K C)(hx:h.get? a=some o)(hc:o.cls=.ref C)(hq:Q (.ref C) ⟨h,g,d,t,os⟩):
  Ml (Mr prog w) A (getAttrBy (.ref a) (.str "__class__" tk) false) Q E ⟨h,g,d,t,os⟩:=by
 have FB:Slot "ValueError" "__getattribute__" "BaseException.__getattribute__":=PySem.F.attr_ValueError.ga;have f3:=FB.bind (.ref a);have L1:=aaS (M:=Mr prog w) X F0.ga;have L2:=aaS (M:=Mr prog w) X F0.gt;have Wp:(V2 "BaseException.__getattribute__"==V2 "object.__getattribute__")=false:=by decide +kernel
 have Vl:(onTheHeap (Nd C)&&V2 "BaseException.__getattribute__"==V2 "object.__getattribute__")=false:=by rw[Wp];exact aaU _
 repeat (any_goals (first|assumption|(with_reducible refine ZI hx ?_;rw[hc])|(with_reducible refine L1.at ?_)|(with_reducible refine L2.at ?_)|wp_step))
 refine ach FB.plain F.entry_bexc_ga (sx X F0 hx hc (sw X F0 hx hc ?_))
 repeat (any_goals (first|assumption|wp_step))
variable {prog:MD}{w:Mt}{A:ML}{E:G'->Md->Prop}{K:Mi}{h:Mp}{g:Array Z8}{d:Drawn}{t:Nat}{os:OV}{a:D'}{C:D'}{o:Mc} in
theorem uR {Q:Option G'->Md->Prop}(X:K.In h)(F0:Ur K C)(hx:h.get? a=some o)(hc:o.cls=.ref C)(hq:Q (some (.ref C)) ⟨h,g,d,t+1,os⟩):
  Ml (Mr prog w) A (getAttr? (.ref a) "__class__") Q E ⟨h,g,d,t,os⟩:=by
 unfold getAttr? getAttrBy?
 repeat (any_goals (first|assumption|with_reducible apply yk X F0 hx hc|wp_step))
end
theorem AE {K:Mi}(F0:Ur K C):W.KitX K (.ref a) (.ref C) (λh=>∃oe,h.get? a=some oe/\oe.cls=.ref C) where
 ty:=λM h _ ⟨oe,e,c⟩=>c▸(ac2 e).andThen .now
 it:=λM h X _=>pY X F0.cl
 ne:=λh tp dd Mh n sl X htp=>by
  refine ZJ.mpr λq=>?_;have e:C=tp:=Nd.inj (beq_iff_eq.mp q);subst e;have hc:=F0.cl;unfold PB W.clsIn at hc
  split at hc
  .rename_i c' d' cd' Va lk;have z:=(X _ _ lk).symm.trans htp;cases z
  .cases hc
 ca:=λ{prog w A E Q s} X ⟨oe,e,c⟩ k=>by
  obtain⟨h,g,d,t,os⟩:=s;exact uR X F0 e c k
inductive Wq (K)(H):V->G'->Prop where
 | of {x:V}{t:G'}(h:Rg K H x t):Wq K H x t
 | tup {a:D'}{xs:List V}(h:MR K H a xs):Wq K H (.ref a) (.type "tuple")
 | lst {a:D'}{xs:List V}(h:MA K H a xs):Wq K H (.ref a) (.type "list")
 | exc {a C:D'}(h:H a=some (jU a (.ref C))) (F0:Ur K C):Wq K H (.ref a) (.ref C)
def Je:V->G'->Prop
 | .ty n,c=>c=.type n
 | .ref C,c=>c=.ref C
 | _,_=>False
theorem bO:cC X (.builtin "isinstance") (λxs H Q=>∃x cv t c b,xs=[x,cv]/\Je cv c/\Wq X.K H x t/\Re X.K t c=some b/\Q (.bl b) H):=by
 intro aa s σ H xs us Q I r h;obtain⟨x,cv,t,c,b,rfl,hcv,ty,e,q⟩:=h;obtain⟨u,v,rfl,ru,rv⟩:=r.two;have hv:v=c:=by
  cases cv with
  | ty n=>exact(show v=_ from rv).trans (show c=_ from hcv).symm
  | ref C=>exact(show v=_ from rv).trans (show c=_ from hcv).symm
  | _=>exact Pp hcv
 subst hv;have fin:∀tk,EP X aa σ Q (.bool b) { s with toks:=tk }:=λtk=>⟨.bl b,H,I.tok tk,rfl,q⟩
 cases ty with
 | of ty=>exact yb I ru ty e fin
 | @tup a xs ht=>
  cases (show u=Nd a from ru);obtain⟨Mh,_,p,_⟩:=I.tuple ht;obtain⟨o,h1,h2,_⟩:=p;exact Rc W.kitx_tuple I.NZ ⟨o,h1,h2⟩ e (λz=>nomatch z) fin
 | @lst a xs ht=>
  cases (show u=Nd a from ru);obtain⟨Mh,_,p,_⟩:=I.list ht;obtain⟨o,h1,h2,_⟩:=p.isList;exact Rc W.kitx_list I.NZ ⟨o,h1,h2⟩ e (λz=>nomatch z) fin
 | @exc a C ha F0=>
  cases (show u=Nd a from ru);obtain⟨⟨oe,vs,h1,h2,_⟩,_⟩:=(show bg X.prog X.w H s.heap a (jU a (.ref C)) from I.My a _ ha)
  exact Rc (AE F0) I.NZ ⟨oe,h1,h2⟩ e (λz=>nomatch z) fin
theorem DX {K:Mi}:Re K (.type "int") (.type "int")=some true:=rfl
theorem DY {K:Mi}:Re K (.type "int") (.type "bool")=some false:=by kernel_rfl
theorem nj {K:Mi}:Re K (.type "tuple") (.type "tuple")=some true:=rfl
theorem Mb {K:Mi}:Re K (.type "bool") (.type "bool")=some true:=rfl
theorem DZ {K:Mi}:Re K (.type "list") (.type "list")=some true:=rfl
structure afu (K)(C):Prop where
 cl:PB K C=true
 ty:Sw K (.ref C)=some (.type "type")
theorem Cw {K:Mi}(c:afu K D)(hm:Np K C (.ref D)=some b):Re K (.ref C) (.ref D)=some (if C=D then true else b):=by
 unfold Re
 by_cases z:C=D
 .subst z;rw[Mu (by simp),Mu rfl]
 .rw[Mq (by simpa using z),Mq z];unfold W.kitCls;have h1:(W.clsIn K D).isSome=true:=c.cl;have h2:(Sw K (.ref D)==some (.type "type"))=true:=by rw[c.ty];rfl
  simp only[h1,h2,Bool.and_self,if_true];exact hm
theorem sy {K:Mi}(hm:Np K C (.type "ValueError")=some b):Re K (.ref C) (.type "ValueError")=some b:=by
 unfold Re;rw[Mq (by simp)];unfold W.kitCls;have h1:W.kitMeta "ValueError"=true:=by decide +kernel
 simp only[h1,if_true];exact hm
section
end
section
end
end L2
namespace Mx
def bj (n:Nat):List Int:=(Ox n).map λ(i:Nat)=>(i:Int)
theorem dq (n:Nat):(bj n).length=n:=by simp[bj]
theorem cP:x∈bj n↔0<=x/\x<n:=by
 simp only[bj,Nm,P8];constructor
 .rintro⟨i,hi,rfl⟩;lia
 .rintro⟨h0,h1⟩;exact⟨x.toNat,by lia,by lia⟩
theorem nq (n:Nat):(bj n).Nodup:=by
 unfold bj V';rw[Sn];exact(aaN (n:=n)).imp (λh e=>h (by lia))
theorem uS (n:Nat):(bj n).Pairwise (·<=·):=by
 unfold bj;rw[Sn];exact(aaw (n:=n)).imp (λh=>by lia)
def kP (l:List Int):List Int:=l.mergeSort λa b=>decide (a<=b)
theorem nu (l):(kP l).Perm l:=List.mergeSort_perm l _
theorem sA (l):(kP l).Pairwise (·<=·):=by
 have h:=List.pairwise_mergeSort (le:=λa b:Int=>decide (a<=b)) (by intro a b c;simp;lia) (by intro a b;simp;lia) l;exact h.imp (λh=>by simpa using h)
theorem sB (p:ys.Perm l)(s:ys.Pairwise (·<=·)):ys=kP l:=
 ad2 (λa b _ _ h1 h2=>Int.le_antisymm h1 h2) s (sA l) (p.trans (nu l).symm)
def Ord (l:List Int):Prop:=kP l=bj l.length
theorem Ord.perm (h:Ord l):l.Perm (bj l.length):=by
 have p:=(nu l).symm;rw[h] at p;exact p
theorem Ord.mem (h:Ord l)(hx:x∈l):0<=x/\x<l.length:=cP.mp (h.perm.mem_iff.mp hx)
end Mx
namespace L2
open PySem PySem.Spec PyProof.Rows
structure Df (P)(w)(K)(mg:Me->Option G')(base)(CX)(k:Nat)(x)(ps)(sp):Prop where
 ex:∃f fd,MU P w K mg base CX k f fd ps sp/\bK K fd ps []/\Sx K (.ref f)=true/\mg x=some (.ref f)
def D9 (sp:Sp)(E:St->XK)(t:TA):TE:=λσ H Q=>t σ H λvs H1=>sp vs H1 Q (E σ)
theorem aF (D:Df X.prog X.w X.K X.mg X.base CX k x ps sp)(hr:Mg k X.A)(hg:Gl X x)(hx:cM CX X E)(ha:PA X (e::es) t)(QL:(x==("__debug__":Me))=false:=by decide)(he:NM (e::es) X.env=(false,eval e X.env)::NM es X.env:=by rfl)(P0:(backTo pos (NM es X.env)).any (·.1)=false:=by rfl):
  PE X (.Call (.Name x p) (e::es) [] pos) (D9 sp E t):=by
 obtain⟨f,fd,F,b,kp,m⟩:=D.ex;intro aa s σ H Q I h;refine Ax (OJ:=[]) (ds:=[]) F hr hg m kp b .nil hx ha QL he P0 aa s σ H Q I ?_;have e1:(λ(vs:List V) H1=>sp (vs++[]) H1 Q (E σ))=λvs H1=>sp vs H1 Q (E σ):=by funext vs H1;rw[QD]
 show t σ H (λvs H1=>sp (vs++[]) H1 Q (E σ));rw[e1];exact h
theorem gv:cM (Nb P w) X (λ_ _ _ _=>False):=λ_ _ _ _ _ _ _ ⟨_,_,_,_,_,_,_,_,_,z⟩=>z.elim
theorem dy:Pz "isinstance"=some (.builtin "isinstance"):=by decide +kernel
theorem HE:Pz "int"=some (.type "int"):=by decide +kernel
theorem Ea:Pz "bool"=some (.type "bool"):=by decide +kernel
theorem dM:Pz "tuple"=some (.type "tuple"):=by decide +kernel
theorem gY:Pz "list"=some (.type "list"):=by decide +kernel
theorem oU:Pz "range"=some (.type "range"):=by decide +kernel
theorem gZ:Pz "sorted"=some (.builtin "sorted"):=by decide +kernel
theorem HF:Pz "all"=some (.builtin "all"):=by decide +kernel
theorem dc:Pz "len"=some (.builtin "len"):=by decide +kernel
theorem ar.Oq {K:Mi}(e:ar H H')(h:MR K H a xs):MR K H' a xs:=by
 rcases h with(h|⟨o,h⟩)|h
 .exact .inl (.inl (e _ _ h))
 .exact .inl (.inr ⟨o,e _ _ h⟩)
 .exact .inr h
theorem ai (h:H p=none)(o):ar H (upd H p o):=λb u q=>by rw[ao (aq q h)];exact q
theorem MA.up {K:Mi}:MA K (upd H p (.lst xs)) p xs:=.inl (.inl ag)
theorem MR.up {K:Mi}:MR K (upd H p (.tup xs)) p xs:=.inl (.inl ag)
end L2
namespace Ord
open PySem L2 Mx
def top (i:Nat):Mv:=PySem.Challenge.pw_ordernest_k10_whole_joined.main.body.getD i (.Pass ⟨0,0,0,0⟩)
abbrev sC:Mv:=top 11
abbrev sD:Mv:=top 12
abbrev sE:Mv:=top 13
abbrev rA:Mv:=top 14
structure Txt (K)(mg:Me->Option G')(CO):Prop where
 bo:Rh K mg "BadOrder" CO
 most:∃t,mg "MOST_THINGS"=some (.int 8 t)
 Qu:mg "isinstance"=none
 int:mg "int"=none
 bool:mg "bool"=none
 tuple:mg "tuple"=none
 list:mg "list"=none
 range:mg "range"=none
 sorted:mg "sorted"=none
 all:mg "all"=none
 len:mg "len"=none
 enum:mg "enumerate"=none
section
def iU:Sp:=λvs H Q _=>∃i:Int,vs=[.int i]/\Q (.bl true) H
theorem Cy:NE ["value"] ["value"] (ak sC):=⟨rfl,rfl,rfl,by decide +kernel,rfl,by decide +kernel,by decide +kernel⟩
theorem AF (F:Nh K "is_whole" "is_whole" sC f fd)(T:Txt K mg CO):MU P w K mg base MM 1 f fd ["value"] iU:=by
 refine F.ok Cy (λvs H Q E h=>?_) (λMB A outer s H vs Q E hr h=>?_)
 .obtain⟨i,rfl,_⟩:=h;rfl
 obtain⟨i,rfl,q⟩:=h;refine⟨_,al (aM (iO (aE bO rfl T.Qu dy (ac (pv 0) (ac (eB (v:=.ty "int") rfl T.int HE rfl) ae)))
  (jM (DD (aE bO rfl T.Qu dy (ac (pv 0) (ac (eB (v:=.ty "bool") rfl T.bool Ea rfl) ae))))))),?_⟩
 refine⟨_,rfl,_,_,_,_,_,rfl,rfl,.of (.int i),DX,_,rfl,aV ?_⟩;exact⟨_,rfl,_,_,_,_,_,rfl,rfl,.of (.int i),DY,_,rfl,q⟩
def oV:Sp:=λvs H Q _=>∃i:Int,vs=[.int i]/\Q (.bl (decide (1<=i/\i<=8))) H
theorem Cz:NE ["many"] ["many"] (ak sD):=⟨rfl,rfl,rfl,by decide +kernel,rfl,by decide +kernel,by decide +kernel⟩
theorem AG (F:Nh K "is_count" "is_count" sD f fd)(T:Txt K mg CO)(W:Df P w K mg base MM 1 "is_whole" ["value"] iU):MU P w K mg base MM 2 f fd ["many"] oV:=by
 refine F.ok Cz (λvs H Q E h=>?_) (λMB A outer s H vs Q E hr h=>?_)
 .obtain⟨i,rfl,_⟩:=h;rfl
 obtain⟨i,rfl,q⟩:=h;obtain⟨t8,m8⟩:=T.most;refine⟨_,al (aM (iO (aF W hr rfl (aX (E:=λ_ _ _ _=>False)) (ac (pv 0) ae)) (jM (Ap jf jf ap (pv 0) (aH (v:=.int 8) rfl m8 ⟨t8,rfl⟩))))),?_⟩;refine⟨_,rfl,i,rfl,_,rfl,aV ?_⟩;refine⟨_,rfl,1,i,rfl,rfl,_,rfl,?_⟩
 by_cases h1:1<=i
 .rw[M6 h1];refine aV ⟨i,8,rfl,rfl,?_⟩;have e:decide (i<=8)=decide (1<=i/\i<=8):=by simp[h1]
  show Q (V.bl (decide (i<=8))) H;rw[e];exact q
 .rw[M4 h1];refine aK ?_;have e:decide (1<=i/\i<=8)=false:=by simp[h1]
  rw[e] at q;exact q
def Wr (i:Int):Prop:=i.natAbs.log2<1900
theorem iu (h1:-(2 ^ 64)<i)(h2:i<2 ^ 64):Wr i:=by
 have:i.natAbs<2 ^ 64:=by lia
 have h3:i.natAbs.log2<65:=by
  by_cases z:i.natAbs=0
  .rw[z];decide
  .have:=(Nat.log2_lt z (k:=64)).mpr this;lia
 unfold Wr;lia
def oW (CO:D'):Sp:=λvs H Q E=>∃i:Int,vs=[.int i]/\Wr i/\(if 1<=i/\i<=8 then Q .MV H else E (.ref CO) none H)
theorem CA:NE ["many"] ["many"] (ak sE):=⟨rfl,rfl,rfl,by decide +kernel,rfl,by decide +kernel,by decide +kernel⟩
theorem AH (F:Nh K "look_count" "look_count" sE f fd)(T:Txt K mg CO)(W:Df P w K mg base MM 2 "is_count" ["many"] oV):MU P w K mg base (Nb P w) 3 f fd ["many"] (oW CO):=by
 refine F.QM CA (λvs H Q E h=>?_) (λX MB A outer s H vs Q E hX hp Ot hr h=>?_)
 .obtain⟨i,rfl,_⟩:=h;rfl
 obtain⟨i,rfl,Qv,q⟩:=h;obtain⟨t8,m8⟩:=T.most;subst hX;refine⟨_,al (aQ (cW (dZ (aF W hr rfl (aX (E:=λ_ _ _ _=>False)) (ac (pv 0) ae))))
  (al (bN rfl rfl T.bo Ot (ac (fW (bB (Cu (pv 0)) (bB (cV (k:=100) (by decide)) (bB (iT (aH (v:=.int 8) rfl m8 ⟨t8,rfl⟩)) gX))) (by decide)) ae))) az),?_⟩
 refine⟨_,rfl,i,rfl,_,rfl,?_⟩
 by_cases c:1<=i/\i<=8
 .rw[M6 c];refine aK ?_;rw[Mu c] at q;exact q
 .rw[M4 c];refine aV ?_;rw[Mq c] at q;exact⟨⟨⟨_,rfl,rfl,i,rfl,Qv⟩,trivial,⟨rfl,8,rfl,by decide⟩,trivial⟩,λx=>⟨by show 1<=Mz;decide,q⟩⟩
end
end Ord
namespace L2
open PySem PySem.Spec PyProof.Rows
theorem dA (ns:List Int):(ns.map V.int).all cI=true:=by simp[Sq,cI]
theorem fF (n:Nat):fV 0 n=(Mx.bj n).map V.int:=by simp[fV,Mx.bj]
theorem oX {ns:List Int}{i:Nat}{x:V}(h:(ns.map V.int)[i]?=some x):∃z,x=.int z/\ns[i]?=some z:=by
 rw[O0] at h;cases e:ns[i]? with
 | none=>rw[e] at h;cases h
 | some z=>rw[e] at h;exact⟨z,(Rv h).symm,rfl⟩
end L2
namespace Ord
open PySem L2 Mx
section
def sF (n:Int)(ns:List Int):Prop:=1<=n/\n<=8/\(ns.length:Int)=n/\Mx.Ord ns
structure Tp (K:Mi)(H:Hp)(a:D')(ns:List Int):Prop where
 sq:MR K H a (ns.map V.int)
 len:ns.length<=60
 Qv:∀x∈ns,Wr x
def ym (K:Mi)(CO:D'):Sp:=λvs H Q E=>∃(n:Int) (a:D') (ns:List Int),vs=[.int n,.ref a]/\Wr n/\Tp K H a ns/\
 (sF n ns->∀H',ar H H'->Q .MV H')/\(¬sF n ns->∀H',ar H H'->E (.ref CO) none H')
theorem yn:NE ["many","order"] ["many","order"] (ak rA):=⟨rfl,rfl,rfl,by decide +kernel,rfl,by decide +kernel,by decide +kernel⟩
theorem CC (F:Nh K "look_order" "look_order" rA f fd)(T:Txt K mg CO)(WC:Df P w K mg base (Nb P w) 3 "look_count" ["many"] (oW CO))(WW:Df P w K mg base MM 1 "is_whole" ["value"] iU):
  MU P w K mg base (Nb P w) 4 f fd ["many","order"] (ym K CO):=by
 refine F.QM yn (λvs H Q E h=>?_) (λX MB A outer s H vs Q E hX hp Ot hr h=>?_)
 .obtain⟨n,a,ns,rfl,_⟩:=h;rfl
 obtain⟨n,a,ns,rfl,Qv,tp,qg,qb⟩:=h;subst hX;refine⟨_,af (bA (aF WC hr rfl hp (ac (pv 0) ae)))
  (af (aQ (PW.pt (kJ (cW (dZ (aE bO rfl T.Qu dy (ac (pv 1) (ac (eB (v:=.ty "tuple") rfl T.tuple dM rfl) ae)))))
    (iM (ay dW (aE bh rfl T.len dc (ac (pv 1) ae)) (pv 0) (aI _)))))
   (al (bN rfl rfl T.bo Ot (ac (fW (bB (oS hr (pv 1)) (bB (cV (k:=100) (by decide)) (bB (iT (pv 0)) (bB (cV (k:=100) (by decide)) gX)))) (by decide)) ae))) az)
  (af (aQ (cW (dZ (aE (AC rfl) rfl T.all HF (ac (fE rfl (show Qb (ak rA) ["many","order"] _ _ from by constructor <;> decide +kernel) (jN (pv 1)) (λ_ _ _ _ _ _=>kO)
    (λcl C M1 NF fp aa=>aF WW (hr.mono (by decide)) rfl (aX (E:=λ_ _ _ _=>False)) (ac (pv 0) ae)) yn.nd) ae))))
   (al (bN rfl rfl T.bo Ot (ac (fW (bB (oS hr (pv 1)) (bB (cV (k:=100) (by decide)) gX)) (by decide)) ae))) az)
  (al (aQ (ay (su hr.We) (aE sv rfl T.sorted gZ (ac (pv 1) ae))
    (bp (gF rfl) rfl T.list gY (ac (bp jS rfl T.range oU (ac (pv 0) ae)) ae)) (aI _))
   (al (bN rfl rfl T.bo Ot (ac (fW (bB (oS hr (pv 1)) (bB (cV (k:=100) (by decide)) (bB (iT (pv 0)) (bB (cV (k:=100) (by decide)) gX)))) (by decide)) ae))) az)))),?_⟩
 refine⟨_,rfl,n,rfl,Qv,?_⟩
 by_cases c:1<=n/\n<=8
 case neg=>
  rw[Mq c];exact qb (λg=>c ⟨g.1,g.2.1⟩) H (ar.refl H)
 rw[Mu c];have af4:=tp.len;have hl:(ns.map V.int).length=ns.length:=Ng _;refine⟨_,rfl,_,_,_,_,_,rfl,rfl,.tup tp.sq,nj,_,rfl,aK ?_⟩;refine⟨_,rfl,a,_,rfl,.inr tp.sq,_,rfl,rfl,_,rfl,?_⟩;have adl:∀H',ar H H'->isT K (dF 1) [some (.int n),some (.ref a)] H':=λH' e=>⟨_,rfl,rfl,a,ns,rfl,e.Oq tp.sq,by lia,tp.Qv⟩
 by_cases c2:(ns.length:Int)=n
 case neg=>
  have e1:decide (V.int ((ns.map V.int).length:Nat)=V.int n)=false:=by
   rw[hl];exact M4 λz=>c2 (V.int.inj z)
  rw[e1];refine aV ?_;exact⟨⟨adl H (ar.refl H),trivial,⟨_,rfl,rfl,n,rfl,Qv⟩,trivial,trivial⟩,λx=>⟨by show 1<=Mz;decide,qb (λg=>c2 g.2.2.1) H (ar.refl H)⟩⟩
 have e1:decide (V.int ((ns.map V.int).length:Nat)=V.int n)=true:=by
  rw[hl];exact M6 (congrArg V.int c2)
 rw[e1];refine aK ?_;refine⟨_,rfl,a,rfl,⟨_,tp.sq⟩,sj (K:=K) (a:=a) (xs:=ns.map V.int) (λi ys H'=>H'=H/\ys=(O1 i true).map V.bl) ⟨rfl,rfl⟩ ?_ (by rw[hl,Nf];lia) ?_ ?_⟩
 .rintro i ys H' hi ⟨rfl,rfl⟩;exact⟨tp.sq,by simp⟩
 .rintro i x ys H' hx ⟨rfl,rfl⟩;obtain⟨z,rfl,_⟩:=oX hx;refine goT ?_;refine aV ?_;refine⟨_,rfl,z,rfl,rfl,?_⟩;simp[List.replicate_succ',Qn]
 rintro ys H' p ⟨rfl,rfl⟩ YM;refine⟨p,O1 (ns.map V.int).length true,rfl,MA.up,_,rfl,?_⟩;have e2:(O1 (ns.map V.int).length true).all id=true:=by simp[Sq]
 rw[e2];refine aK ?_;have s1:ar H' (upd H' p (.lst ((O1 (ns.map V.int).length true).map V.bl))):=ai YM _;refine⟨_,rfl,a,ns,rfl,s1.Oq tp.sq,by lia,λl Ob Q4 aeZ ae0=>?_⟩;have s2:=s1.trans (ai Q4 (.lst (Ob.map V.int)));refine⟨_,rfl,n,rfl,λr OY=>⟨r,0,n,rfl,ag,by decide,by decide,by lia,by lia,by lia,λl2 NC=>?_⟩⟩;have s3:=s2.trans (ai OY (.Rj 0 n));have s4:=s3.trans (ai NC (.lst (fV 0 (n-0).toNat)));have n1:l≠l2:=aq (by rw[ao (aq ag OY)];exact ag) NC;have n2:l≠r:=aq ag OY;refine⟨l,l2,Ob.map V.int,_,rfl,rfl,.inl (.inl (by rw[ao n1,ao n2];exact ag)),MA.up,dA _,by rw[fF];exact dA _,_,rfl,?_⟩;have e3:Ob=Mx.kP ns:=Mx.sB aeZ ae0;have e4:(n-0).toNat=ns.length:=by lia
 rw[e4,fF,jT,e3]
 by_cases g:Mx.kP ns=Mx.bj ns.length
 .rw[M6 g];refine aK ?_;refine qg ⟨c.1,c.2,c2,g⟩ _ ?_;rw[<-e3,<-fF,<-e4];exact s4
 .rw[M4 g];refine aV ?_;have s4':=s4;rw[e4,fF,e3] at s4';exact⟨⟨adl _ s4',trivial,⟨_,rfl,rfl,n,rfl,Qv⟩,trivial,trivial⟩,λx=>⟨by show 1<=Mz;decide,qb (λgg=>g gg.2.2.2) _ s4'⟩⟩
end
end Ord
namespace L2
open PySem PySem.Spec PyProof.Rows
theorem AI (h1:ax x u)(h2:ax y u):x=y:=by
 have q:aw [x] [u]:=.cons h1 .nil;have q':aw [y] [u]:=.cons h2 .nil;exact(aeK (q.inj q')).1
theorem cp {α β:Type}{F:α->β->Prop}:∀{O3:List α}{O4:List β}{i:Nat}{a:α},MC F O3 O4->O3[i]?=some a->∃b,O4[i]?=some b/\F a b
 | _,_,_,_,.nil,e=>by simp at e
 | _,_,0,_,.cons h _,e=>by simp at e;subst e;exact⟨_,rfl,h⟩
 | _,_,i+1,a,.cons _ t,e=>by
  obtain⟨b,h1,h2⟩:=cp (i:=i) (a:=a) t (by simpa using e);exact⟨b,by simpa using h1,h2⟩
theorem dX {α β:Type}{F:α->β->Prop}:∀{O3:List α}{O4:List β}{i:Nat}{b:β},MC F O3 O4->O4[i]?=some b->∃a,O3[i]?=some a/\F a b
 | _,_,_,_,.nil,e=>by simp at e
 | _,_,0,_,.cons h _,e=>by simp at e;subst e;exact⟨_,rfl,h⟩
 | _,_,i+1,b,.cons _ t,e=>by
  obtain⟨a,h1,h2⟩:=dX (i:=i) (b:=b) t (by simpa using e);exact⟨a,by simpa using h1,h2⟩
theorem aD {α β:Type}{F G:α->β->Prop}(f:∀a b,F a b->G a b):∀{O3:List α}{O4:List β},MC F O3 O4->MC G O3 O4
 | _,_,.nil=>.nil
 | _,_,.cons h t=>.cons (f _ _ h) (aD f t)
theorem cJ {α β:Type}{F:α->β->Prop}:∀{O3 m₁:List α}{O4 m₂:List β},MC F O3 O4->MC F m₁ m₂->MC F (O3++m₁) (O4++m₂)
 | _,_,_,_,.nil,s=>s
 | _,_,_,_,.cons h t,s=>.cons h (cJ t s)
theorem rB {α β:Type}{F:α->β->Prop}:∀{O3:List α}{O4:List β}(n:Nat),MC F O3 O4->MC F (O3.take n) (O4.take n)
 | _,_,0,_=>.nil
 | _,_,_+1,.nil=>.nil
 | _,_,n+1,.cons h t=>.cons h (rB n t)
theorem rC {α β:Type}{F:α->β->Prop}:∀{O3:List α}{O4:List β}(n:Nat),MC F O3 O4->MC F (O3.drop n) (O4.drop n)
 | _,_,0,h=>h
 | _,_,_+1,.nil=>.nil
 | _,_,n+1,.cons _ t=>rC n t
theorem Vm {α β:Type}{F:α->β->Prop}(f:∀a b c,F a b->F a c->b=c):∀{l:List α}{m n:List β},MC F l m->MC F l n->m=n
 | _,_,_,.nil,.nil=>rfl
 | _,_,_,.cons h t,.cons h' t'=>by rw[f _ _ _ h h',Vm f t t']
theorem kQ {α:Type}[DecidableEq α]{as bs:List α}(hl:as.length=bs.length):(Ox as.length).all (λj=>decide (as[j]?=bs[j]?))=decide (as=bs):=by
 by_cases h:as=bs
 .subst h;rw[M6 rfl,Sq];intro j _;exact M6 rfl
 .rw[M4 h];cases e:(Ox as.length).all (λj=>decide (as[j]?=bs[j]?)) with
  | false=>rfl
  | true=>
   rw[Sq] at e;refine Mw (List.ext_getElem? λj=>?_) h
   by_cases hj:j<as.length
   .exact S9 (e j (P8.mpr hj))
   .rw[ab9 (by lia),ab9 (by lia)]
structure Dk (α:Type)[DecidableEq α]where
 rep:Mi->Hp->V->α->Prop
 N7:Nat
 mono:∀{K:Mi}{H H':Hp}{x:V}{a:α},ar H H'->rep K H x a->rep K H' x a
 fn:∀{X:Cx}{aa:List (D'×Mc)}{σ:St}{H:Hp}{s:Md}{x:V}{a b:α},Inv X aa σ H s->rep X.K H x a->rep X.K H x b->a=b
 Ts:∀{X:Cx}{aa:List (D'×Mc)}{σ:St}{H:Hp}{s:Md}{A:ML}{x y:V}{a b:α}{u v:G'},Inv X aa σ H s->A.units+N7<MQ->rep X.K H x a->rep X.K H y b->ax x u->ax y v->R3 A s u v (decide (a=b))
 X':∀{X:Cx}{aa:List (D'×Mc)}{σ:St}{H:Hp}{s:Md}{A:ML}{x y:V}{a b:α}{u v:G'},Inv X aa σ H s->A.units+N7<MQ->rep X.K H x a->rep X.K H y b->ax x u->ax y v->SeqAt.RcAt A s u v (decide (a=b))
 Yb:∀{X:Cx}{aa:List (D'×Mc)}{σ:St}{H:Hp}{s:Md}{A:ML}{x y:V}{a b:α}{u v:G'},Inv X aa σ H s->A.units+N7<MQ->rep X.K H x a->rep X.K H y b->ax x u->ax y v->SeqAt.RcNeAt A s u v (!decide (a=b))
theorem gK {i j:Int}:(i==j)=decide (i=j):=by
 by_cases h:i=j
 .subst h;simp
 .rw[M4 h];simpa using h
def wJ:Dk Int where
 rep:=λ_ _ x a=>x=.int a
 N7:=0
 mono:=λ_ h=>h
 fn:=λ_ h1 h2=>V.int.inj (h1.symm.trans h2)
 Ts:=λ_ _ h1 h2 r1 r2=>by
  subst h1 h2;obtain⟨t,rfl⟩:=r1;obtain⟨t',rfl⟩:=r2;rw[<-gK];exact aaG _ _ _ _
 X':=λ_ _ h1 h2 r1 r2=>by
  subst h1 h2;obtain⟨t,rfl⟩:=r1;obtain⟨t',rfl⟩:=r2;rw[<-gK];exact SeqAt.RcAt.int_int _ _ _ _
 Yb:=λ_ _ h1 h2 r1 r2=>by
  subst h1 h2;obtain⟨t,rfl⟩:=r1;obtain⟨t',rfl⟩:=r2;rw[<-gK];exact SeqAt.RcNeAt.int_int _ _ _ _
section
variable {α:Type} [DecidableEq α]
theorem fX (k:Dk α){σ:St}(I:Inv X aa σ H s)(hu:A.units+k.N7<MQ)(p:MC (k.rep X.K H) xs as)(q:MC (k.rep X.K H) ys bs)(r1:aw xs us)(r2:aw ys vs):
  ∀j (h1:j<us.toArray.size) (h2:j<vs.toArray.size),R3 A s us.toArray[j] vs.toArray[j] (decide (as[j]?=bs[j]?)):=by
 intro j h1 h2;have l1:=r1.length;have l2:=r2.length;have h1':j<us.length:=by simpa using h1
 have h2':j<vs.length:=by simpa using h2
 obtain⟨u,e1,q1⟩:=r1.get (i:=j) (x:=xs[j]'(by lia)) (by simp);obtain⟨v,e2,q2⟩:=r2.get (i:=j) (x:=ys[j]'(by lia)) (by simp);have Vj:us.toArray[j]=u:=by
  have:=(NP.mp e1).2;simpa using this
 have Tx:vs.toArray[j]=v:=by
  have:=(NP.mp e2).2;simpa using this
 obtain⟨a,ea,ra⟩:=cp (i:=j) (a:=xs[j]'(by lia)) p (by simp);obtain⟨b,eb,rb⟩:=cp (i:=j) (a:=ys[j]'(by lia)) q (by simp);rw[Vj,Tx,ea,eb];have e3:decide (some a=some b)=decide (a=b):=by
  by_cases h:a=b
  .subst h;simp
  .simp[h]
 rw[e3];exact k.Ts I hu ra rb q1 q2
theorem iV {as bs:List α}(hn:n=as.length)(hm:m=bs.length):((Ox (min n m)).all (λj=>decide (as[j]?=bs[j]?))&&n==m)=decide (as=bs):=by
 subst hn hm
 by_cases h:as.length=bs.length
 .rw[h,Nat.min_self,<-h,kQ h];simp[h]
 .have:(as.length==bs.length)=false:=by simpa using h
  rw[this,aaU,M4];rintro rfl;exact h rfl
def AJ (k:Dk α):Dk (List α) where
 rep:=λK H x as=>∃p xs,x=.ref p/\MR K H p xs/\MC (k.rep K H) xs as
 N7:=k.N7+1
 mono:=λs ⟨p,xs,e,q,r⟩=>⟨p,xs,e,by
  rcases q with(h|⟨o,h⟩)|h
  .exact .inl (.inl (s _ _ h))
  .exact .inl (.inr ⟨o,s _ _ h⟩)
  .exact .inr h,aD (λ_ _ z=>k.mono s z) r⟩
 fn:=λI ⟨p,xs,e,q,r⟩ ⟨p',Vn,e',q',r'⟩=>by
  rw[e] at e';cases e';have:=I.XS q q';subst this;exact Vm (F:=k.rep _ _) (λ_ _ _ h1 h2=>k.fn I h1 h2) r r'
 Ts:=λ{X aa σ H s A x y a b u v} I hu ⟨p,xs,e,q,r⟩ ⟨p',Vn,e',q',r'⟩ rx ry=>by
  subst e e';cases rx;cases ry
  by_cases hp:p=p'
  .subst hp;have:=I.XS q q';subst this;have:=Vm (F:=k.rep _ _) (λ_ _ _ h1 h2=>k.fn I h1 h2) r r';subst this;rw[M6 rfl];exact XD _
  .obtain⟨Mh,v1,t1,_⟩:=I.tuple q;obtain⟨its',v2,t2,_⟩:=I.tuple q';refine ZE hp ?_;have h:=Xy (A:=A) (e:=λj=>decide (a[j]?=b[j]?)) t1 t2 (by lia) (fX k I (by show A.units+1+k.N7<MQ;lia) r r' v1 v2);rw[iV (by rw[ND,<-v1.length,r.length]) (by rw[ND,<-v2.length,r'.length])] at h;exact h
 X':=λ{X aa σ H s A x y a b u v} I hu ⟨p,xs,e,q,r⟩ ⟨p',Vn,e',q',r'⟩ rx ry=>by
  subst e e';cases rx;cases ry;obtain⟨Mh,v1,t1,_⟩:=I.tuple q;obtain⟨its',v2,t2,_⟩:=I.tuple q';have h:=Xy (A:=A) (e:=λj=>decide (a[j]?=b[j]?)) t1 t2 (by lia) (fX k I (by show A.units+1+k.N7<MQ;lia) r r' v1 v2);rw[iV (by rw[ND,<-v1.length,r.length]) (by rw[ND,<-v2.length,r'.length])] at h;exact h
 Yb:=λ{X aa σ H s A x y a b u v} I hu ⟨p,xs,e,q,r⟩ ⟨p',Vn,e',q',r'⟩ rx ry=>by
  subst e e';cases rx;cases ry;obtain⟨Mh,v1,t1,_⟩:=I.tuple q;obtain⟨its',v2,t2,_⟩:=I.tuple q';have h:=aeq (A:=A) (e:=λj=>decide (a[j]?=b[j]?)) t1 t2 (by lia) (fX k I (by show A.units+1+k.N7<MQ;lia) r r' v1 v2);rw[iV (by rw[ND,<-v1.length,r.length]) (by rw[ND,<-v2.length,r'.length])] at h;exact h
def gG (k:Dk α):Dk (List α) where
 rep:=λK H x as=>∃p xs,x=.ref p/\MA K H p xs/\MC (k.rep K H) xs as
 N7:=k.N7+1
 mono:=λs ⟨p,xs,e,q,r⟩=>⟨p,xs,e,by
  rcases q with(h|⟨o,h⟩)|h
  .exact .inl (.inl (s _ _ h))
  .exact .inl (.inr ⟨o,s _ _ h⟩)
  .exact .inr h,aD (λ_ _ z=>k.mono s z) r⟩
 fn:=λI ⟨p,xs,e,q,r⟩ ⟨p',Vn,e',q',r'⟩=>by
  rw[e] at e';cases e';have:=I.abj q q';subst this;exact Vm (F:=k.rep _ _) (λ_ _ _ h1 h2=>k.fn I h1 h2) r r'
 Ts:=λ{X aa σ H s A x y a b u v} I hu ⟨p,xs,e,q,r⟩ ⟨p',Vn,e',q',r'⟩ rx ry=>by
  subst e e';cases rx;cases ry
  by_cases hp:p=p'
  .subst hp;have:=I.abj q q';subst this;have:=Vm (F:=k.rep _ _) (λ_ _ _ h1 h2=>k.fn I h1 h2) r r';subst this;rw[M6 rfl];exact XD _
  .obtain⟨Mh,v1,t1,_⟩:=I.list q;obtain⟨its',v2,t2,_⟩:=I.list q';refine ZE hp ?_;have z1:Mh.toArray.size=a.length:=by rw[ND,<-v1.length,r.length]
   have z2:its'.toArray.size=b.length:=by rw[ND,<-v2.length,r'.length]
   by_cases hl:a.length=b.length
   .have h:=aeG (A:=A) (e:=λj=>decide (a[j]?=b[j]?)) t1.isList t2.isList (by lia) (by lia) (fX k I (by show A.units+1+k.N7<MQ;lia) r r' v1 v2);rw[z1,kQ hl] at h;exact h
   .rw[M4 (λz=>hl (by rw[z]))];exact ad3 t1.isList t2.isList (by rw[z1,z2];simpa using hl) (by lia)
 X':=λ{X aa σ H s A x y a b u v} I hu ⟨p,xs,e,q,r⟩ ⟨p',Vn,e',q',r'⟩ rx ry=>by
  subst e e';cases rx;cases ry;obtain⟨Mh,v1,t1,_⟩:=I.list q;obtain⟨its',v2,t2,_⟩:=I.list q';have z1:Mh.toArray.size=a.length:=by rw[ND,<-v1.length,r.length]
  have z2:its'.toArray.size=b.length:=by rw[ND,<-v2.length,r'.length]
  by_cases hl:a.length=b.length
  .have h:=aeG (A:=A) (e:=λj=>decide (a[j]?=b[j]?)) t1.isList t2.isList (by lia) (by lia) (fX k I (by show A.units+1+k.N7<MQ;lia) r r' v1 v2);rw[z1,kQ hl] at h;exact h
  .rw[M4 (λz=>hl (by rw[z]))];exact ad3 t1.isList t2.isList (by rw[z1,z2];simpa using hl) (by lia)
 Yb:=λ{X aa σ H s A x y a b u v} I hu ⟨p,xs,e,q,r⟩ ⟨p',Vn,e',q',r'⟩ rx ry=>by
  subst e e';cases rx;cases ry;obtain⟨Mh,v1,t1,_⟩:=I.list q;obtain⟨its',v2,t2,_⟩:=I.list q';have z1:Mh.toArray.size=a.length:=by rw[ND,<-v1.length,r.length]
  have z2:its'.toArray.size=b.length:=by rw[ND,<-v2.length,r'.length]
  by_cases hl:a.length=b.length
  .have h:=aeA (A:=A) (e:=λj=>decide (a[j]?=b[j]?)) t1.isList t2.isList (by lia) (by lia) (fX k I (by show A.units+1+k.N7<MQ;lia) r r' v1 v2);rw[z1,kQ hl] at h;exact h
  .rw[M4 (λz=>hl (by rw[z]))];exact adT t1.isList t2.isList (by rw[z1,z2];simpa using hl) (by lia)
def Eb (k:Dk α)(K:Mi)(neg:Bool):R2:=λx y H Q=>∃a b,k.rep K H x a/\k.rep K H y b/\Q (.bl (if neg then !decide (a=b) else decide (a=b))) H
theorem yo (k:Dk α)(hu:X.A.units+k.N7<MQ):Nr X (OM .Eq) (Eb k X.K false):=by
 intro aa s σ H x y v u Q I rx ry h;obtain⟨a,b,ha,hb,q⟩:=h;exact k.X' I hu ha hb rx ry X.prog X.w X.xe _ ⟨.bl (decide (a=b)),H,I,rfl,q⟩
theorem nv (k:Dk α)(hu:X.A.units+k.N7<MQ):Nr X (OM .NotEq) (Eb k X.K true):=by
 intro aa s σ H x y v u Q I rx ry h;obtain⟨a,b,ha,hb,q⟩:=h;exact k.Yb I hu ha hb rx ry X.prog X.w X.xe _ ⟨.bl (!decide (a=b)),H,I,rfl,q⟩
noncomputable def fh (k:Dk α)(K:Mi)(H:Hp)(b:α)(u:G'):Bool:=@decide (∃y,ax y u/\k.rep K H y b) (aav _)
theorem vq (k:Dk α){σ:St}(I:Inv X aa σ H s)(r:ax y u)(h:k.rep X.K H y a):fh k X.K H b u=decide (a=b):=by
 unfold fh
 by_cases z:a=b
 .subst z;rw[M6 rfl];exact @M6 _ (aav _) ⟨y,r,h⟩
 .rw[M4 z];refine @M4 _ (aav _) ?_;rintro⟨y',r',h'⟩;have:=AI r r';subst this;exact z (k.fn I h h')
theorem iW (k:Dk α){σ:St}(I:Inv X aa σ H s)(hu:A.units+k.N7<MQ)(rx:ax x v)(hb:k.rep X.K H x b):
  ∀{xs:List V}{us:List G'}{as:List α},aw xs us->MC (k.rep X.K H) xs as->(∀u∈us,R3 A s u v (fh k X.K H b u))/\us.any (fh k X.K H b)=as.any λa=>decide (a=b)
 | _,_,_,.nil,.nil=>⟨λu hu=>(by cases hu),rfl⟩
 | y::xs,u::us,a::as,.cons r t,.cons p q=>by
  obtain⟨h1,h2⟩:=iW k I hu rx hb t q;have e:=vq (b:=b) k I r p;refine⟨λw hw=>?_,by rw[Td,Td,e,h2]⟩;rcases M0.mp hw with rfl|hw
  .rw[e];exact k.Ts I hu p hb r rx
  .exact h1 w hw
def sG (k:Dk α)(K:Mi)(neg:Bool):R2:=λx y H Q=>∃b as,k.rep K H x b/\(gG k).rep K H y as/\Q (.bl (if neg then !as.any (λa=>decide (a=b)) else as.any (λa=>decide (a=b)))) H
theorem Ec (k:Dk α)(hu:X.A.units+1+k.N7<MQ):Nr X (OM .In) (sG k X.K false):=by
 intro aa s σ H x y v u Q I rx ry h;obtain⟨b,as,hb,⟨p,xs,rfl,hq,hp⟩,q⟩:=h;cases ry;obtain⟨Mh,r,pl,hz⟩:=I.list hq;obtain⟨h1,h2⟩:=iW k (A:=X.A.in1) I hu rx hb r hp;refine SeqAt.in_listAt (fh k X.K H b) pl.isList (λw hw=>h1 w (by simpa using hw)) ⟨.bl _,H,I,rfl,?_⟩;rw[show Mh.toArray.any (fh k X.K H b)=Mh.any (fh k X.K H b) by simp,h2];exact q
theorem jV (k:Dk α)(hu:X.A.units+1+k.N7<MQ):Nr X (OM .NotIn) (sG k X.K true):=by
 intro aa s σ H x y v u Q I rx ry h;obtain⟨b,as,hb,⟨p,xs,rfl,hq,hp⟩,q⟩:=h;cases ry;obtain⟨Mh,r,pl,hz⟩:=I.list hq;obtain⟨h1,h2⟩:=iW k (A:=X.A.in1) I hu rx hb r hp;refine aez (fh k X.K H b) pl.isList (λw hw=>h1 w (by simpa using hw)) ⟨.bl _,H,I,rfl,?_⟩;rw[show Mh.toArray.any (fh k X.K H b)=Mh.any (fh k X.K H b) by simp,h2];exact q
def CD (k:Dk α)(K:Mi):V->List V->Hp->VK->Prop:=λo vs H Q=>∃x b as j,vs=[x]/\k.rep K H x b/\(gG k).rep K H o as/\as[j]?=some b/\(∀(i:Nat),i<j->as[i]?≠some b)/\Q (.int (j:Int)) H
theorem yp (k:Dk α)(hu:X.A.units+4+k.N7<MQ):MtM X "list.index" (CD k X.K):=by
 intro aa s σ H o vs v us Q I ro rv h;obtain⟨x,b,as,j,rfl,hb,⟨p,xs,rfl,hq,hp⟩,hit,Tw,q⟩:=h;cases ro;obtain⟨u,rfl,ru⟩:=rv.one;obtain⟨Mh,r,pl,hz⟩:=I.list hq;obtain⟨⟨cls,dd,data,sl⟩,ho,hc,n,hd⟩:=pl.isList;simp only at hc hd;subst hc hd;have hl:=r.length;have NC:=hp.length;have hj:j<as.length:=(NP.mp hit).1;have Vk:j<Mh.toArray.size:=by simp;lia
 have at_:∀(i:Nat) (hi:i<Mh.toArray.size) (a:α),as[i]?=some a->fh k X.K H b Mh.toArray[i]=decide (a=b):=λi hi a ha=>by
  obtain⟨z,hz,hr⟩:=dX hp ha;obtain⟨w,e1,e2⟩:=r.get hz;have:Mh.toArray[i]=w:=by
   have:=(NP.mp e1).2;simpa using this
  rw[this];exact vq k I e2 hr
 refine V9 aau ⟨_,ho,rfl⟩ ad1 (adV _ _)
  (aeB p Mh.toArray n dd sl u (fh k X.K H b) j Vk (by have:=hz;rw[Nf] at this;lia) (by rw[at_ j Vk b hit];exact M6 rfl) λm hm Nw=>?_) ⟨ho,λz hz'=>?_,?_⟩
 .have Wo:m<as.length:=by lia
  rw[at_ m hm _ (Om Wo)];refine M4 λe=>Tw m Nw ?_;rw[Om Wo,e]
 .exact(iW k I (by first|lia|(show X.A.units+_+k.N7<MQ;lia)) ru hb r hp).1 z (by simpa using hz')
 .exact⟨.int (j:Int),H,I.tok _,⟨s.toks,rfl⟩,q⟩
end
section
variable {κ:Type} [DecidableEq κ]
def ce (kvs:List (κ×V))(k:κ):Option V:=(kvs.find? λkv=>decide (kv.1=k)).map (·.2)
def bP (kvs:List (κ×V))(k:κ)(v:V):List (κ×V):=
 if (kvs.any λkv=>decide (kv.1=k))=true then kvs.map (λkv=>if kv.1=k then (kv.1,v) else kv) else kvs++[(k,v)]
theorem Jf:ce ([]:List (κ×V)) k=none:=rfl
theorem dH {p:κ×V}(e:p.1=k):ce (p::r) k=some p.2:=by simp[ce,VU,e]
theorem dI {p:κ×V}(e:¬p.1=k):ce (p::r) k=ce r k:=by simp[ce,VU,e]
theorem jj (k:κ):∀kvs:List (κ×V),(kvs.any λkv=>decide (kv.1=k))=(ce kvs k).isSome
 | []=>rfl
 | p::r=>by
  rw[Td]
  by_cases e:p.1=k
  .simp only[dH e,M6 e,Bool.true_or,Option.isSome_some]
  .rw[dI e,M4 e,Bool.false_or];exact jj k r
theorem gw (kvs:List (κ×V))(k:κ)(v):(bP kvs k v).length<=kvs.length+1:=by
 unfold bP
 split
 .rw[Ng];lia
 .rw[NQ,N',Ud];lia
theorem dQ.abi (r:dQ o u):o.isSome=u.isSome:=by
 cases o with
 | none=>cases u with
  | none=>rfl
  | some _=>exact(show False from r).elim
 | some _=>cases u with
  | none=>exact(show False from r).elim
  | some _=>rfl
theorem dQ.getD (r:dQ o u)(rd:ax d d'):ax (o.getD d) (u.getD d'):=by
 cases o with
 | none=>cases u with
  | none=>exact rd
  | some _=>exact(show False from r).elim
 | some _=>cases u with
  | none=>exact(show False from r).elim
  | some _=>exact r
theorem KV.val (r:KV kvs vs)(k:κ):dQ (ce kvs k) (valueAt vs k):=by
 unfold KV at r
 induction r with
 | nil=>exact P9
 | @cons p q ps qs h t ih=>
  obtain⟨h1,h2⟩:=h
  by_cases e:p.1=k
  .have e':q.1=k:=h1.symm.trans e;have b:valueAt (q::qs) k=some q.2:=by simp[valueAt,VU,e']
   rw[dH e,b];exact h2
  .have e':¬q.1=k:=λz=>e (h1.trans z);have b:valueAt (q::qs) k=valueAt qs k:=by simp[valueAt,VU,e']
   rw[dI e,b];exact ih
theorem KV.any (r:KV kvs vs)(k:κ):(kvs.any λkv=>decide (kv.1=k))=vs.any λkv=>decide (kv.1=k):=by
 unfold KV at r
 induction r with
 | nil=>rfl
 | cons h t ih=>rw[Td,Td,ih,h.1]
theorem KV.abC (r:KV kvs vs)(k:κ)(ry:ax y u):
  KV (kvs.map λkv=>if kv.1=k then (kv.1,y) else kv) (vs.map λkv=>if kv.1=k then (kv.1,u) else kv):=by
 unfold KV at r ⊢
 induction r with
 | nil=>exact .nil
 | @cons p q ps qs h t ih=>
  rw[Nt,Nt];refine .cons ?_ ih;obtain⟨h1,h2⟩:=h
  by_cases e:p.1=k
  .rw[Mu e,Mu (h1.symm.trans e)];exact⟨h1,ry⟩
  .rw[Mq e,Mq (λz=>e (h1.trans z))];exact⟨h1,h2⟩
theorem KV.put (r:KV kvs vs)(k:κ)(ry:ax y u):KV (bP kvs k y) (stored vs k u):=by
 unfold bP stored;rw[r.any k]
 by_cases e:(vs.any λkv=>decide (kv.1=k))=true
 .rw[Mu e,Mu e];exact r.abC k ry
 .rw[Mq e,Mq e];exact MC.snoc r ⟨rfl,ry⟩
theorem KV.length {kvs:List (κ×V)}(r:KV kvs vs):kvs.length=vs.length:=VZ r
end
theorem gI (r:ax (kV k) u):(aL P w).is k u=true:=by
 cases k with
 | inl i=>obtain⟨t,e⟩:=(show ∃t,u=Ov i t from r);subst e;exact uO P w i t
 | inr x=>obtain⟨t,e⟩:=(show ∃t,u=Z6 x t from r);subst e;exact cw P w x t
theorem pZ:∀{ks:List Key}{us:List G'},aw (ks.map kV) us->ItemsAre (aL P w) ks us
 | [],_,r=>by rw[Z1] at r;cases r;exact .nil
 | k::ks,_,r=>by
  rw[Nt] at r;cases r with
  | cons h t=>exact .cons (gI h) (pZ t)
abbrev KT (H:Hp):List (List Key×V)->List (List Key×D'×G')->Prop:=MC λp q=>p.1=q.1/\H q.2.1=some (.tup (p.1.map kV))/\ax p.2 q.2.2
theorem KT.val (r:KT H kvs xs)(k):dQ (ce kvs k) ((atKey xs k).map (·.2)):=by
 induction r with
 | nil=>exact P9
 | @cons p q ps qs h t ih=>
  obtain⟨h1,_,h2⟩:=h
  by_cases e:p.1=k
  .have e':q.1=k:=h1.symm.trans e;have b:atKey (q::qs) k=some q.2:=by simp[atKey,VU,e']
   rw[dH e,b];exact h2
  .have e':¬q.1=k:=λz=>e (h1.trans z);have b:atKey (q::qs) k=atKey qs k:=by simp[atKey,VU,e']
   rw[dI e,b];exact ih
theorem KT.abC (r:KT H kvs xs)(k)(ry:ax y u):
  KT H (kvs.map λkv=>if kv.1=k then (kv.1,y) else kv) (xs.map (putAt k u)):=by
 induction r with
 | nil=>exact .nil
 | @cons p q ps qs h t ih=>
  rw[Nt,Nt];refine .cons ?_ ih;obtain⟨h1,h2,h3⟩:=h;unfold putAt
  by_cases e:p.1=k
  .rw[Mu e,Mu (h1.symm.trans e)];exact⟨h1,h2,ry⟩
  .rw[Mq e,Mq (λz=>e (h1.trans z))];exact⟨h1,h2,h3⟩
theorem KT.put (r:KT H kvs xs)(k)(hb:H b=some (.tup (k.map kV)))(ry:ax y u):
  KT H (bP kvs k y) (storedH xs k b u):=by
 have e:(kvs.any λkv=>decide (kv.1=k))=(atKey xs k).isSome:=by
  rw[jj,(r.val k).abi,aeC]
 unfold bP storedH;rw[e]
 by_cases q:(atKey xs k).isSome=true
 .rw[Mu q,Mu q];exact r.abC k ry
 .rw[Mq q,Mq q];exact MC.snoc r ⟨rfl,hb,ry⟩
theorem KT.keeps (r:KT H kvs xs)(ht:∀b ys,H b=some (.tup ys)->H' b=some (.tup ys)):KT H' kvs xs:=
 Paired.abz r λ_ _ z=>⟨z.1,ht _ _ z.2.1,z.2.2⟩
section
theorem BL (ok:N5 P w H h)(e:Rd H a u):bg P w H h a u:=e.ok ok
theorem kR (ok:N5 P w H h)(e:Rd H a (.dK kvs)):kvs.length<=Mz/\(a==Po)=false/\∃vs,KV kvs vs/\h.DictOf (aL P w) a vs:=
 show bg P w H h a (.dK kvs) from BL ok e
theorem jk (ok:N5 P w H h)(e:H a=some (.dK kvs)):kvs.length<=Mz/\(a==Po)=false/\∃vs,KV kvs vs/\h.DictOf (aL P w) a vs:=kR ok (.inl e)
theorem jW (ok:N5 P w H h)(e:H a=some (.tup (ks.map kV))):(tupleKind (aL P w)).is h ks a:=by
 obtain⟨_,Mh,r,o,h1,h2,n,h3,_⟩:=(show bg P w H h a (.tup (ks.map kV)) from ok a _ e)
 exact⟨o,Mh.toArray,n,h1,h2,h3,by simpa using pZ r⟩
theorem kS (ok:N5 P w H h)(e:Rd H a (.dT kvs)):kvs.length<=Mz/\(a==Po)=false/\
  ∃xs,KT H kvs xs/\h.DictOfH (tupleKind (aL P w)) a xs:=by
 obtain⟨z,y,xs,r,o,es,ep,h1,h2,h3,h4,h5⟩:=(show bg P w H h a (.dT kvs) from BL ok e)
 refine⟨z,y,xs,r,o,es,ep,h1,h2,h3,h4,λx hx=>?_,h5⟩;have all:∀{l:List (List Key×V)}{m:List (List Key×D'×G')},KT H l m->∀x∈m,(tupleKind (aL P w)).is h x.1 x.2.1:=by
  intro l m q
  induction q with
  | nil=>intro x hx;exact nomatch hx
  | @cons p q ps qs hq t ih=>
   intro x hx;rcases M0.mp hx with e|hx
   .subst e;exact jW ok (by rw[<-hq.1];exact hq.2.1)
   .exact ih x hx
 exact all r x hx
theorem HG (ok:N5 P w H h)(e:H a=some (.dT kvs)):kvs.length<=Mz/\(a==Po)=false/\
  ∃xs,KT H kvs xs/\h.DictOfH (tupleKind (aL P w)) a xs:=kS ok (.inl e)
end
def eS (H:Hp)(a:D')(y:V)(r:Option V):Prop:=
 (∃kvs k,Rd H a (.dK kvs)/\y=kV k/\r=ce kvs k)\/∃kvs k b,Rd H a (.dT kvs)/\y=.ref b/\H b=some (.tup (k.map kV))/\r=ce kvs k
def sI (H:Hp)(a:D')(y v:V)(H':Hp):Prop:=
 (∃kvs k,H a=some (.dK kvs)/\y=kV k/\kvs.length<Mz/\H'=upd H a (.dK (bP kvs k v)))\/
 ∃kvs k b,H a=some (.dT kvs)/\y=.ref b/\H b=some (.tup (k.map kV))/\kvs.length<Mz/\H'=upd H a (.dT (bP kvs k v))
theorem eS.k {k:Key}(e:H a=some (.dK kvs)):eS H a (kV k) (ce kvs k):=.inl ⟨kvs,k,.inl e,rfl,rfl⟩
theorem sI.k {k:Key}(e:H a=some (.dK kvs))(hl:kvs.length<Mz):sI H a (kV k) v (upd H a (.dK (bP kvs k v))):=.inl ⟨kvs,k,e,rfl,hl,rfl⟩
section
variable {σ:St} in
theorem Inv.UC (I:Inv X aa σ H s):Po<s.heap.objs.size:=by
 have h:No<s.heap.objs.size:=(I.mod.glob.keeps I.bk).lt;exact Z2 (by decide) h
variable {σ:St} in
theorem yq (hu:A.units+1<MQ)(I:Inv X aa σ H s)(g:eS H a y (some v))(ry:ax y u)(h:∀w' s',Inv X aa σ H s'->ax v w'->Q w' s'):
  Ml (Mr X.prog X.w) A (getItem (.ref a) u) Q E s:=by
 rcases g with⟨kvs,k,e,ey,l⟩|⟨kvs,k,b,e,ey,eb,l⟩
 .subst ey;obtain⟨z,hd,vs,rel,dd⟩:=kR I.My e;obtain⟨w',hw,Sg⟩:=dQ.some_of (v:=v) (o:=valueAt vs k) (by rw[l];exact rel.val k);exact wpAny_getItem_of (gI ry) dd.mapOf hw (h w' _ (I.tok _) Sg)
 .subst ey;cases (show u=Nd b from ry);obtain⟨z,hd,xs,rel,dd⟩:=kS I.My e;obtain⟨w',hw,Sg⟩:=dQ.some_of (v:=v) (o:=(atKey xs k).map (·.2)) (by rw[l];exact rel.val k);obtain⟨p,hp,Ws⟩:=VE.mp hw;refine wpAny_getItem_heap (aaH hu) (jW I.My eb) dd hp ?_;rw[Ws];exact h w' _ (I.tok _) Sg
variable {σ:St} in
theorem Jg (hu:A.units+1<MQ)(I:Inv X aa σ H s)(g:eS H a y o)(ry:ax y u)(h:∀s',Inv X aa σ H s'->Q (.bool o.isSome) s'):
  Ml (Mr X.prog X.w) A (OM .In u (.ref a)) Q E s:=by
 rcases g with⟨kvs,k,e,ey,l⟩|⟨kvs,k,b,e,ey,eb,l⟩
 .subst ey;obtain⟨z,hd,vs,rel,dd⟩:=kR I.My e;refine wpAny_in_of (gI ry) hd dd.mapOf ?_;rw[<-(rel.val k).abi,<-l];exact h _ (I.tok _)
 .subst ey;cases (show u=Nd b from ry);obtain⟨z,hd,xs,rel,dd⟩:=kS I.My e;refine wpAny_in_heap (aaH hu) (jW I.My eb) hd dd ?_;have q:=(rel.val k).abi;rw[aeC] at q;rw[<-q,<-l];exact h _ (I.tok _)
variable {σ:St} in
theorem kT {t':Nat}(I:Inv X aa σ H s)(mu:Ym (H a))(hs:QY a s.heap h')(he:∃q,h'.get? a=some q)(new:bg X.prog X.w (upd H a ob) h' a ob):
  Inv X aa σ (upd H a ob) { s with heap:=h',toks:=t' }:=
 I.write (x:=a) (e:=a) mu (.inl rfl) (λb q hb z=>(hs.2 b hb).trans z) he new
theorem ny (z:kvs.length<=Mz)(hd:(a==Po)=false)(rel:KV kvs vs)(dd:h'.DictOf (aL P w) a vs):
  bg P w H' h' a (.dK kvs):=⟨z,hd,vs,rel,dd⟩
variable {σ:St} in
theorem yr (hu:A.units+1<MQ)(I:Inv X aa σ H s)(g:sI H a y v H')(ry:ax y u)(rv:ax v r)(h:∀s',Inv X aa σ H' s'->Q () s'):
  Ml (Mr X.prog X.w) A (setItem (.ref a) u r) Q E s:=by
 rcases g with⟨kvs,k,e,ey,l,eH⟩|⟨kvs,k,b,e,ey,eb,l,eH⟩
 .subst ey eH;obtain⟨z,hd,vs,rel,dd⟩:=jk I.My e;have hz:vs.length<=Mz:=by rw[<-rel.length];exact z
  have hl:(bP kvs k v).length<=Mz:=by have:=gw kvs k v;lia
  refine wpAny_setItem_pairs (hsz:=hz) (gI ry) dd λh' QN hs=>h _ ?_;have he:∃q,h'.get? a=some q:=let ⟨q,_,_,hq,_⟩:=QN;⟨q,hq⟩;exact kT I (by rw[e];exact P9) hs he (ny hl hd (rel.put k rv) QN)
 .subst ey eH;cases (show u=Nd b from ry);obtain⟨z,hd,xs,rel,dd⟩:=HG I.My e;have hz:xs.length<=Mz:=by rw[<-VZ rel];exact z
  have hl:(bP kvs k v).length<=Mz:=by have:=gw kvs k v;lia
  refine wpAny_setItem_heap (hsz:=hz) (aaH hu) (jW I.My eb) dd λh' QN hs=>h _ ?_;obtain⟨q,es,ep,hq,h2,h3,h4,_,h5⟩:=QN;refine kT I (by rw[e];exact P9) hs ⟨q,hq⟩ ⟨hl,hd,_,(rel.put k eb rv).keeps λc ys ec=>?_,q,es,ep,hq,h2,h3,h4,h5⟩;rw[ao (iq ec e (λz=>nomatch z))];exact ec
end
section
end
def sJ (i:MK):Prop:=∀ov iv,subscripted i false ov iv=operate [ov,iv] (getItem ov iv)
theorem kU {T id:String}(hl:typeLookup (.type T) "__getitem__"=pure (some (.builtin id)))(hs:sJ slice)(h:Ml (Mr prog w) A (eval value env) (λo MN=>Ml (Mr prog w) A (eval slice env) (λi M1=>M1.TypeIs o T/\Ml (Mr prog w) A (getItem o i) Q E M1) E MN) E s):
  Ml (Mr prog w) A (eval (.Subscript value slice pos) env) Q E s:=by
 refine Subscript_ (QZ h (λo MN OP=>QZ OP (λi M1 abD=>?_) λ_ _ x=>x) λ_ _ x=>x);obtain⟨hT,abD⟩:=abD;unfold subscriptTail;refine Mf ?_;rw[getitemInPython_of_ne hT.not_modules];refine Mf (VW hT hl ?_);have fin:Ml (Mr prog w) A (subscripted slice false o i) (λr Uq=>Ml (Mr prog w) A (letTemporaryGo value o r >>= λ_=>pure r) Q E Uq) E M1:=by
  rw[hs o i];exact wpAny_operating (QZ abD (λr Uq afv=>Mf (wpAny_letTemporaryGo (Mm afv))) λ_ _ x=>x)
 first
  | exact Mm (Mf fin)
  | exact Mf (Mm (Mf fin))
  | exact Mf fin
theorem uT {σ:St}(I:Inv X aa σ H s)(g:eS H a y o):s.TypeIs (.ref a) "dict":=by
 rcases g with⟨kvs,k,e,_,_⟩|⟨kvs,k,b,e,_,_,_⟩
 .obtain⟨_,_,vs,_,dd⟩:=kR I.My e;exact dd.typeIs
 .obtain⟨_,_,xs,_,dd⟩:=kS I.My e;exact dd.typeIs
def HH (td ty:TE):TE:=λσ H Q=>td σ H λx H1=>ty σ H1 λy H2=>∃a v,x=.ref a/\eS H2 a y (some v)/\Q v H2
def Jh (ty td:TE):TE:=λσ H Q=>ty σ H λy H1=>td σ H1 λx H2=>∃a o,x=.ref a/\eS H2 a y o/\Q (.bl o.isSome) H2
def HI (td ty tv:TE):TS:=λD σ H=>tv σ H λv H1=>td σ H1 λx H2=>ty σ H2 λy H3=>∃a H4,x=.ref a/\sI H3 a y v H4/\D.nx σ H4
section
theorem iX (hu:X.A.units+1<MQ)(ho:PE X o td)(hi:PE X i ty)(hs:sJ i):PE X (.Subscript o i pos) (HH td ty):=by
 intro aa s σ H Q I h;refine kU aap.lookup hs (ME (ho aa s σ H _ I h) λu s1 ⟨x,H1,I1,rx,q1⟩=>ME (hi aa s1 σ H1 _ I1 q1) λiv s2 ⟨y,H2,I2,ry,a,v,ex,g,q2⟩=>?_);subst ex;obtain rfl:u=Nd a:=rx;exact⟨uT I2 g,yq hu I2 g ry λw' s3 I3 Sg=>⟨v,H2,I3,Sg,q2⟩⟩
theorem yt (hu:X.A.units+1<MQ)(hi:PE X i ty)(ho:PE X o td):PC X .In i o (Jh ty td):=by
 intro aa s σ H Q I h;refine ME (hi aa s σ H _ I h) λiv s1 ⟨y,H1,I1,ry,q1⟩=>ME (ho aa s1 σ H1 _ I1 q1) λu s2 ⟨x,H2,I2,rx,a,ov,ex,g,q2⟩=>?_;subst ex;obtain rfl:u=Nd a:=rx;exact Jg hu I2 g ry λs3 I3=>⟨.bl ov.isSome,H2,I3,rfl,q2⟩
theorem oY (hu:X.A.units+1<MQ)(ho:PE X o td)(hi:PE X i ty)(hv:PE X value tv)(hs:swapsWith value (some (.Subscript o i pos')) pos.line X.env=pure false):
  PS X (.Assign [.Subscript o i pos'] value pos) (HI td ty tv):=by
 intro aa s σ H D I h;refine ab3 (ME (hv aa s σ H _ I h) λr s1 ⟨v,H1,I1,rv,q1⟩=>ME (ho aa s1 σ H1 _ I1 q1) λu s2 ⟨x,H2,I2,rx,q2⟩=>ME (hi aa s2 σ H2 _ I2 q2) λiv s3 ⟨y,H3,I3,ry,a,H4,ex,g,q3⟩=>?_) hs;subst ex;obtain rfl:u=Nd a:=rx;exact yr hu I3 g ry rv λs4 I4=>⟨σ,H4,I4,q3⟩
end
theorem sK (h:Mp)(hb:Po<h.objs.size):bg P w H (h.push { cls:=.type "dict",data:=.dict #[] }) h.objs.size (.dK []):=
 ⟨NX _,beq_eq_false_iff_ne.mpr (M' (M8 hb)),[],.nil,aeI h⟩
def Ed:TE:=λ_ H Q=>∀p,H p=none->Q (.ref p) (upd H p (.dK []))
section
theorem sL:PE X (.Dict [] [] pos) Ed:=λaa s σ H Q I h=>
 wpAny_Dict_empty ⟨.ref s.heap.objs.size,_,I.laid (a:=s.heap.objs.size) (o:=.dK []) (t':=s.toks) (λ_ _ q=>MZ _ q) (MJ _) (sK s.heap I.UC),rfl,h _ (I.My.fresh (MJ _))⟩
end
def sM:List (TE×TE)->St->Hp->(List (V×V)->Hp->Prop)->Prop
 | [],_,H,Q=>Q [] H
 | (tk,tv)::r,σ,H,Q=>tk σ H λx H1=>tv σ H1 λy H2=>sM r σ H2 λps H3=>Q ((x,y)::ps) H3
abbrev VV:List (V×V)->List (G'×G')->Prop:=MC λp q=>ax p.1 q.1/\ax p.2 q.2
def PPs (X:Cx)(pos:Ni)(keys:List (Option MK))(values:List MK)(Tz:List (TE×TE)):Prop:=
 ∀(aa:List (D'×Mc)) (s:Md) (σ:St) (H:Hp) (Q:List (V×V)->Hp->Prop),Inv X aa σ H s->sM Tz σ H Q->
  Ml (Mr X.prog X.w) X.A (evalPairs (pairTrees keys values X.env pos)) (λvs s'=>∃ps H',Inv X aa σ H' s'/\VV ps vs/\Q ps H') X.xe s
theorem oZ:PPs X pos [] [] []:=λaa s σ H Q I h=>pairTrees_nil_walk ⟨[],H,I,.nil,h⟩
theorem fY (hk:PE X k tk)(hv:PE X v tv)(hr:PPs X pos ks vs Tz):
  PPs X pos (some k::ks) (v::vs) ((tk,tv)::Tz):=λaa s σ H Q I h=>
 pairTrees_cons_walk (ME (hk aa s σ H _ I h) λu s1 ⟨x,H1,I1,rx,q1⟩=>ME (hv aa s1 σ H1 _ I1 q1) λw2 s2 ⟨y,H2,I2,ry,q2⟩=>
  ME (hr aa s2 σ H2 _ I2 q2) λws s3 ⟨ps,H3,I3,rel,q3⟩=>⟨(x,y)::ps,H3,I3,.cons ⟨rx,ry⟩ rel,q3⟩)
def dL (kvs more:List (Key×V)):List (Key×V):=more.foldl (λacc kv=>bP acc kv.1 kv.2) kvs
theorem KV.merge:∀{more:List (Key×V)}{rs:List (Key×G')}{kvs:List (Key×V)}{vs:List (Key×G')},KV more rs->KV kvs vs->KV (dL kvs more) (merged vs rs):=by
 intro more rs kvs vs r;unfold KV at r
 induction r generalizing kvs vs with
 | nil=>intro q;exact q
 | @cons p q ps qs h t ih=>
  intro r0;have e:KV (bP kvs p.1 p.2) (stored vs q.1 q.2):=by
   have:=r0.put p.1 h.2;rw[<-h.1];exact this
  exact ih e
theorem jJ:∀(more kvs:List (Key×V)),(dL kvs more).length<=kvs.length+more.length
 | [],kvs=>by show kvs.length<=kvs.length+0;lia
 | p::r,kvs=>by
  have h1:=jJ r (bP kvs p.1 p.2);have h2:=gw kvs p.1 p.2;show(dL (bP kvs p.1 p.2) r).length<=_;rw[N'];lia
theorem nz:∀{kvs:List (Key×V)}{ws:List (G'×G')},VV (kvs.map λkv=>(kV kv.1,kv.2)) ws->∃rs,Carries (aL P w) ws rs/\KV kvs rs
 | [],_,r=>by rw[Z1] at r;cases r;exact⟨[],P9,.nil⟩
 | p::kvs,_,r=>by
  rw[Nt] at r;cases r with
  | @cons a b as bs h t=>
   obtain⟨rs,c,q⟩:=nz (P:=P) (w:=w) t;obtain⟨b1,b2⟩:=b;exact⟨(p.1,b2)::rs,⟨gI h.1,rfl,c⟩,.cons ⟨rfl,h.2⟩ q⟩
def HJ (Tz:List (TE×TE)):TE:=λσ H Q=>∀p,H p=none->sM Tz σ (upd H p (.dK [])) λps H2=>H2 p=some (.dK [])/\∃kvs:List (Key×V),ps=kvs.map (λkv=>(kV kv.1,kv.2))/\kvs.length<=15/\Q (.ref p) (upd H2 p (.dK (dL [] kvs)))
theorem o0 (h:PPs X pos keys values Tz)(Qe:keys.all (·.isSome)=true)(hl:keys.length=values.length)(h0:keys≠[])(h15:keys.length<=15):PE X (.Dict keys values pos) (HJ Tz):=by
 intro aa s σ H Q I q;have hn:=I.My.fresh (MJ s.heap.objs.size);have I1:=I.laid (a:=s.heap.objs.size) (o:=.dK []) (h':=s.heap.push { cls:=.type "dict",data:=.dict #[] }) (t':=s.toks) (λ_ _ q=>MZ _ q) (MJ _) (sK s.heap I.UC);refine wpAny_Dict_walk (knd:=aL X.prog X.w) Qe hl h0 h15 (ME (h aa _ σ _ _ I1 (q _ hn)) λws s2 ⟨ps,H2,I2,rel,e,kvs,ep,lk,q2⟩=>?_);subst ep;obtain⟨rs,c,rk⟩:=nz (P:=X.prog) (w:=X.w) rel;obtain⟨z,hd,vs0,r0,dd⟩:=jk I2.My e;cases r0;refine⟨rs,c,dd,λh' QN hs=>⟨.ref s.heap.objs.size,_,?_,rfl,q2⟩⟩;have hz:(dL [] kvs).length<=Mz:=by
  have h1:=jJ kvs [];rw[Ud] at h1;rw[Nf];lia
 have he:∃q,h'.get? s.heap.objs.size=some q:=let ⟨q,_,_,hq,_⟩:=QN;⟨q,hq⟩;exact kT I2 (by rw[e];exact P9) hs he (ny hz hd (rk.merge .nil) QN)
structure M2 (X:Cx)(o:MK)(m:Me)(apos:Ni)(e f:MK)(Pr:Ni):Prop where
 base:attributeBase o m X.env (eval o X.env)=eval o X.env
 MW:((backTo Pr (NM [e,f] X.env)).all (λx=>!x.1)&&(backToKw Pr (keywordEach [] X.env)).all (λx=>x.1.isSome)
  && decide (([e,f]:List MK).length+([]:List Keyword).length+(if ([]:List Keyword).isEmpty then 0 else 1)<30))=true
 line:(apos.endLine==Pr.line)=true
 trees:backTo Pr (NM [e,f] X.env)=[(false,eval e X.env),(false,eval f X.env)]
def IsD (H:Hp)(a:D'):Prop:=(∃kvs,Rd H a (.dK kvs))\/∃kvs,Rd H a (.dT kvs)
theorem Ee {σ:St}(I:Inv X aa σ H s)(d:IsD H a):
  s.TypeIs (.ref a) "dict"/\(∀b,Nd a=.ref b->∃ob,s.heap.get? b=some ob/\ob.dict=none)/\(a==Po)=false:=by
 rcases d with⟨kvs,e⟩|⟨kvs,e⟩
 .obtain⟨_,hd,vs,_,dd⟩:=kR I.My e;refine⟨dd.typeIs,λb q=>?_,hd⟩;cases q;obtain⟨ob,_,_,h1,h2,_⟩:=dd;exact⟨ob,h1,h2.2.1⟩
 .obtain⟨_,hd,xs,_,dd⟩:=kS I.My e;refine⟨dd.typeIs,λb q=>?_,hd⟩;cases q;obtain⟨ob,_,_,h1,h2,_⟩:=dd;exact⟨ob,h1,h2.2.1⟩
section
variable {σ:St} in
theorem Ef (hu:A.units+1<MQ)(I:Inv X aa σ H s)(g:eS H a y o)(ry:ax y u)(rd:ax d r)(h:∀w' s',Inv X aa σ H s'->ax (o.getD d) w'->Q w' s'):
  Ml (Mr X.prog X.w) A (call (.builtin "dict.get") [.ref a,u,r]) Q E s:=by
 rcases g with⟨kvs,k,e,ey,l⟩|⟨kvs,k,b,e,ey,eb,l⟩
 .subst ey;obtain⟨z,hd,vs,rel,dd⟩:=kR I.My e;refine call_meetsIn aca dd.typeIs aed (ad5 _ _ _) (meets_dict_get_default (aL X.prog X.w) a (gI ry) hd r) ⟨_,dd.mapOf,h _ _ (I.tok _) ?_⟩;rw[l];exact(rel.val k).getD rd
 .subst ey;cases (show u=Nd b from ry);obtain⟨z,hd,xs,rel,dd⟩:=kS I.My e;refine call_meetsIn aca dd.typeIs aed (ad5 _ _ _) (meetsH_dict_get_default (tupleKind (aL X.prog X.w)) a b hd r) ⟨aaH hu,k,xs,jW I.My eb,dd,h _ _ (I.tok _) ?_⟩;rw[l];exact(rel.val k).getD rd
end
def Eg (td ty tx:TE):TE:=λσ H Q=>td σ H λx H1=>∃a,x=.ref a/\IsD H1 a/\ty σ H1 λy H2=>tx σ H2 λz H3=>∃o,eS H3 a y o/\Q (o.getD z) H3
section
theorem sN (hu:X.A.units+1<MQ)(ho:PE X o td)(he:PE X e ty)(hf:PE X f tx)(m:M2 X o "get" apos e f Pr):PE X (.Call (.Attribute o "get" apos) [e,f] [] Pr) (Eg td ty tx):=by
 intro aa s σ H Q I h;refine wpAny_Call_method m.base m.MW m.line ad6 aca PySem.F.type_dict_get (ME (ho aa s σ H _ I h) λu s1 ⟨x,H1,I1,rx,a,ex,d,q1⟩=>?_);subst ex;obtain rfl:u=Nd a:=rx;obtain⟨t1,t2,_⟩:=Ee I1 d;refine⟨t1,t2,?_⟩;rw[m.trees];refine aec rfl (acg (Xo (ME (he aa s1 σ H1 _ I1 q1) λiv s2 ⟨y,H2,I2,ry,q2⟩=>
  Xo (ME (hf aa s2 σ H2 _ I2 q2) λfv s3 ⟨z,H3,I3,rz,ov,g,q3⟩=>acq ?_))))
 exact Ef hu I3 g ry rz λw' s4 I4 Sg=>⟨_,H3,I4,Sg,q3⟩
end
section
end
section
end
section
end
section
variable {κ:Type} [DecidableEq κ]
end
def bI (h:Mp)(ks:List Int)(a:D'):Prop:=∃items:Array G',h.IsTuple a items/\MC (λv (k:Int)=>∃t,v=Ov k t) items.toList ks
def de (h:Mp)(M7:List (List Int))(a:D'):Prop:=∃items:Array G',h.IsTuple a items/\MC (λv ks=>∃b,v=Nd b/\bI h ks b) items.toList M7
theorem vt {h:Mp}(x:h.IsTuple a i)(y:h.IsTuple a j):i=j:=by
 obtain⟨o,e,_,n,d⟩:=x;obtain⟨o',e',_,n',d'⟩:=y;rw[e] at e';cases e';rw[d] at d';injection d'
theorem bI.inj (p:bI h x a)(q:bI h y a):x=y:=by
 obtain⟨i,t,r⟩:=p;obtain⟨j,t',r'⟩:=q;have:=vt t t';subst this;exact Vm (F:=λv (k:Int)=>∃t,v=Ov k t) (λ_ _ _ ⟨_,h1⟩ ⟨_,h2⟩=>by rw[h1] at h2;cases h2;rfl) r r'
theorem de.inj (p:de h x a)(q:de h y a):x=y:=by
 obtain⟨i,t,r⟩:=p;obtain⟨j,t',r'⟩:=q;have:=vt t t';subst this;exact Vm (F:=λv ks=>∃b,v=Nd b/\bI h ks b) (λ_ _ _ ⟨_,h1,g1⟩ ⟨_,h2,g2⟩=>by rw[h1] at h2;cases h2;exact g1.inj g2) r r'
theorem p8 {es ep}(x:h.IsTuple a i)(ho:h.get? d=some o)(hd:o.data=.dict es ep)(hs:QY d h h'):h'.IsTuple a i:=by
 obtain⟨o',e,c,n,d'⟩:=x;refine⟨o',(hs.2 a ?_).trans e,c,n,d'⟩;rintro rfl;rw[e] at ho;cases ho;rw[d'] at hd;cases hd
theorem bI.keeps {es ep}(p:bI h x a)(ho:h.get? d=some o)(hd:o.data=.dict es ep)(hs:QY d h h'):bI h' x a:=
 let ⟨i,t,r⟩:=p;⟨i,p8 t ho hd hs,r⟩
theorem de.keeps {es ep}(p:de h x a)(ho:h.get? d=some o)(hd:o.data=.dict es ep)(hs:QY d h h'):de h' x a:=
 let ⟨i,t,r⟩:=p;⟨i,p8 t ho hd hs,aD (λ_ _ ⟨b,e,q⟩=>⟨b,e,q.keeps ho hd hs⟩) r⟩
section
variable {A:ML}{s:Md} in
theorem sP {α:Type}[DecidableEq α]{F:G'->α->Prop}{us vs:Array G'}{as bs:List α}(p:MC F us.toList as)(q:MC F vs.toList bs)(h:∀u v a b,F u a->F v b->R3 A s u v (decide (a=b))):
  ∀j (h1:j<us.size) (h2:j<vs.size),R3 A s us[j] vs[j] (decide (as[j]?=bs[j]?)):=by
 intro j h1 h2;obtain⟨a,ea,ra⟩:=cp (i:=j) (a:=us[j]) p (by simp[h1]);obtain⟨b,eb,rb⟩:=cp (i:=j) (a:=vs[j]) q (by simp[h2]);rw[ea,eb];have e3:decide (some a=some b)=decide (a=b):=by
  by_cases h:a=b
  .subst h;simp
  .simp[h]
 rw[e3];exact h _ _ _ _ ra rb
theorem wK (hu:A.units<MQ)(p:bI s.heap x a)(q:bI s.heap y b):R3 A s (.ref a) (.ref b) (decide (x=y)):=by
 by_cases e:a=b
 .subst e;have:=p.inj q;subst this;rw[M6 rfl];exact XD _
 .obtain⟨i,t,r⟩:=p;obtain⟨j,t',r'⟩:=q;refine ZE e ?_;have h:=Xy (A:=A) (e:=λk=>decide (x[k]?=y[k]?)) t t' hu (sP r r' λu v a b ⟨_,h1⟩ ⟨_,h2⟩=>by
   subst h1 h2;rw[<-gK];exact aaG _ _ _ _)
  rw[iV (by rw[<-Od,r.length]) (by rw[<-Od,r'.length])] at h;exact h
theorem Eh (hu:A.units+1<MQ)(p:de s.heap x a)(q:de s.heap y b):R3 A s (.ref a) (.ref b) (decide (x=y)):=by
 by_cases e:a=b
 .subst e;have:=p.inj q;subst this;rw[M6 rfl];exact XD _
 .obtain⟨i,t,r⟩:=p;obtain⟨j,t',r'⟩:=q;refine ZE e ?_;have h:=Xy (A:=A) (e:=λk=>decide (x[k]?=y[k]?)) t t' (by lia) (sP r r' λu v a b ⟨_,h1,g1⟩ ⟨_,h2,g2⟩=>by
   subst h1 h2;exact wK (A:=A.in1) hu g1 g2)
  rw[iV (by rw[<-Od,r.length]) (by rw[<-Od,r'.length])] at h;exact h
end
section
theorem abh:∀{vs:List G'}{ks:List Int},MC (λv (k:Int)=>∃t,v=Ov k t) vs ks->ItemsAre (intKind prog w) ks vs
 | _,_,.nil=>.nil
 | _,_,.cons ⟨t,e⟩ r=>by
  subst e;exact .cons (by simp[intKind,XO]) (abh r)
theorem bI.key (p:bI h ks a):IsTupleKey (intKind prog w) h ks a:=by
 obtain⟨i,⟨o,e,c,n,d⟩,r⟩:=p;exact⟨o,i,n,e,c,d,abh r⟩
def fM (ks:List Int):Int:=reduceHash (VB (ks.map hashInt))
def iY (M7:List (List Int)):Int:=reduceHash (VB (M7.map fM))
def mf (M7:List (List Int)):Nat:=(M7.map λks=>ks.length+1).sum+1
variable {s:Md} in
theorem fN (x:s.heap.IsTuple a i):s.TypeIs (.ref a) "tuple":=let ⟨o,e,c,_⟩:=x;⟨o,e,c⟩
theorem jX (hu:A.units<MQ)(hk:bI s.heap ks a)(h:Q (fM ks) { s with toks:=s.toks+(ks.length+1) }):Ml (Mr prog w) A (pyHash (.ref a)) Q E s:=
 wpAny_pyHash_tuple (knd:=intKind prog w) hu hk.key h
theorem wL (hu:A.units+1<MQ)(hk:de s.heap M7 a)(h:Q (iY M7) { s with toks:=s.toks+mf M7 }):Ml (Mr prog w) A (pyHash (.ref a)) Q E s:=by
 obtain⟨items,tp,hi⟩:=hk;have hT:=fN tp;obtain⟨o,ho,Pe,n,hd⟩:=tp;unfold pyHash
 first|unfold pyHashByItsType|skip
 first|refine Mf (wpAny_cRoomFor_or (.inr (by lia)) ?_)|skip
 refine Mf (VW hT ZK.lookup ?_);show Ml _ _ (if (some (V2 "tuple.__hash__")==some Sv)=true then _ else _) Q E s;rw[Mq (by rw[beq_builtin_none];exact Oo)];refine Mf (VW hT ZK.lookup ?_);show Ml _ _ (callSpecialIfBoundUnlessNone? (.ref a) "__hash__" _ >>= _) Q E s;refine Mf (wpAny_callSpecialIfBoundUnlessNone?_slot hT ZK (Ra ZK hT F.entry_tuple_hash ?_ (F.args_tuple_hash_1 _)));show Ml _ _ (adS (.ref a) >>= _) _ _ s;refine Mf (wpAny_tupleItemsOf ho hd ?_);refine Mf ?_;rw[<-ZF];refine Rb _
  (λrest (b:Array Int) s'=>∃done left,M7=done++left/\MC (λv ks=>∃b,v=Nd b/\bI s.heap ks b) rest left/\b.toList=done.map fM/\s'={ s with toks:=s.toks+(done.map λks=>ks.length+1).sum })
  _ ?_ ?_ _ _ ⟨[],M7,rfl,hi,rfl,rfl⟩
 .rintro x rest b s' ⟨done,left,rfl,hl,hb,rfl⟩;cases hl with
  | @cons _ ks _ ac9 h1 hl'=>
   obtain⟨c,rfl,h1⟩:=h1;refine Mf (jX (A:=A.in1) hu h1 ?_)
   first
    | exact Mm ⟨done++[ks],ac9,by simp,hl',by simp[hb],by simp[aaZ]⟩
    | exact Mf (Mm (Mm ⟨done++[ks],ac9,by simp,hl',by simp[hb],by simp[aaZ]⟩))
 .rintro b s' ⟨done,left,rfl,hl,hb,rfl⟩;cases hl;rw[QD] at h;show Ml _ _ (retInt (VB b.toList)) _ _ _;rw[hb];refine wpAny_ret_mkInt ?_;show Ml _ _ (if (decide (-(2:Int) ^ 63<=VB (done.map fM))&&decide (VB (done.map fM)<2 ^ 63))=true then _ else _) Q E _;unfold iY reduceHash mf at h
  by_cases hr:(decide (-(2:Int) ^ 63<=VB (done.map fM))&&decide (VB (done.map fM)<2 ^ 63))=true
  .rw[Mu hr];rw[Mu hr] at h;exact Mm (by simpa [aaZ] using h)
  .rw[Mq hr];rw[Mq hr] at h;exact Mf (Qa (Mm (by simpa [aaZ] using h)))
theorem sQ (n:Nat)(tp:s.heap.IsTuple a items)(hv:∀v∈items.toList,∀(Q:Bool->Md->Prop),Q true s->Ml (Mr prog w) A (eqIsQuiet n v) Q E s)(h:Q true s):
  Ml (Mr prog w) A (eqIsQuiet (n+1) (.ref a)) Q E s:=by
 have hT:=fN tp;obtain⟨o,ho,Pe,n',hd⟩:=tp;unfold eqIsQuiet;refine Mf (VW hT F.slot_tuple_eq.lookup ?_);show Ml _ _ (isInstance (.ref a) (.type "tuple") >>= _) _ _ s;refine Mf (aaO hT isSubtype_tuple_tuple ?_);simp only[QX,NT,if_false];refine Mf (aaV ho hd ?_);refine Mf ?_;show Ml _ _ (forIn items _ _) _ _ s;rw[<-ZF];refine Rb _ (λrest r s'=>r.1=none/\s'=s/\∀v∈rest,v∈items.toList) _ ?_ ?_ _ _ ⟨rfl,rfl,λv hv=>hv⟩
 .rintro v rest r s' ⟨hr,rfl,Qe⟩;refine Mf (hv v (Qe v MO) _ ?_);simp only[QX,NT,if_false];exact Mm ⟨rfl,rfl,λu hu'=>Qe u (Na _ hu')⟩
 .rintro⟨r1,r2⟩ s' ⟨hr,rfl,_⟩;simp only at hr;subst hr;exact Mm h
theorem eT {α β:Type}{F:α->β->Prop}:∀{O3:List α}{O4:List β},MC F O3 O4->∀a∈O3,∃b∈O4,F a b
 | _,_,.nil,a,h=>by cases h
 | _,_,.cons r t,a,h=>by
  rcases M0.mp h with rfl|h
  .exact⟨_,MO,r⟩
  .obtain⟨b,m,q⟩:=eT t a h;exact⟨b,Na _ m,q⟩
theorem mh (n:Nat)(hk:bI s.heap ks a)(h:Q true s):Ml (Mr prog w) A (eqIsQuiet (n+1) (.ref a)) Q E s:=by
 obtain⟨i,t,r⟩:=hk;refine sQ n t (λv hv Q' q=>?_) h;obtain⟨k,_,t',e⟩:=eT r v hv;subst e;rw[eqIsQuiet_byValue n rfl];exact Mm q
theorem yu (n:Nat)(hk:de s.heap M7 a)(h:Q true s):Ml (Mr prog w) A (eqIsQuiet (n+2) (.ref a)) Q E s:=by
 obtain⟨i,t,r⟩:=hk;refine sQ (n+1) t (λv hv Q' q=>?_) h;obtain⟨ks,_,b,e,g⟩:=eT r v hv;subst e;exact mh n g q
def hG (prog)(w):HeapKind prog w (List (List Int)) where
 is:=de
 hash:=iY
 draws:=mf
 room:=λA=>A.units+1<MQ
 inj:=λp q=>p.inj q
 keeps:=λp ho hd hs=>p.keeps ho hd hs
 pyHash:=λhu hk h=>wL hu hk h
 eqBool:=λhu hx hy h=>Eh hu hx hy _ _ _ _ h
 quiet:=λhk h=>yu 6 hk h
end
theorem kW {α β γ:Type}{F:α->β->Prop}{G:α->γ->Prop}{R:β->γ->Prop}(h:∀a b c,F a b->G a c->R b c):∀{l:List α}{m:List β}{n:List γ},MC F l m->MC G l n->MC R m n
 | _,_,_,.nil,.nil=>.nil
 | _,_,_,.cons r t,.cons r' t'=>.cons (h _ _ _ r r') (kW h t t')
abbrev au:Dk (List Int):=AJ wJ
abbrev bM:Dk (List (List Int)):=AJ au
section
variable {σ:St} in
theorem nA (I:Inv X aa σ H s)(h:au.rep X.K H (.ref a) ks):bI s.heap ks a:=by
 obtain⟨p,xs,e,q,r⟩:=h;cases e;obtain⟨Mh,v,t,_⟩:=I.tuple q;refine⟨Mh.toArray,t,?_⟩;exact kW (F:=ax) (G:=wJ.rep X.K H) (λx u k h1 h2=>by
  have h2:x=V.int k:=h2;subst h2;exact h1) v r
variable {σ:St} in
theorem jY (I:Inv X aa σ H s)(h:bM.rep X.K H (.ref a) M7):de s.heap M7 a:=by
 obtain⟨p,xs,e,q,r⟩:=h;cases e;obtain⟨Mh,v,t,_⟩:=I.tuple q;refine⟨Mh.toArray,t,?_⟩;exact kW (F:=ax) (G:=au.rep X.K H) (λx u k h1 h2=>by
  obtain⟨p,xs,e,q,r⟩:=id h2;subst e;cases h1;exact⟨p,rfl,nA I h2⟩) v r
end
abbrev QO:=List (List (List Int)×D'×Int)
def PL (L:QO)(xs:List (List (List Int)×D'×G')):Prop:=MC (λ(p:List (List Int)×D'×Int) (q:List (List Int)×D'×G')=>p.1=q.1/\p.2.1=q.2.1/\∃t,q.2.2=Ov p.2.2 t) L xs
def fj (d:D')(L:QO):HO:=.ext λh=>(d==Po)=false/\∃xs,PL L xs/\∃o es ep,h.get? d=some o/\o.ExactDict/\o.data=.dict es ep/\es.toList=xs.map (λx=>(⟨iY x.1,.ref x.2.1,x.2.2⟩:Op))/\(xs.map (·.1)).Nodup
theorem vv (x:(d==Po)=false/\∃xs,PL L xs/\∃o es ep,h.get? d=some o/\o.ExactDict/\o.data=.dict es ep/\es.toList=xs.map (λx=>(⟨iY x.1,.ref x.2.1,x.2.2⟩:Op))/\(xs.map (·.1)).Nodup):
  bg P w H h d (fj d L):=by
 refine⟨x,?_,λh1 h2 ⟨y,xs,p,o,es,ep,e,r⟩ k=>⟨y,xs,p,o,es,ep,k _ e,r⟩⟩;obtain⟨_,_,_,o,_,_,e,_⟩:=x;exact⟨o,e⟩
def eU (L:QO)(k:List (List Int)):Option Int:=(L.find? λe=>decide (e.1=k)).map (·.2.2)
theorem rD:∀{L:QO}{xs:List (List (List Int)×D'×G')},PL L xs->(eU L k=none/\atKey xs k=none)\/∃n a t,eU L k=some n/\atKey xs k=some (a,.int n t)
 | _,_,.nil=>.inl ⟨rfl,rfl⟩
 | e::L,x::xs,.cons r t=>by
  obtain⟨k1,a1,n1⟩:=e;obtain⟨k2,a2,v2⟩:=x;obtain⟨h1,h2,tk,h3⟩:=r;dsimp only at h1 h2 h3;subst h1 h2 h3
  by_cases z:k1=k
  .subst z;exact .inr ⟨n1,a1,tk,by simp[eU],by simp[atKey]⟩
  .have ih:=rD (k:=k) t;have e1:eU ((k1,a1,n1)::L) k=eU L k:=by simp[eU,z]
   have e2:atKey ((k1,a1,Ov n1 tk)::xs) k=atKey xs k:=by simp[atKey,z]
   rw[e1,e2];exact ih
def jm (K:Mi)(H:Hp)(L:QO):Prop:=∀e∈L,bM.rep K H (.ref e.2.1) e.1
section
variable {σ:St} in
theorem sR (I:Inv X aa σ H s)(e:H d=some (fj d L))(hk:jm X.K H L):(d==Po)=false/\∃xs,PL L xs/\s.heap.DictOfH (hG X.prog X.w) d xs:=by
 obtain⟨⟨y,xs,p,o,es,ep,e1,e2,e3,e4,e5⟩,_⟩:=(show bg X.prog X.w H s.heap d (fj d L) from I.My d _ e)
 refine⟨y,xs,p,o,es,ep,e1,e2,e3,e4,λx hx=>?_,e5⟩;have all:∀{L:QO}{xs:List (List (List Int)×D'×G')},jm X.K H L->PL L xs->∀x∈xs,de s.heap x.1 x.2.1:=by
  intro L xs hk p
  induction p with
  | nil=>intro x hx;cases hx
  | @cons e x L xs r t ih=>
   intro z hz;rcases M0.mp hz with rfl|hz
   .have:=jY I (hk e MO);rw[r.1,r.2.1] at this;exact this
   .exact ih (λe' UD=>hk e' (Na _ UD)) z hz
 exact all hk p x hx
def CF (K:Mi):R2:=λx y H Q=>∃d L b k,y=.ref d/\x=.ref b/\H d=some (fj d L)/\jm K H L/\bM.rep K H (.ref b) k/\Q (.bl (!(eU L k).isSome)) H
theorem yw (hu:X.A.units+2<MQ):Nr X (OM .NotIn) (CF X.K):=by
 intro aa s σ H x y v u Q I rx ry h;obtain⟨d,L,b,k,rfl,rfl,e,hk,hb,q⟩:=h;cases rx;cases ry;obtain⟨hd,xs,p,dd⟩:=sR I e hk;refine wpAny_notIn_heap (knd:=hG X.prog X.w) (by show X.A.units+1+1<MQ;lia) (jY I hb) hd dd ⟨.bl (!(eU L k).isSome),H,I.tok _,?_,q⟩;show _=R0 _;rcases rD (k:=k) p with⟨z1,z2⟩|⟨n,a,t,z1,z2⟩
 .rw[z1,z2];rfl
 .rw[z1,z2];rfl
def HK (K:Mi)(td ty:TE):TE:=λσ H Q=>td σ H λx H1=>ty σ H1 λy H2=>∃d L b k n,x=.ref d/\y=.ref b/\H2 d=some (fj d L)/\jm K H2 L/\bM.rep K H2 (.ref b) k/\eU L k=some n/\Q (.int n) H2
theorem CG (hu:X.A.units+2<MQ)(ho:PE X o td)(hi:PE X i ty)(hs:sJ i):PE X (.Subscript o i pos) (HK X.K td ty):=by
 intro aa s σ H Q I h;refine kU aap.lookup hs (ME (ho aa s σ H _ I h) λu s1 ⟨x,H1,I1,rx,q1⟩=>ME (hi aa s1 σ H1 _ I1 q1) λiv s2 ⟨y,H2,I2,ry,d,L,b,k,n,ex,ey,e,hk,hb,hn,q2⟩=>?_);subst ex ey;cases rx;cases ry;obtain⟨hd,xs,p,dd⟩:=sR I2 e hk;refine⟨dd.typeIs,?_⟩;rcases rD (k:=k) p with⟨z1,z2⟩|⟨n',a,t,z1,z2⟩
 .rw[z1] at hn;cases hn
 .rw[z1] at hn;cases hn;exact wpAny_getItem_heap (knd:=hG X.prog X.w) (by show X.A.units+1+1<MQ;lia) (jY I2 hb) dd z2 ⟨.int n,H2,I2.tok _,⟨t,rfl⟩,q2⟩
def HL (K:Mi)(td ty tv:TE):TS:=λD σ H=>tv σ H λv H1=>td σ H1 λx H2=>ty σ H2 λy H3=>∃d L b k n,v=.int n/\x=.ref d/\y=.ref b/\H3 d=some (fj d L)/\jm K H3 L/\bM.rep K H3 (.ref b) k/\eU L k=none/\L.length<Mz/\
 D.nx σ (upd H3 d (fj d (L++[(k,b,n)])))
theorem CI (hu:X.A.units+2<MQ)(ho:PE X o td)(hi:PE X i ty)(hv:PE X value tv)(hs:swapsWith value (some (.Subscript o i pos')) pos.line X.env=pure false):
  PS X (.Assign [.Subscript o i pos'] value pos) (HL X.K td ty tv):=by
 intro aa s σ H D I h;refine ab3 (ME (hv aa s σ H _ I h) λr s1 ⟨v,H1,I1,rv,q1⟩=>ME (ho aa s1 σ H1 _ I1 q1) λu s2 ⟨x,H2,I2,rx,q2⟩=>ME (hi aa s2 σ H2 _ I2 q2) λiv s3 ⟨y,H3,I3,ry,d,L,b,k,n,ev,ex,ey,e,hk,hb,hn,hl,q3⟩=>?_) hs;subst ev ex ey;obtain⟨t,rfl⟩:=rv;cases rx;cases ry;obtain⟨hd,xs,p,dd⟩:=sR I3 e hk;have z2:atKey xs k=none:=by
  rcases rD (k:=k) p with⟨z1,z2⟩|⟨n',a,t',z1,z2⟩
  .exact z2
  .rw[z1] at hn;cases hn
 refine wpAny_setItem_heap (knd:=hG X.prog X.w) (hsz:=by rw[<-VZ p];lia) (by show X.A.units+1+1<MQ;lia) (jY I3 hb) dd λh' QN Pw=>⟨σ,_,?_,q3⟩
 rw[storedH_new z2] at QN;obtain⟨o',es,ep,e1,e2,e3,e4,_,e5⟩:=QN;refine I3.write (x:=d) (e:=d) (by rw[e];exact P9) (.inl rfl) (λb q hb z=>(Pw.2 b hb).trans z) ⟨_,e1⟩ (vv ⟨hd,_,cJ p (.cons ⟨rfl,rfl,t,rfl⟩ .nil),o',es,ep,e1,e2,e3,e4,e5⟩)
theorem AK:PE X (.Dict [] [] pos) (λ_ H Q=>∀p,H p=none->Q (.ref p) (upd H p (fj p []))):=λaa s σ H Q I h=>
 wpAny_Dict_empty ⟨.ref s.heap.objs.size,_,I.laid (a:=s.heap.objs.size) (o:=fj s.heap.objs.size []) (t':=s.toks) (λ_ _ q=>MZ _ q) (MJ _)
  (vv ⟨beq_eq_false_iff_ne.mpr (M' (M8 I.UC)),[],.nil,_,#[],0,NV _ rfl,⟨rfl,rfl,rfl⟩,rfl,rfl,Ue⟩),rfl,h _ (I.My.fresh (MJ _))⟩
end
section
variable {σ:St} in
theorem Inv.freeze (I:Inv X aa σ H s)(e:H a=some (.dK kvs)):∃ob,(∃es ep,ob.data=.dict es ep)/\Inv X aa σ (upd H a (.NO ob (.dK kvs))) s:=by
 obtain⟨z,hd,vs,rel,dd⟩:=jk I.My e;obtain⟨o,es,ep,ho,hc,ω,r⟩:=id dd;refine⟨o,⟨es,ep,ω⟩,?_⟩;have:=I.write (x:=a) (e:=a) (h':=s.heap) (t':=s.toks) (o:=.NO o (.dK kvs)) (by rw[e];exact P9) (.inl rfl) (λb u _ q=>q) ⟨o,ho⟩ ⟨ho,z,hd,vs,rel,dd⟩;exact this
variable {σ:St} in
theorem sS (I:Inv X aa σ H s)(e:H a=some (.NO ob (.dK kvs)))(Si:ob.data=.dict es ep):(a==Po)=false/\∃vs,KV kvs vs/\s.heap.DictAt (aL X.prog X.w) a vs ep:=by
 obtain⟨ho,z,hd,vs,rel,o',OI,QK,OC,hc,ω,r⟩:=(show bg X.prog X.w H s.heap a (.NO ob (.dK kvs)) from I.My a _ e)
 rw[ho] at OC;cases OC;rw[Si] at ω;cases ω;exact⟨hd,vs,rel,ob,es,ho,hc,Si,r⟩
end
def Itd (a:D')(ob:Mc)(kvs:List (Key×V)):It:=
 ⟨λi H=>H a=some (.NO ob (.dK kvs))/\i<kvs.length,λi H x H'=>H'=H/\∃kv,kvs[i]?=some kv/\x=kV kv.1,λi H=>H a=some (.NO ob (.dK kvs))/\kvs.length<=i⟩
theorem vw (h:(aL P w).is k u=true):ax (kV k) u:=by
 rw[wg] at h;rcases bZ h with⟨i,t,rfl,rfl⟩|⟨x,t,rfl,rfl⟩
 .exact⟨t,rfl⟩
 .exact⟨t,rfl⟩
theorem yx {K:Mi}(a it:D')(ob:Mc)(kvs:List (Key×V))(Si:ob.data=.dict es ep):
  Turn P w K tg (Itd a ob kvs) [it] it (λi h=>h.IsKeyIter it a i kvs.length ep) where
 mem:=by simp
 obj:=λi h st b hb=>by
  have e:b=it:=by simpa using hb
  subst e;obtain⟨o,e,c,d⟩:=st;exact⟨o,e,λv z=>by rw[d] at z;cases z⟩
 keep:=λi h h' st k=>st.at λo e=>k it (by simp) o e
 item:=by
  intro X hP hw hK hc i aa s σ H E I hf st hg;subst hP hw hK;obtain⟨e,hi⟩:=hg;obtain⟨hd,vs,rel,dd⟩:=sS I e Si;obtain⟨f0,f1,f2,f3,f4,f5⟩:=hf it (by simp);have hx:kvs[i]?=some kvs[i]:=Om hi;obtain⟨⟨k,v⟩,hv,hk,_⟩:=cp (F:=λ(p:Key×V) (q:Key×G')=>p.1=q.1/\ax p.2 q.2) rel hx;rw[rel.length] at st;refine wpAny_pyNext_dict_item (knd:=aL X.prog X.w) st dd hv λkey h' O5 MI sb=>?_;have I1:Inv X aa σ H { s with heap:=h' }:=I.turned (t':=s.toks) (λb o hb e=>(sb.2 b hb).trans e) f0 f1 f3 f4 f5;obtain⟨o,e',c,d⟩:=id MI;rw[<-rel.length] at MI;exact⟨key,rfl,rp (s:={ s with heap:=h' }) e' c d (by decide) ⟨kV k,H,I1,vw O5,⟨rfl,kvs[i],hx,by rw[hk]⟩,MI,λb hb=>(hf b hb).1⟩⟩
 done:=by
  intro X hP hw hK hc i aa s σ H E I hf st hg;subst hP hw hK;obtain⟨e,hi⟩:=hg;obtain⟨hd,vs,rel,dd⟩:=sS I e Si;obtain⟨f0,f1,f2,f3,f4,f5⟩:=hf it (by simp);have hl:=rel.length;rw[rel.length] at st;exact wpAny_pyNext_dict_end (knd:=aL X.prog X.w) (I.ok.hd hc) st dd (ab9 (by lia)) λh' eb=>⟨rfl,I.turned (t':=s.toks) (λb o hb e=>eb b o hb e) f0 f1 f3 f4 f5⟩
 self:=λ_ _ _ _ _ st h=>wpAny_pyIter_keyiter st h
def HM (tl:TE):TI:=λσ H R=>tl σ H λx H1=>∃a kvs,x=.ref a/\H1 a=some (.dK kvs)/\∀ob,R (Itd a ob kvs) (upd H1 a (.NO ob (.dK kvs)))
section
theorem CJ (hl:PE X l tl):PI X tg l (HM tl):=by
 intro aa s σ H R I h;refine ME (hl aa s σ H _ I h) λv s1 ⟨x,H1,I1,r1,a,kvs,ex,ea,q⟩=>?_;subst ex;cases r1;obtain⟨ob,⟨es,ep,Si⟩,I2⟩:=I1.freeze ea;obtain⟨hd,vs,rel,dd⟩:=sS I2 ag Si;refine wpAny_pyIter_dict (knd:=aL X.prog X.w) hd dd ?_;refine⟨s1.heap.objs.size,[s1.heap.objs.size],_,_,_,rfl,I2.kept (t':=s1.toks) λb o e=>MZ _ e,yx a _ ob kvs Si,⟨_,NV _ rfl,rfl,by rw[rel.length];rfl⟩,λb hb=>?_,q ob⟩;have e:b=s1.heap.objs.size:=by simpa using hb
 subst e;exact I2.X2 (MJ _) (I2.My.fresh (MJ _))
end
theorem yz (Pv:Nat->List V->Hp->Prop)(h0:Pv 0 [] H)(hl:∀i ys H,i<=kvs.length->Pv i ys H->H a=some (.NO ob (.dK kvs))/\ys.length<=i)(hz:kvs.length<=Mz)(hs:∀i kv ys H,kvs[i]?=some kv->Pv i ys H->tt (some (kV kv.1)::σ) H λb H4=>if b=true then te (some (kV kv.1)::σ) H4 λy H5=>Pv (i+1) (ys++[y]) H5 else Pv (i+1) ys H4)(hd:∀ys H p,Pv kvs.length ys H->H p=none->Q (.ref p) (upd H p (.lst ys))):kN (Itd a ob kvs) σ tt te Q H:=by
 refine⟨λi m ys H=>m=kvs.length-i/\i<=kvs.length/\Pv i ys H,⟨kvs.length,by simp,NX _,h0⟩,?_⟩;rintro i m ys H2 ⟨rfl,hi,p⟩;obtain⟨q,hn⟩:=hl i ys H2 hi p
 by_cases Nw:i<kvs.length
 .refine .inr ⟨⟨q,Nw⟩,by lia,Pv (i+1),λzs H' p'=>⟨kvs.length-(i+1),by lia,rfl,Nw,p'⟩,λx H3 y=>?_⟩;obtain⟨e,kv,y,ex⟩:=y;subst e ex;exact hs i kv ys _ y p
 .have e:i=kvs.length:=by lia
  subst e;exact .inl ⟨⟨q,MJ _⟩,by lia,λb hb=>hd ys H2 b p hb⟩
section
theorem o5 (hc:X.calm=true):cC X (.type "list") (λxs H Q=>∃p kvs,xs=[.ref p]/\H p=some (.dK kvs)/\∀l,H l=none->Q (.ref l) (upd H l (.lst (kvs.map λkv=>kV kv.1)))):=by
 intro aa s σ H xs us Q I r h;obtain⟨p,kvs,rfl,hp,q⟩:=h;obtain⟨u,rfl,ru⟩:=dw r;cases ru;obtain⟨z,hd,vs,rel,dd⟩:=jk I.My hp;obtain⟨ep,da⟩:=dd.dictAt;refine W.kdl_call (W.kdl_dict (knd:=aL X.prog X.w) hd) (I.ok.hd hc) da (by rw[<-rel.length];exact z) λh' tk OW c' hk hS X8=>?_;refine⟨.ref s.heap.objs.size,_,I.laid (o:=.lst (kvs.map λkv=>kV kv.1)) hk (MJ _) ⟨by rw[Ng];exact z,OW.toList,c',?_,by simpa using hS⟩,rfl,q _ (I.My.fresh (MJ _))⟩;refine lL (by have h1:=X8.1;have h2:=rel.length;simp;lia) λi x u e1 e2=>?_;have Tx:OW[i]?=some u:=by simpa using e2
 obtain⟨k,v,hv,RI⟩:=X8.2 i u Tx;obtain⟨kv,e3,e4,_⟩:=dX (F:=λ(p:Key×V) (q:Key×G')=>p.1=q.1/\ax p.2 q.2) rel hv;rw[O0,e3] at e1;cases e1;show ax (kV kv.1) u;rw[show kv.1=k from e4];exact vw RI
def HN:V->List V->Hp->VK->Prop:=λo vs H Q=>∃p kvs k v,o=.ref p/\vs=[kV k,v]/\H p=some (.dK kvs)/\kvs.length<Mz/\(∀y,ce kvs k=some y->Q y H)/\(ce kvs k=none->Q v (upd H p (.dK (bP kvs k v))))
theorem rg:MtR X "dict.setdefault" HN:=by
 intro aa s σ H o vs v us Q I ro rv h;obtain⟨p,kvs,k,y,rfl,rfl,hp,hl,q1,q2⟩:=h;cases ro;obtain⟨u1,u2,rfl,r1,r2⟩:=rv.two;obtain⟨z,hd,ws,rel,dd⟩:=jk I.My hp;refine call_meetsIn adG dd.typeIs PySem.F.entry_dict_setdefault (PySem.F.args_dict_setdefault_3 _ _ _) (kt_meets_setdefault (aL X.prog X.w) p (gI r1) hd u2) ⟨ws,dd,by rw[<-rel.length];exact z,λw' hw=>?_,λhn h' QN hs=>?_⟩
 .have hv:=rel.val k;rw[hw] at hv;cases e:ce kvs k with
  | none=>rw[e] at hv;exact hv.elim
  | some y'=>
   rw[e] at hv;exact⟨y',H,I.tok _,hv,q1 y' e⟩
 .have hv:=rel.val k;rw[hn] at hv;have e:ce kvs k=none:=by
   cases e:ce kvs k with
   | none=>rfl
   | some y'=>rw[e] at hv;exact hv.elim
  have he:∃q,h'.get? p=some q:=let ⟨q,_,_,hq,_⟩:=QN;⟨q,hq⟩;exact⟨y,_,kT I (by rw[hp];exact P9) hs he (ny (by have:=gw kvs k y;lia) hd (rel.put k r2) QN),r2,q2 e⟩
end
section
theorem vx:Pa κ xs 1:=λi j h1 h2=>by
 obtain rfl:i=0:=by lia
 obtain rfl:j=0:=by lia
 exact XF _
theorem CK (h:Pa κ xs x)(hx:1<=x)(hl:κ.kle (KK κ xs (x-1)) (KK κ xs x)):Pa κ xs (x+1):=λi j h1 h2=>by
 rcases Pn j x with z|z
 .exact h i j h1 z
 obtain rfl:j=x:=by lia
 rcases Pn i j with y|y
 .exact aaP (h i (j-1) (by lia) (by lia)) hl
 obtain rfl:i=j:=by lia
 exact XF _
theorem kX (h:R6 κ xs x)(hx:1<=x)(hl:κ.kle (KK κ xs x) (KK κ xs (x-1))):R6 κ xs (x+1):=λi j h1 h2=>by
 rcases Pn j x with z|z
 .exact h i j h1 z
 obtain rfl:j=x:=by lia
 rcases Pn i j with y|y
 .exact aaP hl (h i (j-1) (by lia) (by lia))
 obtain rfl:i=j:=by lia
 exact XF _
theorem sU (e:∀k,KK κ ys k=KK κ xs k)(h:R6 κ xs n):R6 κ ys n:=λi j h1 h2=>by
 have:=h i j h1 h2;rw[<-e,<-e] at this;exact this
theorem CL:R6 κ xs 1:=λi j h1 h2=>vx j i (by lia) (by lia)
theorem AL (h:R6 κ xs n)(hn:n<=xs.size):Pa κ (mirror xs 0 n ((n-0) / 2)) n:=λi j h1 h2=>by
 rw[KK_mirror hn,KK_mirror hn,Mu ⟨by lia,by lia⟩,Mu ⟨by lia,by lia⟩];exact h _ _ (by lia) (by lia)
end
structure OZ (kd)(M9)(st):Prop where
 perm:(M3 st).Perm M9
 kind:kindOf st=kd
 failed:failedOf st=none
 pend:pendingOf st=#[]
theorem OZ.sz {st:PM}(h:OZ kd M9 st):(M3 st).size=M9.size:=h.perm.size_eq
theorem OZ.arr {st:PM}(h:OZ kd M9 st)(p:xs.Perm (M3 st)):OZ kd M9 (setArr st xs):=⟨p.trans h.perm,h.kind,h.failed,h.pend⟩
section
def UE (prog:MD)(w:Mt)(A:ML)(E:G'->Md->Prop)(s:Md)(κ:aaA)(kd:XV)(M9:Array R8):Prop:=
 ∀(st:PM) (i j:Nat) (Q:Option Bool->PM->Prop),OZ kd M9 st->i<M9.size->j<M9.size->Q (some (κ.blt (KK κ (M3 st) i) (KK κ (M3 st) j))) st->wpS (Mr prog w) A E s (ltAt' i j) Q st
theorem BM (C:UE prog w A E s κ kd M9){st:PM}(hm:m<=M9.size)(ha:1<=a)(ham:a<=m)(B:OZ kd M9 st)(hs:Pa κ (M3 st) a)(h:∀n,a<=n->n<=m->Pa κ (M3 st) n->(n=m\/κ.klt (KK κ (M3 st) n) (KK κ (M3 st) (n-1)))->Q (none,n) st):wpS (Mr prog w) A E s (ascLoop a m) Q st:=by
 refine XN (λx c MI=>MI=st/\c=(none,x)/\Pa κ (M3 st) x) (λx c MI h1 h2 ⟨e1,e2,r⟩=>?_) (λc MI ⟨e1,e2,r⟩=>?_) ⟨rfl,rfl,hs⟩
 .subst e1 e2;refine Oe (C _ _ _ _ B (by lia) (by lia) ?_);cases e:κ.blt (KK κ (M3 MI) x) (KK κ (M3 MI) (x-1)) with
  | true=>exact Pi (h x h1 (by lia) r (.inr e))
  | false=>exact Pi ⟨rfl,rfl,CK r (by lia) e⟩
 .subst e1 e2;have z:max a m=m:=by lia
  rw[z] at r ⊢;exact h m ham (MJ _) r (.inl rfl)
theorem yA (C:UE prog w A E s κ kd M9){st:PM}(hm:m<=M9.size)(h1:1<=n)(hn:n<=m)(B:OZ kd M9 st)(hs:R6 κ (M3 st) n)(h:∀k MI,OZ kd M9 MI->1<=k->k<=m->Pa κ (M3 MI) k->Q (some k) MI):wpS (Mr prog w) A E s (tail3 n m) Q st:=by
 have B':=B.arr (abc (M3 st) 0 n ((n-0) / 2));exact Oe (abd (Oe (BM C hm h1 hn B' (AL hs (by rw[B.sz];lia)) λk k1 k2 r _=>Pi (h k _ B' (by lia) k2 r))))
theorem Ei (C:UE prog w A E s κ kd M9){st:PM}(hm:m<=M9.size)(h1:1<=n)(hn:n<=m)(B:OZ kd M9 st)(hs:R6 κ (M3 st) n)(h:∀k q MI,OZ kd M9 MI->n<=k->k<=m->R6 κ (M3 MI) k->q+1<=k->(∀i,k-(q+1)<=i->i<k->KK κ (M3 MI) i=KK κ (M3 MI) (k-1))->Q (none,k,q) MI):
  wpS (Mr prog w) A E s (descLoop n m) Q st:=by
 have last:∀(ys:Array R8) (k:Nat),∀i,k+1-(0+1)<=i->i<k+1->KK κ ys i=KK κ ys (k+1-1):=λys k i a b=>by
  obtain rfl:i=k:=by lia
  rfl
 refine XN (λx c MI=>∃q,c=(none,x,q)/\OZ kd M9 MI/\R6 κ (M3 MI) x/\q+1<=x/\∀i,x-(q+1)<=i->i<x->KK κ (M3 MI) i=KK κ (M3 MI) (x-1))
  (λx c MI a1 a2 ⟨q,e,B',r,hq,eq⟩=>?_) (λc MI ⟨q,e,B',r,hq,eq⟩=>?_) ⟨0,rfl,B,hs,by lia,λi a b=>by obtain rfl:i=n-1:=(by lia);rfl⟩
 .subst e;have sz:x<=(M3 MI).size:=by rw[B'.sz];lia
  refine Oe (C _ x (x-1) _ B' (by lia) (by lia) ?_);cases e:κ.blt (KK κ (M3 MI) x) (KK κ (M3 MI) (x-1)) with
  | true=>
   have r':=kX r (by lia) (aaJ e);show wpS _ _ _ _ (if q > 0 then _ else _) _ _;rcases acm q with z|z
   .rw[Mq (by lia)];exact Pi ⟨0,rfl,B',r',by lia,last _ _⟩
   .rw[Mu z];exact Oe (abd (Pi ⟨0,rfl,B'.arr (abc _ _ _ _),sU (acD sz eq) r',by lia,last _ _⟩))
  | false=>
   refine Oe (C _ (x-1) x _ B' (by lia) (by lia) ?_);cases e2:κ.blt (KK κ (M3 MI) (x-1)) (KK κ (M3 MI) x) with
   | true=>exact Pi (h x q MI B' a1 (by lia) r hq eq)
   | false=>
    have one:KK κ (M3 MI) x=KK κ (M3 MI) (x-1):=aer e2 e;refine Pi ⟨q+1,rfl,B',kX r (by lia) e2,by lia,λi b1 b2=>?_⟩;rw[show x+1-1=x from rfl];rcases Pn i x with z|z
    .rw[one];exact eq i (by lia) z
    .obtain rfl:i=x:=by lia
     rfl
 .subst e;have z:max n m=m:=by lia
  rw[z] at r hq eq ⊢;exact h m q MI B' hn (MJ _) r hq eq
theorem yB (C:UE prog w A E s κ kd M9){st:PM}(hm:m<=M9.size)(hn:n+1<=m)(B:OZ kd M9 st)(hs:R6 κ (M3 st) (n+1))(h:∀k MI,OZ kd M9 MI->1<=k->k<=m->Pa κ (M3 MI) k->Q (some k) MI):wpS (Mr prog w) A E s (descPart n m) Q st:=by
 refine Oe (wpS_lift (Qa ⟨rfl,Oe (Ei C hm (by lia) hn B hs λk q MI B' k1 k2 r hq eq=>?_)⟩));show wpS _ _ _ _ (if q > 0 then _ else _) _ _;rcases acm q with z|z
 .rw[Mq (by lia)];exact yA (n:=k) C hm (by lia) k2 B' r h
 .rw[Mu z];exact Oe (abd (yA (n:=k) C hm (by lia) k2 (B'.arr (abc _ _ _ _)) (sU (acD (j:=k) (by rw[B'.sz];lia) eq) r) h))
theorem HP (C:UE prog w A E s κ kd M9){st:PM}(hm:m<=M9.size)(h1:1<=m)(B:OZ kd M9 st)(h:∀k MI,OZ kd M9 MI->1<=k->k<=m->Pa κ (M3 MI) k->Q (some k) MI):wpS (Mr prog w) A E s (countRun' 0 m) Q st:=by
 rw[countRun0_eq];refine Oe (BM C hm (MJ 1) h1 B vx λn n1 n2 r o=>?_);dsimp only;rcases Pn n m with z|z
 case inr=>
  rw[Mu (by simp;lia)];exact Pi (h n st B n1 n2 r)
 rw[Mq (by simp;lia)];have less:κ.klt (KK κ (M3 st) n) (KK κ (M3 st) (n-1)):=o.resolve_left (by lia);rcases Pn 1 n with y|y
 case inr=>
  rw[Mq (by lia)];obtain rfl:n=1:=by lia
  exact yB C hm (by lia) B (kX CL (MJ 1) (aaJ less)) h
 rw[Mu y];refine Oe (C _ _ _ _ B (by lia) (by lia) ?_);cases e:κ.blt (KK κ (M3 st) 0) (KK κ (M3 st) (n-1)) with
 | true=>exact Pi (h n st B n1 n2 r)
 | false=>
  have all:∀k,0<=k->k<n->KK κ (M3 st) k=KK κ (M3 st) (n-1):=λk _ hk=>
   aer (r k (n-1) (by lia) (by lia)) (aaP (show κ.kle _ _ from e) (r 0 k (by lia) hk))
  have f1:R6 κ (M3 st) n:=λi j a b=>by
   rw[all i (by lia) (by lia),all j (by lia) b];exact XF _
  exact Oe (abd (yB C hm (by lia) (B.arr (abc _ _ _ _)) (sU (acD (by rw[B.sz];lia) all) (kX f1 n1 (aaJ less))) h))
theorem CM (h:Pa κ xs k)(hk:k<xs.size)(hl:l<=k)(lo:∀i,i<l->κ.kle (KK κ xs i) (KK κ xs k))(hi:∀i,l<=i->i<k->κ.klt (KK κ xs k) (KK κ xs i)):
  Pa κ (bubble xs k (k-l)) (k+1):=by
 have at_:∀i,i<k+1->KK κ (bubble xs k (k-l)) i=if i<l then KK κ xs i else if i=l then KK κ xs k else KK κ xs (i-1):=λi OK=>by
  rw[KK_bubble hk (by lia),show k-(k-l)=l by lia];rcases Xz i l with z|z|z
  .rw[Mq (by lia),Mq (by lia),Mu z]
  .rw[Mu z,Mq (by lia),Mu z]
  .rw[Mq (by lia),Mu (by lia),Mq (by lia),Mq (by lia)]
 intro i j h1 h2;rw[at_ i (by lia),at_ j h2];rcases Xz j l with z|z|z
 .rw[Mu (by lia),Mu z];exact h i j h1 (by lia)
 .rw[Mq (show ¬j<l by lia),Mu z];rcases Pn i l with y|y
  .rw[Mu y];exact lo i y
  .rw[Mq (by lia),Mu (by lia)];exact XF _
 .rw[Mq (show ¬j<l by lia),Mq (show ¬j=l by lia)];rcases Xz i l with y|y|y
  .rw[Mu y];exact h i (j-1) (by lia) (by lia)
  .rw[Mq (by lia),Mu y];exact aaJ (hi (j-1) (by lia) (by lia))
  .rw[Mq (by lia),Mq (by lia)];exact h (i-1) (j-1) (by lia) (by lia)
theorem AM (C:UE prog w A E s κ kd M9){st:PM}(hn:n<=M9.size)(Ty:1<=ok)(My:ok<=n)(B:OZ kd M9 st)(hs:Pa κ (M3 st) ok)(h:∀MI,OZ kd M9 MI->Pa κ (M3 MI) n->Q true MI):wpS (Mr prog w) A E s (binarySort' 0 n ok) Q st:=by
 rw[binarySort'_eq];simp only[aa3];have m1:max ok 1=ok:=by lia
 rw[m1];refine Oe (wpS_mono (XN (λk c MI=>c=(none,())/\OZ kd M9 MI/\Pa κ (M3 MI) k) (Q:=λc MI=>c=(none,())/\OZ kd M9 MI/\Pa κ (M3 MI) n)
  (λk c MI k1 k2 ⟨e,B',r⟩=>?step) (λc MI ⟨e,B',r⟩=>?fin) ⟨rfl,B,hs⟩) λc MI ⟨e,B',r⟩=>?post)
 case step=>
  subst e;refine Oe (wpS_mono (XN (λx c Oi=>Oi=MI/\∃l u,c=(none,l,u)/\l<=u/\u<=k/\u-l<=k-x/\(∀i,i<l->κ.kle (KK κ (M3 MI) i) (KK κ (M3 MI) k))/\∀i,u<=i->i<k->κ.klt (KK κ (M3 MI) k) (KK κ (M3 MI) i))
   (Q:=λc Oi=>Oi=MI/\∃l u,c=(none,l,u)/\l<=k/\(∀i,i<l->κ.kle (KK κ (M3 MI) i) (KK κ (M3 MI) k))/\∀i,l<=i->i<k->κ.klt (KK κ (M3 MI) k) (KK κ (M3 MI) i))
   (λx c Oi _ x2 ⟨e1,l,u,e2,p1,p2,p3,lo,hi⟩=>?abu) (λc Oi ⟨e1,l,u,e2,p1,p2,p3,lo,hi⟩=>?afw) ⟨rfl,0,k,rfl,by lia,by lia,by lia,λi z=>by lia,λi z1 z2=>by lia⟩) λc Oi ⟨e1,l,u,e2,p1,lo,hi⟩=>?abv)
  case abu=>
   subst e1 e2;dsimp only;rcases Pn l u with z|z
   case inr=>
    rw[Mu z];obtain rfl:l=u:=by lia
    exact Pi ⟨rfl,l,l,rfl,p2,lo,hi⟩
   rw[Mq (by lia)];have mid:l<=(l+u) / 2/\(l+u) / 2<u:=by lia
   refine Oe (C _ k ((l+u) / 2) _ B' (by lia) (by lia) ?_);cases e:κ.blt (KK κ (M3 Oi) k) (KK κ (M3 Oi) ((l+u) / 2)) with
   | true=>exact Pi ⟨rfl,l,(l+u) / 2,rfl,by lia,by lia,by lia,lo,λi z1 z2=>KeyOrd.klt_of_klt_of_kle e (r _ _ z1 z2)⟩
   | false=>exact Pi ⟨rfl,(l+u) / 2+1,u,rfl,by lia,by lia,by lia,λi z=>aaP (r i ((l+u) / 2) (by lia) (by lia)) e,hi⟩
  case afw=>
   subst e1 e2;have z:max 0 k=k:=by lia
   rw[z] at p3;obtain rfl:l=u:=by lia
   exact⟨rfl,l,l,rfl,p2,lo,hi⟩
  case abv=>
   subst e1 e2;show wpS _ _ _ _ (do moveDown' k l;pure (VT (none,()))) _ _;rw[moveDown'_eq];exact Oe (wpS_modify (Pi ⟨rfl,B'.arr (bubble_perm _ _ _),CM r (by rw[B'.sz];lia) p1 lo hi⟩))
 case fin=>
  subst e;have z:max ok n=n:=by lia
  rw[z] at r;exact⟨rfl,B',r⟩
 case post=>
  subst e;exact Pi (h MI B' r)
theorem Ej (C:UE prog w A E s κ kd M9){st:PM}(B:OZ kd M9 st)(h2:2<=M9.size)(SI:M9.size<64)(h:∀MI,(M3 MI).Perm M9->failedOf MI=none->Pa κ (M3 MI) M9.size->Q () MI):wpS (Mr prog w) A E s sortRuns' Q st:=by
 let Fin:PM->Prop:=λMI=>(M3 MI).Perm M9/\failedOf MI=none/\pendingOf MI=#[(0,M9.size,0)]/\Pa κ (M3 MI) M9.size;have fin:∀MI,OZ kd M9 MI->Pa κ (M3 MI) M9.size->Fin (setPending MI ((pendingOf MI).push (0,M9.size,0))):=λMI B' r=>⟨B'.perm,B'.failed,by show(pendingOf MI).push _=_;rw[B'.pend];rfl,r⟩
 have mr:minRun' M9.size M9.size 0=M9.size:=by
  obtain⟨f,hf⟩:∃f,M9.size=f+1:=⟨M9.size-1,by lia⟩
  have q:minRun' (f+1) M9.size 0=M9.size+0:=by rw[minRun'_succ,Mu SI]
  rw[<-hf] at q;exact q
 rw[sortRuns'_eq];refine Oe (XX ?_);dsimp only;simp only[B.sz,mr];refine Oe (wpS_mono (XN (λx c MI=>(x=0/\c=(none,0)/\OZ kd M9 MI)\/(1<=x/\c=(none,M9.size)/\Fin MI)) (Q:=λc MI=>c=(none,M9.size)/\Fin MI)
  (λx c MI _ x2 o=>?step) (λc MI o=>?fin) (.inl ⟨rfl,rfl,B⟩)) λc MI ⟨e,F⟩=>?post)
 case step=>
  rcases o with⟨e0,e,B'⟩|⟨x1,e,F⟩
  .subst e0 e;dsimp only;rw[Mq (by lia)];simp only[Nat.sub_zero,Nat.min_self,aa3];refine Oe (HP C (MJ _) (by lia) B' λk Oi B2 k1 k2 r=>?_);dsimp only;have go:∀Pc,OZ kd M9 Pc->Pa κ (M3 Pc) M9.size->(pendingOf Pc).back?=none/\Fin (setPending Pc ((pendingOf Pc).push (0,M9.size,0))):=λPc B3 r3=>⟨by rw[B3.pend];rfl,fin Pc B3 r3⟩
   rcases Pn k M9.size with z|z
   .rw[Mu z];refine Oe (wpS_lift (Qa ⟨rfl,Oe (AM C (MJ _) k1 k2 B2 r λPc B3 r3=>?_)⟩));simp only[QX,NT,if_false];refine Oe (XX ?_);rw[(go Pc B3 r3).1];exact Oe (wpS_modify (Pi (.inr ⟨by lia,rfl,(go Pc B3 r3).2⟩)))
   .rw[Mq (by lia)];obtain rfl:k=M9.size:=by lia
    refine Oe (XX ?_);rw[(go Oi B2 r).1];exact Oe (wpS_modify (Pi (.inr ⟨by lia,rfl,(go Oi B2 r).2⟩)))
  .subst e;dsimp only;rw[Mu (MJ _)];exact Pi ⟨rfl,F⟩
 case fin=>
  rcases o with⟨x0,_⟩|⟨_,e,F⟩
  .omega
  .exact⟨e,F⟩
 case post=>
  subst e;refine Oe (wpS_mono (XN (λ_ c Oi=>Oi=MI/\c=(none,())) (Q:=λc Oi=>Oi=MI/\c=(none,())) (λx c Oi _ _ ⟨e1,e2⟩=>?abu) (λ_ _ q=>q) ⟨rfl,rfl⟩) λc Oi ⟨e1,e2⟩=>?abv)
  case abu=>
   subst e1 e2;refine Oe (XX ?_);rw[Mu (by rw[F.2.2.1];exact MJ 1)];exact Pi ⟨rfl,rfl⟩
  case abv=>
   subst e1 e2;exact Pi (h _ F.1 F.2.1 F.2.2.2)
end
theorem nB:∀a:List Int,HT.bS a a=false
 | []=>rfl
 | x::a=>by rw[HT.eF,Mu rfl];exact nB a
theorem jZ:∀(a b c:List Int),HT.bS a b=true->HT.bS b c=true->HT.bS a c=true
 | [],[],_,h,_=>by cases h
 | [],_::_,[],_,h=>by cases h
 | [],_::_,_::_,_,_=>rfl
 | _::_,[],_,h,_=>by cases h
 | _::_,_::_,[],_,h=>by cases h
 | x::a,y::b,z::c,h1,h2=>by
  rw[HT.eF] at h1 h2 ⊢
  by_cases e1:x=y
  .subst e1;rw[Mu rfl] at h1
   by_cases e2:x=z
   .subst e2;rw[Mu rfl] at h2 ⊢;exact jZ a b c h1 h2
   .rw[Mq e2] at h2 ⊢;exact h2
  .rw[Mq e1] at h1;have h1:=S9 h1
   by_cases e2:y=z
   .subst e2;rw[Mq e1];exact M6 h1
   .rw[Mq e2] at h2;have h2:=S9 h2;rw[Mq (by lia)];exact M6 (by lia)
theorem j0:∀(a b:List Int),HT.bS a b=false->HT.bS b a=false->a=b
 | [],[],_,_=>rfl
 | [],_::_,h,_=>by cases h
 | _::_,[],_,h=>by cases h
 | x::a,y::b,h1,h2=>by
  rw[HT.eF] at h1 h2
  by_cases e:x=y
  .subst e;rw[Mu rfl] at h1 h2;rw[j0 a b h1 h2]
  .rw[Mq e] at h1;rw[Mq (λz=>e z.symm)] at h2;have h1:=of_decide_eq_false h1;have h2:=of_decide_eq_false h2;lia
theorem CP (a b c)(h:HT.bS a c=true):HT.bS a b=true\/HT.bS b c=true:=by
 cases e:HT.bS a b with
 | true=>exact .inl rfl
 | false=>
  refine .inr ?_;cases e2:HT.bS b a with
  | true=>exact jZ b a c e2 h
  | false=>rw[<-j0 a b e e2];exact h
def gA (kf:G'->List Int):aaA where
 α:=List Int
 blt:=HT.bS
 irrefl:=nB
 trans:=jZ
 negTrans:=CP
 total:=j0
 keyOf:=λv=>some (kf v)
 dflt:=[]
theorem sV (h:i<xs.size):KK (gA kf) xs i=kf xs[i].1:=by
 unfold KK;rw[getElem?_pos xs i h];rfl
section
theorem sW (f)(x y):keyLt' (tuples' f) x y=(do
  let xs <-ab4 x;let ys <-ab4 y
  for ((p,q),i) in (xs.toList.zip ys.toList).zipIdx do
   if !(<-eqBool p q) then return <-oneLt' (f&&i==0) p q
  return decide (xs.size<ys.size)):=rfl
theorem wM (h:Q (decide (a<b)) s):Ml (Mr prog w) A (oneLt' f (.int a t) (.int b u)) Q E s:=by
 cases f with
 | true=>exact oneLt_int h
 | false=>
  rw[oneLt'_eq];simp only[NT,if_false];exact Mf (lt_int (Q9 h))
abbrev Ek (v:G')(k:Int):Prop:=∃t,v=Ov k t
theorem AN (x:bI s.heap ks a)(y:bI s.heap N8 b)(h:Q (HT.bS ks N8) s):Ml (Mr prog w) A (keyLt' (tuples' f) (.ref a) (.ref b)) Q E s:=by
 obtain⟨xs,⟨o,e,_,n,d⟩,r⟩:=x;obtain⟨ys,⟨o',e',_,n',d'⟩,r'⟩:=y;rw[sW];refine Mf (XM e d (Mf (XM e' d' (Mf ?_))));refine Rb _ (λrest r s'=>r.1=none/\s'=s/\∃(x' y':List Int) (us vs:List G') (i:Nat),rest=(us.zip vs).zipIdx i/\MC Ek us x'/\MC Ek vs y'/\HT.bS x' y'=HT.bS ks N8/\decide (us.length<vs.length)=decide (xs.size<ys.size))
  _ ?turn ?fin _ _ ⟨rfl,rfl,ks,N8,xs.toList,ys.toList,0,rfl,r,r',rfl,by simp⟩
 case turn=>
  rintro⟨⟨p,q⟩,j⟩ rest c s' ⟨_,e1,x',y',us,vs,i,e2,p1,p2,le,ll⟩;subst e1;cases p1 with
  | nil=>simp at e2
  | @cons u k us' x'' hu p1'=>
   cases p2 with
   | nil=>simp at e2
   | @cons v k' Wt y'' hv p2'=>
    rw[Xq,List.zipIdx_cons] at e2;injection e2 with e3 e4
    cases e3;obtain⟨t,rfl⟩:=hu;obtain⟨t',rfl⟩:=hv;rw[HT.eF] at le;refine Mf (wpAny_eqBool_int ?_)
    by_cases z:k=k'
    .subst z;rw[Mu rfl] at le;rw[Mq (by simp)];exact Mm ⟨rfl,rfl,x'',y'',us',Wt,_,e4,p1',p2',le,by rw[<-ll];simp⟩
    .rw[Mq z] at le;rw[Mu (by simpa using z)];refine Mf (wM ?_);rw[le];exact Mm (Mm h)
 case fin=>
  rintro⟨c1,c2⟩ s' ⟨e0,e1,x',y',us,vs,i,e2,p1,p2,le,ll⟩;simp only at e0;subst e0 e1;have z:decide (xs.size<ys.size)=HT.bS ks N8:=by
   rw[<-le,<-ll];cases p1 with
   | nil=>cases p2 with
    | nil=>rfl
    | cons _ _=>simp[HT.oH]
   | cons _ _=>cases p2 with
    | nil=>simp[HT.oI]
    | cons _ _=>rw[Xq,List.zipIdx_cons] at e2;cases e2
  show Ml _ _ (pure (decide (xs.size<ys.size))) _ _ _;rw[z];exact Mm h
noncomputable def bW (h:Mp)(v:G'):List Int:=@dite (List Int) (∃ks,∃a,v=.ref a/\bI h ks a) (aav _) (λz=>Classical.choose z) λ_=>[]
theorem eK (x:bI h ks a):bW h (.ref a)=ks:=by
 have z:∃ks,∃b,Nd a=.ref b/\bI h ks b:=⟨ks,a,rfl,x⟩
 unfold bW;rw[dif_pos z];obtain⟨b,e,q⟩:=Classical.choose_spec z;cases e;exact q.inj x
abbrev jn (h:Mp)(v:G')(ks:List Int):Prop:=∃a,v=Nd a/\bI h ks a
theorem sX:∀{vs:List G'}{M7:List (List Int)},MC (jn h) vs M7->vs.map (bW h)=M7
 | _,_,.nil=>rfl
 | _,_,.cons ⟨a,e,x⟩ t=>by rw[Nt,sX t,e,eK x]
theorem CQ (p:MC (jn s.heap) vs M7):UE prog w A E s (gA (bW s.heap)) (tuples' f) (pairsOf vs):=by
 intro st i j Q B hi hj h;have at_:∀k,(hk:k<(pairsOf vs).size)->∃v b ks,(M3 st)[k]?=some (v,b)/\jn s.heap v ks/\KK (gA (bW s.heap)) (M3 st) k=ks:=λk hk=>by
  have RI:k<(M3 st).size:=by rw[B.sz];exact hk
  have hm:(M3 st)[k]∈(pairsOf vs).toList:=(abP.mp B.perm).mem_iff.mp (by simp);rw[acK] at hm;have hv:=(mem_zip_self hm).2;obtain⟨ks,_,a,e,x⟩:=eT p _ hv;refine⟨(M3 st)[k].1,(M3 st)[k].2,ks,RV RI,⟨a,e,x⟩,?_⟩;rw[sV RI,e,eK x]
 obtain⟨v1,b1,k1,e1,⟨a1,rfl,x1⟩,q1⟩:=at_ i hi;obtain⟨v2,b2,k2,e2,⟨a2,rfl,x2⟩,q2⟩:=at_ j hj;rw[q1,q2] at h;rw[ltAt'_eq];refine Oe (XX ?_);show wpS _ _ _ _ (do let x <-elem' (M3 st) i;let y <-elem' (M3 st) j;lt' x y) Q st;rw[elem'_eq,elem'_eq,e1,e2];refine Oe (Pi (Oe (Pi ?_)));rw[lt'_eq];refine Oe (XX ?_);rw[B.kind];exact Oe (wpS_lift (acT (AN x1 x2 ⟨rfl,Pi h⟩)))
variable {A:ML}{E:G'->Md->Prop}{s:Md} in
theorem vy {α β:Type}{f:α->Pb β}{R:α->β->Prop}{M:Tl}:∀(l:List α) {Q:List β->Md->Prop},(∀v∈l,∀Q':β->Md->Prop,(∀b,R v b->Q' b s)->Ml M A (f v) Q' E s)->(∀bs,MC R l bs->Q bs s)->Ml M A (l.mapM f) Q E s
 | [],Q,_,h=>by rw[List.mapM_nil];exact Mm (h [] .nil)
 | a::l,Q,hf,h=>by
  rw[List.mapM_cons];refine Mf (hf a MO _ λb hb=>?_);exact Mf (vy l (λv hv=>hf v (Na _ hv)) λbs hbs=>Mm (h _ (.cons hb hbs)))
theorem AO (v):firstOfTuple' v=(do
  if (<-typeOf v) != .type "tuple" then return none
  return (<-ab4 v)[0]?):=rfl
theorem AQ (x:bI s.heap ks a)(NI:ks≠[])(h:∀k t,Q (some (.int k t)) s):Ml (Mr prog w) A (firstOfTuple' (.ref a)) Q E s:=by
 obtain⟨xs,tp,r⟩:=x;have hT:=fN tp;obtain⟨o,e,c,n,d⟩:=tp;rw[AO];refine Mf (V6 hT ?_);rw[Mq (by simp)];refine Mf (XM e d (Mm ?_));cases ks with
 | nil=>exact Mw rfl NI
 | cons k ks=>
  obtain⟨v,e1,t,e2⟩:=dX (i:=0) (b:=k) r rfl;have:xs[0]?=some v:=by rw[<-S7];exact e1
  rw[this,e2];exact h k t
theorem vz:∀{l:List G'}{fs:List (Option G')},MC (λ_ o=>∃k t,o=some (Ov k t)) l fs->fs.all (·.isSome)=true/\∃ns,Ry (fs.filterMap id) ns/\ns.length=l.length
 | _,_,.nil=>⟨rfl,[],.nil,rfl⟩
 | _,_,.cons ⟨k,t,e⟩ r=>by
  obtain⟨h1,ns,h2,h3⟩:=vz r;subst e;exact⟨by simpa using h1,k::ns,.cons k t h2,by simp[h3]⟩
theorem AR (p:MC (jn s.heap) (QI::QJ::vs) M7)(NI:∀ks∈M7,ks≠[])(h:Q (tuples' true) s):
  Ml (Mr prog w) A (keyKind' (QI::QJ::vs).toArray) Q E s:=by
 rw[keyKind'_eq,List.mapM_toArray];refine Mf (wpAny_map (vy (R:=λ_ o=>∃k t,o=some (Ov k t)) _ (λv hv Q' q=>?_) λfs hfs=>?_))
 .obtain⟨ks,hk,a,e,x⟩:=eT p v hv;subst e;exact AQ x (NI ks hk) λk t=>q _ ⟨k,t,rfl⟩
 .obtain⟨h1,ns,h2,h3⟩:=vz hfs;rw[Mu (by simpa using h1)];refine Mf (Qa ?_);rw[oneTypeOnly'_eq];have e:(List.toArray fs).filterMap id=(fs.filterMap id).toArray:=by simp
  rw[e,List.mapM_toArray,mapM_typeOf_ints h2];simp only[map_pure,pure_bind];cases z:fs.filterMap id with
  | nil=>
   rw[z] at h2;cases h2;simp at h3
  | cons f0 fr=>
   have z0:(List.map (λ_=>QE "int") (f0::fr)).toArray[0]?=some (QE "int"):=by simp
   have z1:((List.map (λ_=>QE "int") (f0::fr)).toArray.all λx=>x==QE "int")=true:=by
    simp only[List.all_toArray,List.all_map,Sq];intro _ _;rfl
   rw[z0];simp only[z1,if_true,pure_bind];exact Mm h
end
abbrev j1 (M7:List (List Int)):Prop:=M7.Pairwise λa b=>HT.bS b a=false
section
theorem vA (x:bI h ks a)(ho:h.get? d=some o)(hc:o.cls≠.type "tuple")(k:∀b u,b≠d->h.get? b=some u->h'.get? b=some u):bI h' ks a:=by
 obtain⟨i,⟨o',e,c,n,d'⟩,r⟩:=x;refine⟨i,⟨o',k a o' ?_ e,c,n,d'⟩,r⟩;rintro rfl;rw[e] at ho;cases ho;exact hc c
theorem CS (hp:xs.Perm (pairsOf vs))(hs:Pa (gA (bW h)) xs (pairsOf vs).size):(xs.map (·.2)).toList.Perm vs/\j1 ((xs.map (·.2)).toList.map (bW h)):=by
 have same:∀q∈xs.toList,q.1=q.2:=λq hq=>(mem_zip_self (by rw[<-acK];exact(abP.mp hp).mem_iff.mp hq)).1;have e1:(xs.map (·.2)).toList=xs.toList.map (·.2):=by simp
 have e2:(pairsOf vs).toList.map (·.2)=vs:=by
  rw[acK];exact List.map_snd_zip (by simp)
 refine⟨?_,?_⟩
 .rw[e1];have:=(abP.mp hp).map (·.2);rw[e2] at this;exact this
 .rw[e1,Z3];unfold j1;rw[adX];intro i j hi hj hij;rw[Ng] at hi hj;have OK:i<xs.size:=by simpa using hi
  have Vo:j<xs.size:=by simpa using hj
  have z:=hs i j (by lia) (by rw[<-hp.size_eq];exact Vo);have z:HT.bS (KK (gA (bW h)) xs j) (KK (gA (bW h)) xs i)=false:=z;rw[sV OK,sV Vo] at z;have s1:=same xs[i] (by simp);have s2:=same xs[j] (by simp);rw[s1,s2] at z;simpa using z
theorem sY (ho:s.heap.get? a=some (M5 "list" vs.toArray n))(p:MC (jn s.heap) vs M7)(NI:∀ks∈M7,ks≠[])(SI:vs.length<64)(h:∀out:Array G',out.toList.Perm vs->j1 (out.toList.map (bW s.heap))->P (.done (.ret .none)) { s with heap:=sortedHeap s.heap a vs out }):Ml (Mr prog w) A (PH.«list.sort» ⟨[.ref a],[]⟩) P E s:=by
 have lt:a<s.heap.objs.size:=MS ho;obtain⟨e1,o1⟩:∃e1,(s.heap.update a (OU λ_=>#[])).get? a=some (M5 "list" #[] e1):=⟨_,XE ho _⟩
 have o2:(((s.heap.update a (OU λ_=>#[])).push (M5 "tuple" vs.toArray 0)).push (M5 "list" #[] 0)).get? a=some (M5 "list" #[] e1):=MZ _ (MZ _ o1);have keep:∀b u,b≠a->s.heap.get? b=some u->(((s.heap.update a (OU λ_=>#[])).push (M5 "tuple" vs.toArray 0)).push (M5 "list" #[] 0)).get? b=some u:=λb u hb q=>
  MZ _ (MZ _ ((S0 _ _ (M' hb)).trans q))
 have p':MC (jn (((s.heap.update a (OU λ_=>#[])).push (M5 "tuple" vs.toArray 0)).push (M5 "list" #[] 0))) vs M7:=aD (λ_ _ ⟨b,e,x⟩=>⟨b,e,vA x ho (by simp) keep⟩) p;have kf:∀v∈vs,bW (((s.heap.update a (OU λ_=>#[])).push (M5 "tuple" vs.toArray 0)).push (M5 "list" #[] 0)) v=bW s.heap v:=λv hv=>by
  obtain⟨ks,_,b,e,x⟩:=eT p v hv;rw[e,eK x,eK (vA x ho (by simp) keep)]
 have fin:∀xs:Array R8,xs.Perm (pairsOf vs)->Pa (gA (bW (((s.heap.update a (OU λ_=>#[])).push (M5 "tuple" vs.toArray 0)).push (M5 "list" #[] 0)))) xs (pairsOf vs).size->
   P (.done (.ret .none)) { s with heap:=sortedHeap s.heap a vs (xs.map (·.2)) }:=λxs hp hs=>by
  obtain⟨q1,q2⟩:=CS hp hs;refine h _ q1 ?_;have e:(xs.map (·.2)).toList.map (bW s.heap)=(xs.map (·.2)).toList.map (bW (((s.heap.update a (OU λ_=>#[])).push (M5 "tuple" vs.toArray 0)).push (M5 "list" #[] 0))):=
   Xm λv hv=>(kf v (q1.mem_iff.mp hv)).symm
  rw[e];exact q2
 have sz:∀xs:Array R8,xs.Perm (pairsOf vs)->((λ(_:Array G')=>xs.map (·.2)) #[]).size<=Mz+1:=λxs hp=>by
  show(xs.map (·.2)).size<=_;rw[Array.size_map,hp.size_eq,aa7,Nf];lia
 rw[list_sort_plain];refine Mf (XM ho rfl (Mf (aaX ho rfl (Mf (seqEpoch_at o1 rfl (Mf (wpAny_newTuple (Mf (V1 (O2 ?_)))))) ) ?_ ?_)))
 case refine_2=>rw[ND,Nf];lia
 case refine_3=>show(#[]:Array G').size<=_;simp
 show Ml (Mr prog w) A _ P E { s with heap:=((s.heap.update a (OU λ_=>#[])).push (M5 "tuple" vs.toArray 0)).push (M5 "list" #[] 0) };dsimp only
 by_cases h2:vs.toArray.size<2
 .rw[Mu h2,Mu h2];refine Mf (Mm ?_);rw[StateT.run_pure];refine Mf (Mm (Mf (seqEpoch_at o2 rfl (Mf (aaX o2 rfl ?_ (NX _) (sz (pairsOf vs) (acE _)))))));simp only[bne_self_eq_false,NT,if_false];refine Mm (fin (pairsOf vs) (acE _) λi j h1 h3=>?_);rw[aa7] at h3;have h2:vs.length<2:=by simpa using h2
  obtain rfl:i=j:=by lia
  exact XF _
 .rw[Mq h2,Mq h2];have h2:2<=vs.length:=by simpa using h2
  obtain⟨QI,QJ,rest,rfl⟩:∃QI QJ rest,vs=QI::QJ::rest:=by
   match vs,h2 with
   | [],h2=>simp at h2
   | [_],h2=>simp at h2
   | QI::QJ::rest,_=>exact⟨QI,QJ,rest,rfl⟩
  refine Mf (AR (s:={ s with heap:=((s.heap.update a (OU λ_=>#[])).push (M5 "tuple" (QI::QJ::rest).toArray 0)).push (M5 "list" #[] 0) }) p' NI ?_);refine Mf (QZ (Ej (CQ p') (st:=PM.mk' (tuples' true) ((QI::QJ::rest).toArray.zip (QI::QJ::rest).toArray) #[] 7 none)
   (Q:=λ_ MI=>(M3 MI).Perm (pairsOf (QI::QJ::rest))/\failedOf MI=none/\Pa (gA (bW _)) (M3 MI) (pairsOf (QI::QJ::rest)).size)
   ⟨acE _,rfl,rfl,rfl⟩ (by rw[aa7];exact h2) (by rw[aa7];exact SI) λMI a1 a2 a3=>⟨a1,a2,a3⟩) ?_ λ_ _ e=>e)
  rintro⟨⟨⟩,MI⟩ s' ⟨rfl,hp,hf,hs⟩;dsimp only;refine Mf (seqEpoch_at o2 rfl (Mf (aaX o2 rfl ?_ (NX _) (sz (M3 MI) hp))));rw[hf];simp only[bne_self_eq_false,NT,if_false];exact Mm (fin (M3 MI) hp hs)
theorem uU (hl:s.heap.IsList l vs.toArray)(p:MC (jn s.heap) vs M7)(NI:∀ks∈M7,ks≠[])(SI:vs.length<64)(h:∀out:Array G',out.toList.Perm vs->j1 (out.toList.map (bW s.heap))->Q (.ref (s.heap.objs.size+1)) { s with heap:=sortedAll s.heap vs out }):Ml (Mr prog w) A (call (.builtin "sorted") [.ref l]) Q E s:=by
 refine aao abb aa4 aa5 (aa6 _) ?_;have hz:((s.heap.push (M5 "list" #[] 0)).update s.heap.objs.size (OU (·++vs.toArray))).objs.size=s.heap.objs.size+1:=by rw[Mp.size_update,size_push']
 have hL:(((s.heap.push (M5 "list" #[] 0)).update s.heap.objs.size (OU (·++vs.toArray))).push (M5 "list" vs.toArray 0)).get? (s.heap.objs.size+1)=some (M5 "list" vs.toArray 0):=by
  rw[<-hz];exact NV _ rfl
 have kp:∀b u,s.heap.get? b=some u->(((s.heap.push (M5 "list" #[] 0)).update s.heap.objs.size (OU (·++vs.toArray))).push (M5 "list" vs.toArray 0)).get? b=some u:=λb u q=>
  MZ _ ((S0 _ _ (Su (MS q))).trans (MZ _ q))
 have up:∀{ks:List Int}{b:D'},bI s.heap ks b->bI (((s.heap.push (M5 "list" #[] 0)).update s.heap.objs.size (OU (·++vs.toArray))).push (M5 "list" vs.toArray 0)) ks b:=λ⟨i,⟨o,e,c,n,d⟩,r⟩=>⟨i,⟨o,kp _ _ e,c,n,d⟩,r⟩
 unfold PH.«sorted»;refine Mf (m:=checkCount "sorted" 1 1 _) (Mm (Mf (collect_list hl (Mf (V1 ?_)) (by rw[Nf];lia))));show Ml _ _ _ _ _ { s with heap:=((s.heap.push (M5 "list" #[] 0)).update s.heap.objs.size (OU (·++vs.toArray))).push (M5 "list" vs.toArray 0) };rw[hz];refine Mf (O2 (Ra aam ⟨_,hL,rfl⟩ aak (sY hL (aD (λ_ _ ⟨b,e,x⟩=>⟨b,e,up x⟩) p) NI SI λout q1 q2=>⟨_,rfl,Mm ⟨_,rfl,h out q1 ?_⟩⟩) (aaT _)));have e:out.toList.map (bW s.heap)=out.toList.map (bW (((s.heap.push (M5 "list" #[] 0)).update s.heap.objs.size (OU (·++vs.toArray))).push (M5 "list" vs.toArray 0))):=Xm λv hv=>by
  obtain⟨ks,_,b,e,x⟩:=eT p v (q1.mem_iff.mp hv);rw[e,eK x,eK (up x)]
 rw[e];exact q2
end
section
def toV:G'->V
 | .ref a=>.ref a
 | _=>.MV
theorem lM {K:Mi}(f:∀a ks,au.rep K H (.ref a) ks->bI h ks a)(r:aw as Mh)(p:MC (au.rep K H) as M7):
  MC (jn h) Mh M7/\∀v∈Mh,∃a ks,v=.ref a/\au.rep K H (.ref a) ks/\bW h v=ks:=by
 have q:MC (λv ks=>∃a,v=Nd a/\au.rep K H (.ref a) ks) Mh M7:=kW (F:=ax) (G:=au.rep K H) (λx u ks h1 h2=>by
  obtain⟨a,xs,e,q⟩:=id h2;subst e;cases h1;exact⟨a,rfl,h2⟩) r p
 refine⟨aD (λ_ _ ⟨a,e,z⟩=>⟨a,e,f a _ z⟩) q,λv hv=>?_⟩;obtain⟨ks,_,a,e,z⟩:=eT q v hv;exact⟨a,ks,e,z,by rw[e];exact eK (f a ks z)⟩
theorem j2:cC X (.builtin "sorted") (λxs H Q=>∃(y:V) (M7:List (List Int)),xs=[y]/\(gG au).rep X.K H y M7/\(∀ks∈M7,ks≠[])/\M7.length<64/\
  ∀(l:D') (RJ:List V) (OB:List (List Int)),H l=none->MC (au.rep X.K H) RJ OB->OB.Perm M7->j1 OB->Q (.ref l) (upd H l (.lst RJ))):=by
 intro aa s σ H xs us Q I r h;obtain⟨y,M7,rfl,⟨p,as,e,hp,hd⟩,NI,SI,q⟩:=h;subst e;obtain⟨u,rfl,ru⟩:=dw r;cases ru;obtain⟨Mh,rv,pl,hz⟩:=I.list hp;have hl:=rv.length;have NC:=hd.length;obtain⟨pt,back⟩:=lM (h:=s.heap) (λa ks z=>nA I z) rv hd;refine uU pl.isList pt NI (by lia) λout q1 q2=>?_;obtain⟨e,he⟩:=sortedAll_at s.heap Mh out;have abo:H (s.heap.objs.size+1)=none:=I.My.fresh (UZ _);have each:∀v∈out.toList,∃a ks,v=.ref a/\au.rep X.K H (.ref a) ks/\bW s.heap v=ks:=λv hv=>back v (q1.mem_iff.mp hv);have mk:∀l:List G',(∀v∈l,∃a ks,v=.ref a/\au.rep X.K H (.ref a) ks/\bW s.heap v=ks)->aw (l.map toV) l/\MC (au.rep X.K H) (l.map toV) (l.map (bW s.heap)):=by
  intro l
  induction l with
  | nil=>intro _;exact⟨.nil,.nil⟩
  | cons v l ih=>
   intro hl;obtain⟨i1,i2⟩:=ih λu hu=>hl u (Na _ hu);obtain⟨a,ks,e1,e2,e3⟩:=hl v MO;subst e1;exact⟨.cons rfl i1,.cons (by rw[e3];exact e2) i2⟩
 obtain⟨v1,v2⟩:=mk out.toList each;have hkf:Mh.map (bW s.heap)=M7:=sX pt;have hlen:out.toList.length=Mh.length:=q1.length_eq;refine⟨.ref (s.heap.objs.size+1),_,I.laid (t':=s.toks) (o:=.lst (out.toList.map toV)) (λb o z=>sortedAll_old z) (UZ _) ⟨by rw[Ng,Nf];lia,out.toList,e,v1,by simpa [M5] using he⟩,rfl,
  q _ _ _ abo v2 (by rw[<-hkf];exact q1.map _) q2⟩
end
end L2
namespace Sa
open PySem PySem.SetTable
def MT (t:NJ)(h:Int):Nat->Probe
 | 0=>t.probeStart h
 | n+1=>t.advance (MT t h n)
theorem Em {t u:NJ}(e:t.mask=u.mask)(p:Probe):t.advance p=u.advance p:=by
 unfold advance;rw[e]
theorem mj (e:t.mask=u.mask)(h:Int):∀n,MT t h n=MT u h n
 | 0=>by unfold MT probeStart;rw[e]
 | n+1=>by unfold MT;rw[mj e h n,Em e]
theorem ac0 (t)(h:Int):∀n,(MT t h n).dummy=none
 | 0=>rfl
 | n+1=>by
  have ih:=ac0 t h n;unfold MT advance
  split
  .exact ih
  .exact ih
def aN (mask:Nat)(h:Int):Nat->Nat×Nat
 | 0=>(bits h % (mask+1),bits h)
 | r+1=>leap mask (aN mask h r).1 (aN mask h r).2
def bQ (mask:Nat)(h:Int):Nat->Nat
 | 0=>0
 | r+1=>bQ mask h r+(runEnd mask (aN mask h r).1-(aN mask h r).1)+1
theorem j3 (mask i:Nat):i<=runEnd mask i/\runEnd mask i<=i+9:=by
 unfold runEnd
 split <;> lia
theorem qc (mask:Nat)(h:Int):∀r,bQ mask h r<=10*r
 | 0=>MJ _
 | r+1=>by
  have ih:=qc mask h r;have:=j3 mask (aN mask h r).1;unfold bQ;lia
theorem ef (t)(h:Int):∀r k,k<=runEnd t.mask (aN t.mask h r).1-(aN t.mask h r).1->
  MT t h (bQ t.mask h r+k)={ j:=(aN t.mask h r).1+k,more:=runEnd t.mask (aN t.mask h r).1-(aN t.mask h r).1-k,i:=(aN t.mask h r).1,perturb:=(aN t.mask h r).2,dummy:=none }
 | 0,0,_=>rfl
 | r+1,0,_=>by
  have ih:=ef t h r (runEnd t.mask (aN t.mask h r).1-(aN t.mask h r).1) (MJ _);have e:bQ t.mask h (r+1)+0=(bQ t.mask h r+(runEnd t.mask (aN t.mask h r).1-(aN t.mask h r).1))+1:=rfl;rw[e];show t.advance (MT t h _)=_;rw[ih];unfold advance;simp only[aa8,RX,gt_iff_lt,if_false];rfl
 | r,k+1,hk=>by
  have ih:=ef t h r k (by lia);have e:bQ t.mask h r+(k+1)=(bQ t.mask h r+k)+1:=rfl;rw[e];show t.advance (MT t h _)=_;rw[ih];unfold advance;have z:runEnd t.mask (aN t.mask h r).1-(aN t.mask h r).1-k > 0:=by lia
  simp only[z,if_true]
  congr 1
theorem uV (t)(h:Int)(r:Nat):(MT t h (bQ t.mask h r)).j=(aN t.mask h r).1:=by
 have:=ef t h r 0 (NX _);rw[aa2] at this;rw[this];rfl
def nx (mask i:Nat):Nat:=(i*5+1) % (mask+1)
def QP (mask:Nat):Nat->Nat->Nat
 | 0,i=>i
 | n+1,i=>QP mask n (nx mask i)
theorem iZ (mask:Nat):∀a b i,QP mask (a+b) i=QP mask b (QP mask a i)
 | 0,b,i=>by rw[aa3];rfl
 | a+1,b,i=>by
  rw[show a+1+b=(a+b)+1 by lia];show QP mask (a+b) (nx mask i)=QP mask b (QP mask a (nx mask i));exact iZ mask a b _
def orb (mask:Nat):Nat->Nat->List Nat
 | 0,_=>[]
 | n+1,i=>i::orb mask n (nx mask i)
theorem o6 (mask:Nat):∀n i j,j∈orb mask n i->∃k,k<n/\QP mask k i=j
 | 0,_,_,h=>by cases h
 | n+1,i,j,h=>by
  rcases M0.mp h with rfl|h
  .exact⟨0,by lia,rfl⟩
  .obtain⟨k,hk,e⟩:=o6 mask n _ j h;exact⟨k+1,by lia,e⟩
def Mk (mask:Nat):Prop:=mask=7\/mask=31\/mask=127\/mask=15\/mask=63\/mask=255
theorem HQ {mask:Nat}(h:Mk mask):QP mask (mask+1) 0=0/\∀j,j<mask+1->j∈orb mask (mask+1) 0:=by
 rcases h with rfl|rfl|rfl|rfl|rfl|rfl <;> decide +kernel
theorem reach {mask i j:Nat}(h:Mk mask)(hi:i<mask+1)(hj:j<mask+1):∃k,k<mask+1/\QP mask k i=j:=by
 obtain⟨c0,c⟩:=HQ h;obtain⟨a,ha,ea⟩:=o6 _ _ _ _ (c i hi);obtain⟨b,hb,eb⟩:=o6 _ _ _ _ (c j hj);rcases Pn b a with z|z
 .refine⟨b+(mask+1)-a,by lia,?_⟩;have:QP mask (a+(b+(mask+1)-a)) 0=j:=by
   rw[show a+(b+(mask+1)-a)=(mask+1)+b by lia,iZ,c0,eb]
  rw[iZ,ea] at this;exact this
 .refine⟨b-a,by lia,?_⟩;have:QP mask (a+(b-a)) 0=j:=by rw[show a+(b-a)=b by lia,eb]
  rw[iZ,ea] at this;exact this
theorem vB (mask:Nat)(h:Int):∀r,(aN mask h r).1<mask+1
 | 0=>Nat.mod_lt _ (Nat.succ_pos _)
 | r+1=>Nat.mod_lt _ (Nat.succ_pos _)
theorem qe (mask:Nat)(h:Int):∀r,(aN mask h r).2=bits h / 32 ^ r
 | 0=>by show bits h=_;rw[Nat.pow_zero,Nat.div_one]
 | r+1=>by
  show(aN mask h r).2 / 32=_;rw[qe mask h r,Nat.div_div_eq_div_mul,Nat.pow_succ]
theorem CT (h:Int):bits h<2 ^ 64:=by
 unfold bits;have h1:=VX h (show(2 ^ 64:Int)≠0 by decide);have h2:=VM h (show(0:Int)<2 ^ 64 by decide);lia
theorem yC (mask:Nat)(h:Int)(hr:13<=r):(aN mask h r).2=0:=by
 rw[qe];refine Nat.div_eq_of_lt (NH (CT h) ?_);exact OT (show 2 ^ 64<=32 ^ 13 by decide) (aem (by decide) hr)
theorem sZ (mask:Nat)(h:Int):∀q,(aN mask h (13+q)).1=QP mask q (aN mask h 13).1
 | 0=>rfl
 | q+1=>by
  have e:QP mask (q+1) (aN mask h 13).1=nx mask (QP mask q (aN mask h 13).1):=by rw[iZ];rfl
  rw[e,<-sZ mask h q];show(leap mask (aN mask h (13+q)).1 (aN mask h (13+q)).2).1=_;rw[yC mask h (by lia)];rfl
theorem BO (t:NJ)(h:Int)(hm:Mk t.mask)(hj:j<t.mask+1):∃r,r<t.mask+14/\(aN t.mask h r).1=j:=by
 obtain⟨k,hk,e⟩:=reach hm (vB t.mask h 13) hj;exact⟨13+k,by lia,by rw[sZ];exact e⟩
theorem En (t)(h:Int)(hm:Mk t.mask)(hj:j<t.mask+1):∃n,n<10*(t.mask+14)/\(MT t h n).j=j:=by
 obtain⟨r,hr,e⟩:=BO t h hm hj;have:=qc t.mask h r;exact⟨bQ t.mask h r,by lia,by rw[uV];exact e⟩
theorem Eo {mask:Nat}(i k:Nat)(hi:i<mask+1)(hk:k<=runEnd mask i-i):i+k<mask+1:=by
 unfold runEnd at hk
 split at hk <;> lia
theorem yD (mask:Nat)(h:Int):∀n,∃r k,n=bQ mask h r+k/\k<=runEnd mask (aN mask h r).1-(aN mask h r).1
 | 0=>⟨0,0,rfl,NX _⟩
 | n+1=>by
  obtain⟨r,k,e,hk⟩:=yD mask h n;rcases Pn k (runEnd mask (aN mask h r).1-(aN mask h r).1) with z|z
  .exact⟨r,k+1,by lia,by lia⟩
  .refine⟨r+1,0,?_,NX _⟩;show n+1=bQ mask h r+(runEnd mask (aN mask h r).1-(aN mask h r).1)+1+0;lia
theorem ti (t)(h:Int)(n:Nat):(MT t h n).j<t.mask+1:=by
 obtain⟨r,k,e,hk⟩:=yD t.mask h n;rw[e,ef t h r k hk];exact Eo _ _ (vB _ _ _) hk
theorem first {p:Nat->Prop}[DecidablePred p]:∀n,p n->∃m,m<=n/\p m/\∀k,k<m->¬p k
 | 0,h=>⟨0,MJ _,h,λk hk=>Mw hk (ZR _)⟩
 | n+1,h=>by
  by_cases z:∃k,k<=n/\p k
  .obtain⟨k,hk,q⟩:=z;obtain⟨m,h1,h2,h3⟩:=first k q
   exact⟨m,by lia,h2,h3⟩
  .exact⟨n+1,MJ _,h,λk hk q=>z ⟨k,by lia,q⟩⟩
def SD (xs:Array Nat):Prop:=xs.toList.Pairwise (· < ·)
theorem Z' (r:SD xs)(h:a<b)(hb:b<xs.size):xs[a]'(by lia)<xs[b]:=by
 have:=(adX.mp r) a b (by simp;lia) (by simpa using hb) h;simpa using this
theorem mn (r:SD xs)(j:Nat):∀fuel lo hi,lo<=hi->hi<=xs.size->hi-lo<=fuel->(∀a,(ha:a<lo)->(hs:a<xs.size)->xs[a]<j)->(∀a,hi<=a->(hs:a<xs.size)->j<=xs[a])->
  below.go xs j fuel lo hi<=xs.size/\(∀a,(ha:a<below.go xs j fuel lo hi)->(hs:a<xs.size)->xs[a]<j)/\∀a,below.go xs j fuel lo hi<=a->(hs:a<xs.size)->j<=xs[a]
 | 0,lo,hi,h1,h2,h3,h4,h5=>by
  have:lo=hi:=by lia
  subst this;unfold below.go;exact⟨h2,h4,h5⟩
 | fuel+1,lo,hi,h1,h2,h3,h4,h5=>by
  unfold below.go
  by_cases z:lo<hi
  .rw[Mu z];have hm:(lo+hi) / 2<xs.size:=by lia
   have e:xs.getD ((lo+hi) / 2) j=xs[(lo+hi) / 2]:=by simp[Q0,hm]
   simp only[e]
   split
   .rename_i y;refine mn r j fuel _ _ (by lia) h2 (by lia) (λa ha hs=>?_) h5;rcases Pn a ((lo+hi) / 2) with q|q
    .exact Z2 (Z' r q hm) y
    .obtain rfl:a=(lo+hi) / 2:=by lia
     exact y
   .rename_i y;refine mn r j fuel _ _ (by lia) (by lia) (by lia) h4 (λa ha hs=>?_);rcases Pn ((lo+hi) / 2) a with q|q
    .exact OT (acw y) (Uf (Z' r q hs))
    .obtain rfl:a=(lo+hi) / 2:=by lia
     exact acw y
  .rw[Mq z];have:lo=hi:=by lia
   subst this;exact⟨h2,h4,h5⟩
theorem Tg (r:SD xs)(j:Nat):below xs j<=xs.size/\(∀a,(ha:a<below xs j)->(hs:a<xs.size)->xs[a]<j)/\∀a,below xs j<=a->(hs:a<xs.size)->j<=xs[a]:=
 mn r j xs.size 0 xs.size (NX _) (MJ _) (by lia) (λa ha=>Mw ha (ZR _)) λa ha hs=>by lia
theorem AS (r:SD xs)(h:xs[i]?=some j):below xs j=i:=by
 obtain⟨h1,h2,h3⟩:=Tg r j;obtain⟨hi,e⟩:=RS.mp h;rcases Xz (below xs j) i with z|z|z
 .have a:=h3 _ (MJ _) (by lia);have b:=Z' r z hi;lia
 .exact z
 .have:=h2 i z hi;lia
structure Tab (t:NJ):Prop where
 Oj:Mk t.mask
 rise:SD t.place
 le:∀j∈t.place.toList,j<=t.mask
 Sj:t.dummies=#[]
theorem qf (j:Nat):has #[] j=false:=by
 unfold has;simp
theorem aeM (T:Tab t)(h:j∉t.place.toList):t.slot j=.empty:=by
 unfold slot;have z:(t.place[below t.place j]?==some j)=false:=by
  cases e:t.place[below t.place j]? with
  | none=>rfl
  | some k=>
   have hk:k∈t.place.toList:=by
    rw[<-S7] at e;exact N1 e
   have:k≠j:=λq=>h (q▸hk);simpa using this
 simp only[z,T.Sj,qf,NT,if_false]
theorem XT (T:Tab t)(h:t.place[i]?=some j):t.slot j=.live i:=by
 unfold slot;rw[AS T.rise h];simp[h]
theorem aeQ {xs:Array Nat}(h:j∈xs.toList):∃i:Nat,xs[i]?=some j:=by
 obtain⟨i,hi,e⟩:=aaB.mp h;exact⟨i,by rw[<-S7,Om hi,e]⟩
theorem AU {l:List Nat}(h:l.length<n):∃j,j<n/\j∉l:=by
 refine Rt λz=>?_;have sub:∀j∈Ox n,j∈l:=λj hj=>Rt λy=>z ⟨j,P8.mp hj,y⟩;have key:∀(a b:List Nat),a.Nodup->(∀x∈a,x∈b)->a.length<=b.length:=by
  intro a
  induction a with
  | nil=>intro b _ _;exact NX _
  | cons x a ih=>
   intro b nd hs;rw[Py] at nd;have hx:=hs x MO;have:=ih (b.erase x) nd.2 λy hy=>by
    refine(aci ?_).mpr (hs y (Na _ hy));rintro rfl;exact nd.1 hy
   rw[aar hx] at this;have hp:0<b.length:=Zz hx;simp only[N'];lia
 have:=key (Ox n) l aaN sub;rw[acs] at this;lia
theorem meets (T:Tab t)(h:Int)(hf:t.place.size<=t.mask):∃n,n<10*(t.mask+14)/\(MT t h n).j∉t.place.toList/\∀m,m<n->(MT t h m).j∈t.place.toList:=by
 obtain⟨j,hj,hn⟩:=AU (n:=t.mask+1) (l:=t.place.toList) (by simp;lia);obtain⟨n,h1,e⟩:=En t h T.Oj hj;obtain⟨m,h2,h3,h4⟩:=first (p:=λn=>(MT t h n).j∉t.place.toList) n (by rw[e];exact hn)
 exact⟨m,by lia,h3,λk hk=>Rt λz=>h4 k hk z⟩
def kY (mask:Nat)(P:List Nat)(h:Int)(j:Nat):Prop:=∃(t:NJ) (n:Nat),t.mask=mask/\(MT t h n).j=j/\∀m,m<n->(MT t h m).j∈P
theorem kY.more {mask:Nat}(r:kY mask P h j)(s:∀x∈P,x∈P'):kY mask P' h j:=
 let ⟨t,n,e,a,b⟩:=r;⟨t,n,e,a,λm hm=>s _ (b m hm)⟩
theorem kY.at (r:kY t.mask P h j):∃n,(MT t h n).j=j/\∀m,m<n->(MT t h m).j∈P:=by
 obtain⟨u,n,e,a,b⟩:=r;exact⟨n,by rw[mj e.symm];exact a,λm hm=>by rw[mj e.symm];exact b m hm⟩
abbrev Oa:=Int×G'
structure Full (t:NJ)(es:Array Oa):Prop where
 tab:Tab t
 size:t.place.size=es.size
 reach:∀x∈t.place.toList.zip es.toList,kY t.mask t.place.toList x.2.1 x.1
theorem vC {α β:Type}:∀(p:Nat) (P:List α) (E:List β) (a:α) (b:β),P.length=E.length->p<=P.length->(P.take p++a::P.drop p).zip (E.take p++b::E.drop p)=(P.zip E).take p++(a,b)::(P.zip E).drop p
 | 0,P,E,a,b,_,_=>by simp
 | p+1,[],_,_,_,_,h=>by simp at h
 | p+1,x::P,[],_,_,h,_=>by simp at h
 | p+1,x::P,y::E,a,b,h,hp=>by
  have:=vC p P E a b (by simpa using h) (by simpa using hp);simp only[aes,List.drop_succ_cons,List.cons_append,Xq];rw[this]
theorem Uj {α:Type}(xs)(p:Nat)(x:α):(insertAt xs p x).toList=xs.toList.take p++x::xs.toList.drop p:=by
 rw[NJ.toList_insertAt]
theorem AV (r:SD xs)(h:j∉xs.toList):SD (insertAt xs (below xs j) j):=by
 obtain⟨h1,h2,h3⟩:=Tg r j;unfold SD at r ⊢;rw[Uj];have e:=(T9 (below xs j) xs.toList).symm;rw[e] at r;rw[VH] at r ⊢;obtain⟨r1,r2,r3⟩:=r;refine⟨r1,?_,?_⟩
 .rw[Xr];refine⟨λb hb=>?_,r2⟩;obtain⟨k,hk,rfl⟩:=aaB.mp hb;rw[XB] at hk;have RI:below xs j+k<xs.size:=by simp at hk;lia
  rw[List.getElem_drop];have q:=h3 (below xs j+k) (by lia) RI;have ne:xs[below xs j+k]≠j:=λz=>h (by rw[<-z];simp);have:j<xs[below xs j+k]:=by lia
  simpa using this
 .intro a ha b hb;have aj:a<j:=by
   obtain⟨k,hk,rfl⟩:=aaB.mp ha;rw[Ph] at hk;rw[List.getElem_take];have q:=h2 k (by lia) (by simp at hk;lia);simpa using q
  rcases M0.mp hb with rfl|hb
  .exact aj
  .exact r3 a ha b hb
theorem o7 {α:Type}{l:List α}{p:Nat}{x y:α}:y∈l.take p++x::l.drop p↔y=x\/y∈l:=by
 have e:=T9 p l;rw[Ny,M0];have m:y∈l↔y∈l.take p\/y∈l.drop p:=by
  rw[<-Ny,e]
 rw[m];constructor
 .rintro(h|h|h)
  .exact .inr (.inl h)
  .exact .inl h
  .exact .inr (.inr h)
 .rintro(h|h|h)
  .exact .inr (.inl h)
  .exact .inl h
  .exact .inr (.inr h)
theorem abl (T:Tab t)(j:Nat):(t.put j).2=below t.place j/\(t.put j).1.mask=t.mask/\(t.put j).1.place=insertAt t.place (below t.place j) j/\(t.put j).1.dummies=#[]/\(t.put j).1.plain=t.plain/\(t.put j).1.led=t.led/\(t.put j).1.moves=t.moves:=by
 unfold put;refine⟨rfl,rfl,rfl,?_,rfl,rfl,rfl⟩;show(if has t.dummies j=true then _ else t.dummies)=#[];rw[T.Sj,qf];rfl
theorem δ {α:Type}(xs)(x:α)(h:p<=xs.size):(insertAt xs p x).size=xs.size+1:=by
 rw[<-Od,Uj,NQ,N',Ph,XB];simp;lia
theorem ac3 (F:Full t es)(hn:(MT t e.1 n).j∉t.place.toList)(hb:∀m,m<n->(MT t e.1 m).j∈t.place.toList):
  Full (t.put (MT t e.1 n).j).1 (insertAt es (t.put (MT t e.1 n).j).2 e):=by
 obtain⟨p1,p2,p3,p4,_⟩:=abl F.tab (MT t e.1 n).j;obtain⟨b1,_,_⟩:=Tg F.tab.rise (MT t e.1 n).j;have hl:(MT t e.1 n).j<t.mask+1:=ti t e.1 n;have sz:=F.size;refine⟨⟨by rw[p2];exact F.tab.Oj,by rw[p3];exact AV F.tab.rise hn,λj hj=>?_,p4⟩,?_,λx hx=>?_⟩
 .rw[p3,Uj,o7] at hj;rw[p2];rcases hj with rfl|hj
  .omega
  .exact F.tab.le j hj
 .rw[p1,p3,δ _ _ b1,δ _ _ (by lia),sz]
 .rw[p1,p3,Uj,Uj,vC _ _ _ _ _ (by simp[sz]) (by simpa using b1),o7] at hx;have up:∀z∈t.place.toList,z∈(t.put (MT t e.1 n).j).1.place.toList:=λz hz=>by rw[p3,Uj,o7];exact .inr hz
  rw[p2];rcases hx with rfl|hx
  .exact⟨t,n,rfl,rfl,λm hm=>up _ (hb m hm)⟩
  .exact(F.reach x hx).more up
abbrev tm (mask:Nat):NJ:={ mask,place:=#[],dummies:=#[],finger:=0,led:=true,moves:=0,plain:=true }
def cD (owner:Array (Option Nat))(j:Nat):Prop:=(owner.getD j (some 0)).isSome=true
instance (owner)(j:Nat):Decidable (cD owner j):=inferInstanceAs (Decidable (_=true))
theorem qh {mask:Nat}(h:Int):∀fuel r,(∀m,m<bQ mask h r->cD owner (MT (tm mask) h m).j)->(∃r',r<=r'/\r' < r+fuel/\¬cD owner (aN mask h r').1)->
  ∃j n,layClean.free mask owner fuel (aN mask h r).1 (aN mask h r).2=some j/\¬cD owner j/\(MT (tm mask) h n).j=j/\∀m,m<n->cD owner (MT (tm mask) h m).j
 | 0,r,_,⟨r',h1,h2,_⟩=>by lia
 | fuel+1,r,hb,⟨r',h1,h2,h3⟩=>by
  unfold layClean.free;cases e:(Ox (runEnd mask (aN mask h r).1+1-(aN mask h r).1)).find? λk=>(owner.getD ((aN mask h r).1+k) (some 0)).isNone with
  | some k=>
   have hk:=P8.mp (adY e);have hr:=j3 mask (aN mask h r).1;have hq:(owner.getD ((aN mask h r).1+k) (some 0)).isNone=true:=List.find?_some (p:=λk=>(owner.getD ((aN mask h r).1+k) (some 0)).isNone) e;have sk:=ef (tm mask) h r k (by show k<=runEnd mask (aN mask h r).1-(aN mask h r).1;lia);refine⟨_,bQ mask h r+k,rfl,?_,by rw[sk],λm hm=>?_⟩
   .unfold cD;intro z;rw[Option.isNone_iff_eq_none] at hq;rw[hq] at z;cases z
   .rcases Pn m (bQ mask h r) with y|y
    .exact hb m y
    .obtain⟨d,rfl⟩:∃d,m=bQ mask h r+d:=⟨m-bQ mask h r,by lia⟩
     have sd:=ef (tm mask) h r d (by show d<=runEnd mask (aN mask h r).1-(aN mask h r).1;lia);rw[sd];show cD owner ((aN mask h r).1+d);unfold cD;have hd:d<k:=by lia
     obtain⟨_,as,bs,e1,e2⟩:=List.find?_eq_some_iff_append.mp e;have adm:as.length=k:=by
      have:(Ox (runEnd mask (aN mask h r).1+1-(aN mask h r).1))[as.length]?=some k:=by rw[e1];simp
      rw[aet (by have:=congrArg Rw e1;simp at this;lia)] at this;exact Rv this
     have afx:d∈as:=by
      have:(Ox (runEnd mask (aN mask h r).1+1-(aN mask h r).1))[d]?=some d:=aet (by lia);rw[e1,SW (by lia)] at this;exact N1 this
     have:=e2 d afx;cases z:owner.getD ((aN mask h r).1+d) (some 0) with
     | none=>rw[z] at this;simp at this
     | some _=>rfl
  | none=>
   have all:=ZG.mp e;have hr:=j3 mask (aN mask h r).1;have tk:∀d,d<=runEnd mask (aN mask h r).1-(aN mask h r).1->cD owner ((aN mask h r).1+d):=λd hd=>by
    have:=all d (P8.mpr (by lia));unfold cD;cases z:owner.getD ((aN mask h r).1+d) (some 0) with
    | none=>rw[z] at this;simp at this
    | some _=>rfl
   have ne:r'≠r:=λz=>h3 (by rw[z];exact tk 0 (NX _));refine qh h fuel (r+1) (λm hm=>?_) ⟨r',by lia,by lia,h3⟩;rcases Pn m (bQ mask h r) with y|y
   .exact hb m y
   .have Wo:m<bQ mask h r+(runEnd mask (aN mask h r).1-(aN mask h r).1)+1:=hm;obtain⟨d,rfl⟩:∃d,m=bQ mask h r+d:=⟨m-bQ mask h r,by lia⟩
    have sd:=ef (tm mask) h r d (by show d<=runEnd mask (aN mask h r).1-(aN mask h r).1;lia);rw[sd];exact tk d (by lia)
structure Wu (mask:Nat)(hs:List Int)(owner:Array (Option Nat)):Prop where
 size:owner.size=mask+1
 perm:((Ox (mask+1)).filterMap λj=>owner.getD j none).Perm (Ox hs.length)
 reach:∀j q h,owner[j]?=some (some q)->hs[q]?=some h->∃n,(MT (tm mask) h n).j=j/\∀m,m<n->cD owner (MT (tm mask) h m).j
theorem wN {α β:Type}{f g:α->Option β}:∀{l:List α},(∀a∈l,f a=g a)->l.filterMap f=l.filterMap g
 | [],_=>rfl
 | a::l,h=>by rw[QA,QA,h a MO,wN λb hb=>h b (Na _ hb)]
theorem jK {owner:Array (Option Nat)}(hj:owner.getD j (some 0)=none):∀(l:List Nat),l.Nodup->j∈l->(∀x∈l,x<owner.size)->
  (l.filterMap λi=>(owner.setIfInBounds j (some k)).getD i none).Perm ((l.filterMap λi=>owner.getD i none)++[k])
 | [],_,h,_=>by cases h
 | x::l,nd,h,hs=>by
  rw[Py] at nd;have hx:=hs x MO
  by_cases z:x=j
  .subst z;have e1:(owner.setIfInBounds x (some k)).getD x none=some k:=by simp[Q0,hx]
   have e2:owner.getD x none=none:=by
    simp only[Q0,hx,dite_true] at hj ⊢;exact hj
   have e3:(l.filterMap λi=>(owner.setIfInBounds x (some k)).getD i none)=l.filterMap λi=>owner.getD i none:=by
    refine wN λi hi=>?_;have ne:x≠i:=λq=>nd.1 (q▸hi);have OK:=hs i (Na _ hi);simp[Q0,OK,adL,ne]
   rw[VC (b:=k) (by rw[e1]),aas (by rw[e2]),e3];exact(List.perm_append_singleton k _).symm
  .have hjl:j∈l:=by
    rcases M0.mp h with q|q
    .exact Mw q.symm z
    .exact q
   have ih:=jK (k:=k) hj l nd.2 hjl λy hy=>hs y (Na _ hy);have e1:(owner.setIfInBounds j (some k)).getD x none=owner.getD x none:=by
    have ne:j≠x:=λq=>z q.symm;simp[Q0,hx,adL,ne]
   cases e:owner.getD x none with
   | none=>rw[aas (by rw[e1,e]),aas (by rw[e])];exact ih
   | some v=>rw[VC (b:=v) (by rw[e1,e]),VC (b:=v) (by rw[e])];exact ih.cons v
theorem qi (h:cD owner x):cD (owner.setIfInBounds j (some k)) x:=by
 unfold cD at h ⊢;rw[Array.getD_eq_getD_getElem?] at h ⊢
 by_cases e:j=x
 .subst e
  by_cases hx:j<owner.size
  .rw[adD hx];rfl
  .rw[ZA (by simpa using hx)];rfl
 .rw[adF e];exact h
theorem yE:∀(l:List Nat),(∀x∈l,cD owner x/\x<owner.size)->(l.filterMap λj=>owner.getD j none).length=l.length
 | [],_=>rfl
 | x::l,h=>by
  obtain⟨h1,h2⟩:=h x MO;unfold cD at h1;simp only[Q0,h2,dite_true] at h1;obtain⟨v,e⟩:=TZ.mp h1;rw[VC (b:=v) (by simp[Q0,h2];exact e),N',N',yE l λy hy=>h y (Na _ hy)]
theorem AW {mask:Nat}(M:Mk mask)(O:Wu mask hs owner)(h:Int)(hl:hs.length<=mask):
  ∃j,layClean.free mask owner (turns mask) (bits h % (mask+1)) (bits h)=some j/\Wu mask (hs++[h]) (owner.setIfInBounds j (some hs.length)):=by
 have sz:=O.size;obtain⟨e,he,hn⟩:∃e,e<mask+1/\¬cD owner e:=by
  refine Rt λz=>?_;have all:∀x∈Ox (mask+1),cD owner x/\x<owner.size:=λx hx=>by
   have hx:=P8.mp hx;exact⟨Rt λy=>z ⟨x,hx,y⟩,by lia⟩
  have h1:=yE _ all;have h2:=O.perm.length_eq;rw[h1,acs,acs] at h2;lia
 obtain⟨r,hr,er⟩:=BO (tm mask) h M he;obtain⟨j,n,f1,f2,f3,f4⟩:=qh (mask:=mask) (owner:=owner) h (turns mask) 0 (λm hm=>Mw hm (ZR _)) ⟨r,NX _,by
  have:r<mask+14:=hr;unfold turns;lia,by
  have er:(aN mask h r).1=e:=er;rw[er];exact hn⟩
 have hj:owner.getD j (some 0)=none:=by
  unfold cD at f2;cases z:owner.getD j (some 0) with
  | none=>rfl
  | some v=>rw[z] at f2;exact Mw rfl f2
 have Vk:j<owner.size:=by
  refine Rt λz=>?_;simp[Q0,z] at hj
 refine⟨j,f1,by rw[Array.size_setIfInBounds];exact sz,?_,λj' q h' e1 e2=>?_⟩
 .have p:=jK (k:=hs.length) hj (Ox (mask+1)) aaN (P8.mpr (by lia)) λx hx=>by have:=P8.mp hx;lia
  refine p.trans ?_;rw[NQ,ab6];have er:Ox (hs.length+1)=Ox hs.length++[hs.length]:=List.range_succ;rw[er];exact O.perm.append_right _
 .by_cases z:j=j'
  .subst z;rw[adD Vk] at e1;have:hs.length=q:=by
    injection e1 with e1
    injection e1
   subst this;rw[US (MJ _)] at e2;simp at e2;subst e2;exact⟨n,f3,λm hm=>qi (f4 m hm)⟩
  .rw[adF z] at e1;have hq:q<hs.length:=by
    have Vo:j' < owner.size:=by
     obtain⟨w,_⟩:=RS.mp e1;exact w
    have:q∈(Ox (mask+1)).filterMap λj=>owner.getD j none:=by
     rw[Qm];refine⟨j',P8.mpr (by lia),?_⟩;have:=(RS.mp e1).2;simp[Q0,Vo,this]
    exact P8.mp (O.perm.mem_iff.mp this)
   rw[SW hq] at e2;obtain⟨m,g1,g2⟩:=O.reach j' q h' e1 e2;exact⟨m,g1,λk hk=>qi (g2 k hk)⟩
theorem AX (mask:Nat):Wu mask [] (acF (mask+1) none):=by
 refine⟨by simp,?_,λj q h e=>?_⟩
 .have:((Ox (mask+1)).filterMap λj=>(acF (mask+1) (none:Option Nat)).getD j none)=[]:=by
   rw[List.filterMap_eq_nil_iff];intro a _;simp only[Q0]
   split <;> simp
  rw[this];exact ZU _
 .rw[RS] at e;obtain⟨_,e⟩:=e;simp at e
theorem tu {mask:Nat}(M:Mk mask):∀(rest done:List Int) (owner:Array (Option Nat)),Wu mask done owner->(done++rest).length<=mask->
  ∃θ,(rest.foldl (λ(acc:Option (Array (Option Nat)×Nat)) h=>do
   let (owner,k) <-acc;let j <-layClean.free mask owner (turns mask) (bits h % (mask+1)) (bits h)
   pure (owner.setIfInBounds j (some k),k+1)) (some (owner,done.length)))=some (θ,(done++rest).length)/\Wu mask (done++rest) θ
 | [],done,owner,O,_=>⟨owner,by simp,by rw[QD];exact O⟩
 | h::rest,done,owner,O,hl=>by
  simp only[NQ,N'] at hl;obtain⟨j,e,O'⟩:=AW M O h (by lia);obtain⟨θ,e',O''⟩:=tu M rest (done++[h]) _ O' (by simp;lia);refine⟨θ,?_,by rw[VP] at O'';exact O''⟩;rw[VS];have:(do
   let (owner,k) <-some (owner,done.length);let j <-layClean.free mask owner (turns mask) (bits h % (mask+1)) (bits h)
   pure (owner.setIfInBounds j (some k),k+1))=some (owner.setIfInBounds j (some done.length),done.length+1):=by
   simp[e]
  rw[this];rw[NQ,ab6] at e';rw[e'];simp
theorem AY {mask:Nat}(M:Mk mask)(hs:List Int)(hl:hs.length<=mask):∃owner,layClean mask hs.toArray=some owner/\Wu mask hs owner:=by
 obtain⟨owner,e,O⟩:=tu M hs [] _ (AX mask) (by simpa using hl);refine⟨owner,?_,by simpa using O⟩;unfold layClean;rw[<-Array.foldl_toList];have e:abf _ (some (acF (mask+1) none,0)) hs=_:=e;rw[e];rfl
def cR (mask:Nat)(owner:Array (Option Nat)):List (Nat×Nat):=(Ox (mask+1)).filterMap λj=>(owner.getD j none).map (j,·)
theorem j4 {mask:Nat}(sz:owner.size=mask+1):x∈cR mask owner↔owner[x.1]?=some (some x.2):=by
 unfold cR;rw[Qm];constructor
 .rintro⟨j,hj,e⟩;have Vo:j<owner.size:=by have:=P8.mp hj;lia
  obtain⟨v,e1,e2⟩:=VE.mp e;subst e2;rw[RV Vo];simp only[Q0,Vo,dite_true] at e1;rw[<-e1];rfl
 .intro e;obtain⟨h1,h2⟩:=RS.mp e;refine⟨x.1,P8.mpr (by lia),?_⟩;have:owner.getD x.1 none=some x.2:=by simp[Q0,h1,h2]
  rw[this];rfl
theorem yF (mask:Nat)(owner):(cR mask owner).map (·.2)=(Ox (mask+1)).filterMap λj=>owner.getD j none:=by
 unfold cR;rw[List.map_filterMap];refine wN λj _=>?_;cases owner.getD j none <;> rfl
theorem vD {f:Nat->Option (Nat×Nat)}(hf:∀j x,f j=some x->x.1=j):∀(l:List Nat),l.Pairwise (· < ·)->((l.filterMap f).map (·.1)).Pairwise (· < ·)
 | [],_=>T'
 | a::l,h=>by
  rw[Xr] at h;have ih:=vD hf l h.2;cases e:f a with
  | none=>rw[aas e];exact ih
  | some x=>
   rw[VC e,Nt,Xr];refine⟨λb hb=>?_,ih⟩;obtain⟨y,hy,rfl⟩:=Nm.mp hb;obtain⟨c,hc,ec⟩:=Qm.mp hy;rw[hf a x e,hf c y ec];exact h.1 c hc
theorem wO (mask:Nat)(owner):((cR mask owner).map (·.1)).Pairwise (· < ·):=by
 unfold cR;refine vD (λj x e=>?_) _ aaw;obtain⟨v,_,e2⟩:=VE.mp e;rw[<-e2]
theorem yG {α:Type}{g:Nat->Option α}:∀(l:List (Nat×Nat)),(∀x∈l,∃a,g x.2=some a)->(l.map (·.1)).zip ((l.map (·.2)).filterMap g)=l.filterMap (λx=>(g x.2).map (x.1,·))/\((l.map (·.2)).filterMap g).length=l.length
 | [],_=>⟨rfl,rfl⟩
 | x::l,h=>by
  obtain⟨a,ha⟩:=h x MO;obtain⟨i1,i2⟩:=yG l λy hy=>h y (Na _ hy);rw[Nt,Nt,VC ha,VC (b:=(x.1,a)) (by rw[ha];rfl),Xq,i1];exact⟨rfl,by rw[N',N',i2]⟩
theorem ac4 {mask finger moves:Nat}{led plain:Bool}(M:Mk mask)(es:Array Oa)(hl:es.size<=mask):
  ∃t order,laid mask finger moves led plain (es.map (·.1))=some (t,order)/\t.mask=mask/\t.plain=plain/\t.led=led/\(order.filterMap (es[·]?)).size=es.size/\(order.filterMap (es[·]?)).toList.Perm es.toList/\Full t (order.filterMap (es[·]?)):=by
 obtain⟨owner,e,O⟩:=AY M (es.toList.map (·.1)) (by rw[Ng,Od];exact hl);have eh:(es.toList.map (·.1)).toArray=es.map (·.1):=by
  apply Array.toList_inj.mp;rw[Array.toList_map]
 rw[eh] at e;have ho:((cR mask owner).map (·.2)).Perm (Ox es.size):=by
  rw[yF];have:=O.perm;simpa using this
 refine⟨{ mask,place:=((cR mask owner).map (·.1)).toArray,dummies:=#[],finger,led,moves,plain },((cR mask owner).map (·.2)).toArray,?_,rfl,rfl,rfl,?_⟩
 .unfold laid;rw[e];rfl
 have perm:(((cR mask owner).map (·.2)).toArray.filterMap (es[·]?)).toList.Perm es.toList:=by
  rw[ab5];exact(ho.filterMap _).trans (by rw[filterMap_getElem?_range])
 have ae1:∀x∈cR mask owner,∃a,es[x.2]?=some a:=λx hx=>by
  have:x.2∈(cR mask owner).map (·.2):=Nm.mpr ⟨x,hx,rfl⟩;have:=P8.mp (ho.mem_iff.mp this);exact⟨es[x.2],RV this⟩
 obtain⟨z1,z2⟩:=yG (g:=λi=>es[i]?) (cR mask owner) ae1;refine⟨?_,perm,⟨M,wO mask owner,λj hj=>?_,rfl⟩,?_,λx hx=>?_⟩
 .rw[<-Od,perm.length_eq,Od]
 .have hj:j∈(cR mask owner).map (·.1):=hj;obtain⟨x,hx,rfl⟩:=Nm.mp hj;rw[j4 O.size] at hx;obtain⟨w,_⟩:=RS.mp hx;have:=O.size;show x.1<=mask;lia
 .show((cR mask owner).map (·.1)).toArray.size=_;rw[ND,Ng,<-Od,ab5];exact z2.symm
 .rw[ab5] at hx;have hx:x∈((cR mask owner).map (·.1)).zip (((cR mask owner).map (·.2)).filterMap λi=>es[i]?):=hx;rw[z1,Qm] at hx;obtain⟨y,hy,e1⟩:=hx;obtain⟨a,e2,e3⟩:=VE.mp e1;subst e3;have hq:(es.toList.map (·.1))[y.2]?=some a.1:=by
   rw[O0,S7,e2];rfl
  obtain⟨n,g1,g2⟩:=O.reach y.1 y.2 a.1 ((j4 O.size).mp hy) hq;refine⟨tm mask,n,rfl,g1,λm hm=>?_⟩;show(MT (tm mask) a.1 m).j∈(cR mask owner).map (·.1);have tk:=g2 m hm;have lt:(MT (tm mask) a.1 m).j<mask+1:=ti (tm mask) a.1 m;have lt':(MT (tm mask) a.1 m).j<owner.size:=by rw[O.size];exact lt
  unfold cD at tk;simp only[Q0,lt',dite_true] at tk;obtain⟨v,ev⟩:=TZ.mp tk;refine Nm.mpr ⟨((MT (tm mask) a.1 m).j,v),(j4 O.size).mpr ?_,rfl⟩;rw[RV lt'];exact congrArg some ev
end Sa
namespace L2
open PySem PySem.Spec PyProof.Rows PySem.SetTable
theorem yH (a:D')(x:G')(h:Int)(adding:Bool)(fuel:Nat)(st:Option Probe):setSearchFrom a x h adding (fuel+1) st=(do
  let (es,_,t) <-setState a
  if t.gaveWay then unsupported "set:on-a-table-that-gave-way"
  let some met:=t.probe (λi=>(es[i]?.map (·.1)).getD 0) h (st.getD (t.probeStart h))|unsupported "internal:set-table-without-an-empty-slot"
  match met with
  | .empty j dummy=>
   match dummy with
   | none=>return .free j false
   | some d=>
    if adding&&t.slot d != .dummy then rule "set.search.the-dummy-was-taken";return <-setSearchFrom a x h adding fuel none
    return .free d true
  | .candidate j i next=>
   if !t.led then
    if <-searchCouldBeSeen x ((es.filter (·.1==h)).toList.map (·.2)) then unsupported "set:the-search-would-show-the-table"
   let some (_,y):=es[i]? | unsupported "internal:set-entry"
   let equal <-holding [y] (eqBool y x)
   let (OI,_,t') <-setState a
   if adding&&equal then return .there none
   let some same:=t'.sameMemory t.moves t.mask|unsupported "set.changed-during-lookup:is-the-new-block-at-the-old-address"
   let abw <-match (if same then t'.slot j else .empty) with
    | .live i'=>match OI[i']? with
     | some (_,y')=>do pure (if <-isSame y' y then some i' else none)
     | none=>pure none
    | _=>pure none
   match abw with
   | none=>rule "set.search.anew";setSearchFrom a x h adding fuel none
   | some i'=>if equal then return .there (some i') else setSearchFrom a x h adding fuel (some next)):=rfl
section
theorem o8 (T:Sa.Tab t)(hN:(Sa.MT t h N).j∉t.place.toList)(hb:∀m,m<N->(Sa.MT t h m).j∈t.place.toList):∀fuel m,m<=N->N-m<fuel->
  ∃m',m<=m'/\m'<=N/\((m'=N/\probe.go t H h fuel (Sa.MT t h m)=some (.empty (Sa.MT t h N).j none))\/
   (m' < N/\∃i,t.place[i]?=some (Sa.MT t h m').j/\H i=h/\probe.go t H h fuel (Sa.MT t h m)=some (.candidate (Sa.MT t h m').j i (Sa.MT t h (m'+1)))))/\
   ∀q,m<=q->q<m'->∀i,t.place[i]?=some (Sa.MT t h q).j->H i≠h
 | 0,m,_,h2=>by lia
 | fuel+1,m,h1,h2=>by
  rcases Pn m N with z|z
  .obtain⟨i,hi⟩:=Sa.aeQ (hb m z);have sl:=Sa.XT T hi;have uniq:∀i',t.place[i']?=some (Sa.MT t h m).j->i'=i:=λi' OK=>by
    have:=Sa.XT T OK;rw[sl] at this;cases this;rfl
   by_cases e:H i=h
   .refine⟨m,MJ _,h1,.inr ⟨z,i,hi,e,?_⟩,λq a b=>by lia⟩;unfold probe.go;rw[sl];simp only[e,beq_self_eq_true,if_true];rfl
   .obtain⟨m',a1,a2,a3,a4⟩:=o8 T hN hb fuel (m+1) z (by lia);have eg:probe.go t H h (fuel+1) (Sa.MT t h m)=probe.go t H h fuel (Sa.MT t h (m+1)):=by
     rw[probe.go,sl];have:(H i==h)=false:=by simpa using e
     simp only[this,NT,if_false];rfl
    refine⟨m',by lia,a2,?_,λq b1 b2 i' OK=>?_⟩
    .rw[eg];exact a3
    .rcases Pn m q with y|y
     .exact a4 q (by lia) b2 i' OK
     .obtain rfl:q=m:=by lia
      rw[uniq i' OK];exact e
  .obtain rfl:m=N:=by lia
   refine⟨m,MJ _,MJ _,.inl ⟨rfl,?_⟩,λq a b=>by lia⟩;unfold probe.go;rw[Sa.aeM T hN,Sa.ac0]
end
structure Qq (prog)(w)(K:Type)[DecidableEq K]where
 knd:HeapKind prog w K
 X1:∀{A:ML}{E:G'->Md->Prop}{s:Md}{k:K}{a:D'}{Q:Bool->Md->Prop},knd.is s.heap k a->Q true s->Ml (Mr prog w) A (hashByValue 8 (.ref a)) Q E s
 Wf:∀{A:ML}{E:G'->Md->Prop}{s:Md}{k:K}{a:D'}{Q:Bool->Md->Prop},knd.is s.heap k a->Q false s->Ml (Mr prog w) A (ofAClassStatement 8 (.ref a)) Q E s
 keep:∀{h h':Mp}{k:K}{a:D'},knd.is h k a->(∀b o,o.cls=.type "tuple"->h.get? b=some o->h'.get? b=some o)->knd.is h' k a
section
variable {prog:MD}{w:Mt}{K:Type} [DecidableEq K] {A:ML}{E:G'->Md->Prop}{s:Md}{X:Qq prog w K}
def El (X:Qq prog w K)(h:Mp)(e:Sa.Oa)(k:K):Prop:=∃b,e.2=.ref b/\X.knd.is h k b/\e.1=X.knd.hash k
structure Rz (X:Qq prog w K)(h:Mp)(a:D')(o:Mc)(es:Array Sa.Oa)(ep:Nat)(t:NJ)(ks:List K):Prop where
 ob:h.get? a=some o
 ex:o.ExactSet
 dt:o.data=.set es ep t
 full:Sa.Full t es
 MW:t.place.size*5<t.mask*3
 pl:t.plain=true
 el:MC (El X h) es.toList ks
 nd:ks.Nodup
theorem Rz.fits (S:Rz X s.heap a o es ep t ks):t.fits es.size=true:=by
 unfold aa0 RY;rw[S.full.tab.Sj,S.full.size];have:=S.MW;rw[S.full.size] at this;simp;lia
theorem odd (h:Sa.Mk m):(m % 2==0)=false:=by rcases h with rfl|rfl|rfl|rfl|rfl|rfl <;> rfl
theorem wP (hx:X.knd.is s.heap k x):∀(l:List G') {Q:Bool->Md->Prop},(∀v∈l,∃b k',v=.ref b/\X.knd.is s.heap k' b)->Q false s->Ml (Mr prog w) A (searchCouldBeSeen (.ref x) l) Q E s:=by
 intro l Q hl h;unfold searchCouldBeSeen;refine Mf (Rb _ (λrest r s'=>r.1=none/\s'=s/\∀v∈rest,∃b k',v=.ref b/\X.knd.is s.heap k' b) _ ?turn ?fin _ _ ⟨rfl,rfl,hl⟩)
 case turn=>
  rintro v rest ⟨r1,r2⟩ s' ⟨hr,e,Qe⟩;simp only at hr;subst e hr;obtain⟨b,k',rfl,hb⟩:=Qe v MO;have ada:∀u∈rest,∃b k',u=.ref b/\X.knd.is s'.heap k' b:=λu hu=>Qe u (Na _ hu);dsimp only
  by_cases z:((x==b)||(carriedByValue (.ref x)&&carriedByValue (.ref b)))=true
  .rw[Mu z];exact Mm ⟨rfl,rfl,ada⟩
  .rw[Mq z];refine Mf (X.knd.quiet hx ?_);simp only[QX,NT,if_false];refine Mf (X.knd.quiet hb ?_);simp only[QX,NT,if_false];refine Mf (X.Wf hx ?_);simp only[NT,if_false];refine Mf (X.Wf hb ?_);simp only[NT,if_false];exact Mm ⟨rfl,rfl,ada⟩
 case fin=>
  rintro⟨r1,r2⟩ s' ⟨hr,e,_⟩;simp only at hr;subst e hr;exact Mm h
end
section
variable {prog:MD}{w:Mt}{K:Type} [DecidableEq K] {A:ML}{E:G'->Md->Prop}{s:Md}{X:Qq prog w K}{a:D'}{o:Mc}{es:Array Sa.Oa}{ep:Nat}{t:NJ}{ks:List K}
theorem BP (S:Rz X s.heap a o es ep t ks){i j:Nat}(h:t.place[i]?=some j):∃e k,es[i]?=some e/\ks[i]?=some k/\El X s.heap e k:=by
 have hi:i<es.size:=by
  have:=(RS.mp h).1;rw[S.full.size] at this;exact this
 obtain⟨k,hk,el⟩:=cp (i:=i) (a:=es[i]) S.el (by simp[hi]);exact⟨es[i],k,RV hi,hk,el⟩
theorem Ep (S:Rz X s.heap a o es ep t ks)(hk:k∈ks)(hN:(Sa.MT t (X.knd.hash k) N).j∉t.place.toList):∃(n i:Nat),n<N/\t.place[i]?=some (Sa.MT t (X.knd.hash k) n).j/\ks[i]?=some k:=by
 obtain⟨i,hi,e⟩:=aaB.mp hk;have hki:ks[i]?=some k:=by rw[Om hi,e]
 obtain⟨el,YN,b,e1,e2,e3⟩:=dX S.el hki;have hes:es[i]?=some el:=by rw[<-S7];exact YN
 have his:i<t.place.size:=by
  rw[S.full.size];exact(RS.mp hes).1
 have hp:t.place[i]?=some t.place[i]:=RV his;have hz:(t.place[i],el)∈t.place.toList.zip es.toList:=by
  rw[UT];refine⟨i,?_⟩;rw[List.getElem?_zip_eq_some];exact⟨by simpa using hp,YN⟩
 obtain⟨n,r1,r2⟩:=(S.full.reach _ hz).at;have e3':el.1=X.knd.hash k:=e3;dsimp only at r1 r2;rw[e3'] at r1 r2;refine⟨n,i,?_,by rw[r1];exact hp,hki⟩;rcases Xz n N with z|z|z
 .exact z
 .subst z;rw[r1] at hN;exact Mw (by simp) hN
 .exact Mw (r2 N z) hN
theorem uW (S:Rz X s.heap a o es ep t ks)(hr:X.knd.room A)(hb:X.knd.is s.heap k b)(hN:(Sa.MT t (X.knd.hash k) N).j∉t.place.toList)(Nw:∀m,m<N->(Sa.MT t (X.knd.hash k) m).j∈t.place.toList)(aga:N<10*(t.mask+14))(h1:k∈ks->Q (.there none) s)(h2:k∉ks->Q (.free (Sa.MT t (X.knd.hash k) N).j false) s):
  ∀d m fuel (st:Option Probe),N-m=d->m<=N->d<fuel->st.getD (t.probeStart (X.knd.hash k))=Sa.MT t (X.knd.hash k) m->(∀q,q<m->∀i:Nat,t.place[i]?=some (Sa.MT t (X.knd.hash k) q).j->ks[i]?≠some k)->
   Ml (Mr prog w) A (setSearchFrom a (.ref b) (X.knd.hash k) true fuel st) Q E s:=by
 intro d
 induction d using Nat.strongRecOn with
 | ind d ih=>
  intro m fuel st hd hm hf RE pre
  obtain⟨fuel,rfl⟩:∃f,fuel=f+1:=⟨fuel-1,by lia⟩
  rw[yH]
  refine Mf (Pm S.ob S.dt S.fits ?_)
  dsimp only
  rw[Mq (by unfold NJ.gaveWay;rw[odd S.full.tab.Oj];exact Oo)]
  obtain⟨m',a1,a2,a3,a4⟩:=o8 (H:=λi=>(es[i]?.map (·.1)).getD 0) S.full.tab hN Nw (10*turns t.mask) m hm (by unfold turns;lia)
  have NI:∀q,m<=q->q<m'->∀i:Nat,t.place[i]?=some (Sa.MT t (X.knd.hash k) q).j->ks[i]?≠some k:=λq b1 b2 i hi z=>by
   obtain⟨e,k',c1,c2,_,_,_,c3⟩:=BP S hi
   have:=a4 q b1 b2 i hi
   rw[c2] at z
   cases z
   simp[c1] at this
   exact this c3
  rw[RE]
  unfold probe
  rcases a3 with⟨e0,eg⟩|⟨lt,i,hi,hh,eg⟩
  .rw[eg]
   subst e0
   refine Mm (h2 λhk=>?_)
   obtain⟨n,i,n1,n2,n3⟩:=Ep S hk hN
   rcases Pn n m with z|z
   .exact pre n z i n2 n3
   .exact NI n z n1 i n2 n3
  .rw[eg]
   obtain⟨e,k',c1,c2,c,c3,c4,c5⟩:=BP S hi
   obtain⟨eh,ev⟩:=e
   dsimp only at c3 c5
   subst c3
   dsimp only
   have body:Ml (Mr prog w) A (do
     let some (_,y):=es[i]? | unsupported "internal:set-entry"
     let equal <-holding [y] (eqBool y (.ref b))
     let (OI,_,t') <-setState a
     if true&&equal then return .there none
     let some same:=t'.sameMemory t.moves t.mask|unsupported "set.changed-during-lookup:is-the-new-block-at-the-old-address"
     let abw <-match (if same then t'.slot (Sa.MT t (X.knd.hash k) m').j else .empty) with
      | .live i'=>match OI[i']? with
       | some (_,y')=>do pure (if <-isSame y' y then some i' else none)
       | none=>pure none
      | _=>pure none
     match abw with
     | none=>rule "set.search.anew";setSearchFrom a (.ref b) (X.knd.hash k) true fuel none
     | some i'=>if equal then return .there (some i') else setSearchFrom a (.ref b) (X.knd.hash k) true fuel (some (Sa.MT t (X.knd.hash k) (m'+1)))) Q E s:=by
    rw[c1]
    dsimp only
    refine Mf (O2 (X.knd.eqBool hr c4 hb (Mf (Pm S.ob S.dt S.fits ?_))))
    dsimp only
    by_cases z:k'=k
    .subst z
     rw[M6 rfl]
     exact Mm (h1 (N1 c2))
    .rw[M4 z]
     simp only[aaU,NT,if_false]
     have sm:t.sameMemory t.moves t.mask=some true:=by unfold sameMemory;simp
     rw[sm]
     dsimp only
     rw[Mu rfl,Sa.XT S.full.tab hi]
     dsimp only
     rw[c1]
     dsimp only
     refine Mf (wpAny_isSame_ref_self (Mf (Mm ?_)))
     rw[Mu rfl]
     dsimp only
     refine ih (N-(m'+1)) (by lia) (m'+1) fuel _ rfl (by lia) (by lia) rfl λq hq i' OK=>?_
     rcases Pn q m with y|y
     .exact pre q y i' OK
     .rcases Pn q m' with x|x
      .exact NI q y x i' OK
      .obtain rfl:q=m':=by lia
       have e1:=Sa.XT S.full.tab hi
       have e2:=Sa.XT S.full.tab OK
       rw[e1] at e2
       cases e2
       rw[c2]
       intro w'
       cases w'
       exact z rfl
   cases aaa:t.led with
   | true=>
    simp only[aaa,QX,NT,if_false]
    exact body
   | false=>
    simp only[aaa,Bool.not_false,if_true]
    refine Mf (wP hb _ (λv hv=>?_) ?_)
    .obtain⟨x,hx,rfl⟩:=Nm.mp hv
     have hx':x∈es.toList:=by
      rw[Array.toList_filter] at hx
      exact(O9.mp hx).1
     obtain⟨k2,_,b2,e2,g2,_⟩:=eT S.el x hx'
     exact⟨b2,k2,e2,g2⟩
    .simp only[NT,if_false]
     exact body
theorem yI (S:Rz X s.heap a o es ep t ks)(hr:X.knd.room A)(hb:X.knd.is s.heap k b)(h1:k∈ks->Q (.there none) s)(h2:k∉ks->∀N,(Sa.MT t (X.knd.hash k) N).j∉t.place.toList->(∀m,m<N->(Sa.MT t (X.knd.hash k) m).j∈t.place.toList)->Q (.free (Sa.MT t (X.knd.hash k) N).j false) s):Ml (Mr prog w) A (setSearch a (.ref b) (X.knd.hash k) true) Q E s:=by
 obtain⟨N,n1,n2,n3⟩:=Sa.meets S.full.tab (X.knd.hash k) (by have:=S.MW;lia);have hm:t.mask<=255:=by rcases S.full.tab.Oj with e|e|e|e|e|e <;> lia
 exact uW S hr hb n2 n3 n1 h1 (λz=>h2 z N n2 n3) N 0 100000 none rfl (NX _) (by lia) rfl λq hq=>Mw hq (ZR _)
end
theorem tz (a:D')(x:G')(h:Int)(fuel:Nat):setAddHashedIn a x h (fuel+1)=(do
  let (adb,_,t₀) <-setState a
  if byScan x adb then
   match <-setAddByScan a x h adb t₀ with
   | some added=>return added
   | none=>return <-setAddHashedIn a x h fuel
  let .free slot aeN <-setSearch a x h (adding:=true)|return false
  let (es,_,t) <-setState a
  let (t,p):=t.put slot
  let byValue <-if t.plain then hashByValue 8 x else pure true
  let t:=if byValue then t else { t with plain:=false }
  storeSet a (NJ.insertAt es p (h,x)) t
  if !aeN&&t.tooFull then setRelay a (NJ.grown (es.size+1))
  return true):=rfl
theorem tD (a:D')(wanted:Nat):setRelay a wanted=(do
  let (es,_,t) <-setState a
  if NJ.sizeAbove wanted > Mz then unsupported "set:memory"
  let (es,t) <-(do
   let some (t,order):=t.relaid (es.map (·.1)) wanted|unsupported "internal:set-table-without-room"
   let OI:=order.filterMap (es[·]?)
   if OI.size != es.size then unsupported "internal:set-table-lost-an-element"
   pure (OI,t):Pb (Array (Int×G')×NJ))
  storeSet a es t):=rfl
theorem gx {α β:Type}{R:α->β->Prop}{l l':List α}(p:l'.Perm l):∀{m:List β},MC R l m->∃m',MC R l' m'/\m'.Perm m:=by
 induction p with
 | nil=>intro m r;exact⟨m,r,ZU _⟩
 | cons x _ ih=>
  intro m r;cases r with
  | cons h t=>
   obtain⟨m',r',p'⟩:=ih t;exact⟨_,.cons h r',p'.cons _⟩
 | swap x y l=>
  intro m r;cases r with
  | cons h1 t=>
   cases t with
   | cons h2 t=>exact⟨_,.cons h2 (.cons h1 t),aeJ _ _ _⟩
 | trans _ _ ih1 ih2=>
  intro m r;obtain⟨m1,r1,p1⟩:=ih2 r;obtain⟨m2,r2,p2⟩:=ih1 r1;exact⟨m2,r2,p2.trans p1⟩
section
variable {prog:MD}{w:Mt}{K:Type} [DecidableEq K] {A:ML}{E:G'->Md->Prop}{s:Md}{X:Qq prog w K}{a:D'}{o:Mc}{es:Array Sa.Oa}{ep:Nat}{t:NJ}{ks:List K}
theorem kZ (x:El X h e k)(kp:∀b o,o.cls=.type "tuple"->h.get? b=some o->h'.get? b=some o):El X h' e k:=
 let ⟨b,e1,e2,e3⟩:=x;⟨b,e1,X.keep e2 kp,e3⟩
theorem gB {h:Mp}(ho:h.get? a=some o)(hx:o.ExactSet)(hd:o.data=.set es ep t)(OI:Array Sa.Oa)(t':NJ):
  (h.update a (Wa OI t')).get? a=some { o with data:=.set OI (ep+1) t' }/\(∀b u,b≠a->h.get? b=some u->(h.update a (Wa OI t')).get? b=some u)/\∀b u,u.cls=.type "tuple"->h.get? b=some u->(h.update a (Wa OI t')).get? b=some u:=by
 have ot:∀b u,b≠a->h.get? b=some u->(h.update a (Wa OI t')).get? b=some u:=λb u hb q=>(S0 _ _ (M' hb)).trans q;refine⟨?_,ot,λb u hc q=>ot b u ?_ q⟩
 .have z:=ZB (Wa OI t') ho (by rw[putSet_of OI t' hd];rfl);rw[putSet_of OI t' hd] at z;exact z
 .rintro rfl;rw[ho] at q;cases q;rw[hx.1] at hc;injection hc with hc
  exact Mw hc (by decide)
def HR (X:Qq prog w K)(a:D')(k:K)(ks:List K)(led:Bool)(h h':Mp):Prop:=
 (∀b u,b≠a->h.get? b=some u->h'.get? b=some u)/\∃o es ep t N8,Rz X h' a o es ep t N8/\t.led=led/\(k∈ks->N8=ks)/\(k∉ks->N8.Perm (k::ks))
theorem AZ (ho:s.heap.get? a=some o)(hx:o.ExactSet)(hd:o.data=.set es ep t)(F:Sa.Full t es)(hle:t.place.size<=t.mask)(pl:t.plain=true)(el:MC (El X s.heap) es.toList ks)(nd:ks.Nodup)(hM:Sa.Mk M)(hz:sizeAbove n=M+1)(hs:es.size*5<M*3)(h:∀h',(∀b u,b≠a->s.heap.get? b=some u->h'.get? b=some u)->(∃o es ep t' N8,Rz X h' a o es ep t' N8/\t'.led=t.led/\N8.Perm ks)->Q () { s with heap:=h' }):Ml (Mr prog w) A (setRelay a n) Q E s:=by
 have hf:t.fits es.size=true:=by
  unfold aa0 RY;rw[F.tab.Sj,F.size];rw[F.size] at hle;simp;exact hle
 rw[tD];refine Mf (Pm ho hd hf ?_);dsimp only;have hM':M<=255:=by rcases hM with e|e|e|e|e|e <;> lia
 rw[Mq (by rw[hz,Nf];lia)];obtain⟨t',order,e1,e2,e3,e4,e5,e6,e7⟩:=Sa.ac4 (mask:=M) (finger:=t.finger) (moves:=t.movedTo M) (led:=t.led) (plain:=t.plain) hM es (by lia);have er:t.relaid (es.map (·.1)) n=some (t',order):=by
  unfold relaid;rw[hz];exact e1
 rw[er];dsimp only;have ne:((order.filterMap (es[·]?)).size != es.size)=false:=by rw[e5];simp
 rw[ne];simp only[NT,if_false];refine Mf (Mm (ZL ho hd ?_ (by rw[e5,Nf];lia)));obtain⟨g1,g2,g3⟩:=gB ho hx hd (order.filterMap (es[·]?)) t';obtain⟨N8,q1,q2⟩:=gx e6 el;refine h _ g2 ⟨_,_,_,t',N8,⟨g1,hx,rfl,e7,?_,by rw[e3];exact pl,aD (λ_ _ z=>kZ z g3) q1,q2.nodup_iff.mpr nd⟩,e4,q2⟩;rw[e7.size,e2,e5];exact hs
theorem Er (S:Rz X s.heap a o es ep t ks)(hr:X.knd.room A)(hb:X.knd.is s.heap k b)(hl:ks.length<70)(h:∀h' f,HR X a k ks t.led s.heap h'->Q f { s with heap:=h' }):Ml (Mr prog w) A (setAddHashed a (.ref b) (X.knd.hash k)) Q E s:=by
 unfold setAddHashed;refine O2 ?_;show Ml _ _ (setAddHashedIn a (.ref b) (X.knd.hash k) (99999+1)) _ _ _;rw[tz];refine Mf (Pm S.ob S.dt S.fits ?_);dsimp only;have bs:byScan (.ref b) es=false:=by unfold byScan G'.scannable;rfl
 rw[bs];simp only[NT,if_false];have len:es.size=ks.length:=by rw[<-Od];exact S.el.length
 refine Mf (yI S hr hb (λhk=>?_) λhk N n1 n2=>?_)
 .exact Mm (h s.heap false ⟨λ_ _ _ q=>q,o,es,ep,t,ks,S,rfl,λ_=>rfl,λz=>Mw hk z⟩)
 .dsimp only;refine Mf (Pm S.ob S.dt S.fits ?_);dsimp only;obtain⟨p1,p2,p3,p4,p5,p6,p7⟩:=Sa.abl S.full.tab (Sa.MT t (X.knd.hash k) N).j;have F':=Sa.ac3 S.full (e:=(X.knd.hash k,.ref b)) n1 n2;dsimp only at F';obtain⟨bl,_,_⟩:=Sa.Tg S.full.tab.rise (Sa.MT t (X.knd.hash k) N).j;have sz:=F'.size;have fs:=S.full.size;have Q5:(insertAt es (t.put (Sa.MT t (X.knd.hash k) N).j).2 (X.knd.hash k,Nd b)).size=es.size+1:=Sa.δ _ _ (by rw[p1];lia);rw[p5,S.pl];simp only[if_true];refine Mf (X.X1 hb ?_);simp only[if_true];generalize (t.put (Sa.MT t (X.knd.hash k) N).j).1=t' at *;generalize (t.put (Sa.MT t (X.knd.hash k) N).j).2=p at *;refine Mf (ZL S.ob S.dt ?_ (by rw[Q5,Nf];lia));obtain⟨g1,g2,g3⟩:=gB S.ob S.ex S.dt (insertAt es p (X.knd.hash k,Nd b)) t';have el':MC (El X (s.heap.update a (Wa (insertAt es p (X.knd.hash k,Nd b)) t'))) (insertAt es p (X.knd.hash k,Nd b)).toList (ks.take p++k::ks.drop p):=by
   rw[Sa.Uj];have el0:=aD (λ_ _ z=>kZ z g3) S.el;exact cJ (rB p el0) (.cons ⟨b,rfl,X.keep hb g3,rfl⟩ (rC p el0))
  have pm:(ks.take p++k::ks.drop p).Perm (k::ks):=by
   refine List.perm_middle.trans ?_;rw[T9]
  have UF:(ks.take p++k::ks.drop p).Nodup:=pm.nodup_iff.mpr (Py.mpr ⟨hk,S.nd⟩);have MW:=S.MW;have afy:t'.place.size<=t'.mask:=by rw[sz,Q5,p2];lia
  have ps:t'.place.size=es.size+1:=by rw[sz,Q5]
  by_cases full:t'.tooFull=true
  .rw[Mu (by rw[full];rfl)];have full:t'.fill*5 >= t'.mask*3:=by simpa [acx] using full
   unfold RY at full;rw[p4,ps,p2] at full;simp only[ND,Ud,aa2,Array.size_empty] at full;rw[fs] at MW;have key:∃M,Sa.Mk M/\sizeAbove (grown (es.size+1))=M+1/\(es.size+1)*5<M*3:=by
    rcases S.full.tab.Oj with e|e|e|e|e|e
    .rw[e] at MW full;have:es.size=4:=by lia
     rw[this];exact⟨31,.inr (.inl rfl),by decide,by decide⟩
    .rw[e] at MW full;have:es.size=18:=by lia
     rw[this];exact⟨127,.inr (.inr (.inl rfl)),by decide,by decide⟩
    .rw[e] at MW full;lia
    .rw[e] at MW full;have:es.size=8:=by lia
     rw[this];exact⟨63,.inr (.inr (.inr (.inr (.inl rfl)))),by decide,by decide⟩
    .rw[e] at MW full;have:es.size=37:=by lia
     rw[this];exact⟨255,.inr (.inr (.inr (.inr (.inr rfl)))),by decide,by decide⟩
    .rw[e] at MW full;lia
   obtain⟨M,m1,m2,m3⟩:=key;refine Mf (AZ (s:={ s with heap:=s.heap.update a (Wa (insertAt es p (X.knd.hash k,Nd b)) t') }) g1 S.ex rfl F' afy (by rw[p5,S.pl]) el' UF m1 m2 (by rw[Q5];exact m3) λh' k1 ⟨o2,PR,Qh,t2,P3,S2,l2,pm2⟩=>?_);exact Mm (h h' true ⟨λb' u O7 q=>k1 b' u O7 (g2 b' u O7 q),o2,PR,Qh,t2,P3,S2,l2.trans p6,λz=>Mw z hk,λ_=>pm2.trans pm⟩)
  .have nf:t'.tooFull=false:=by simpa using full
   rw[Mq (by rw[nf];simp)];refine Mm (h _ true ⟨g2,_,_,_,t',_,⟨g1,S.ex,rfl,F',?_,by rw[p5,S.pl],el',UF⟩,p6,λz=>Mw z hk,λ_=>pm⟩);have nf:¬t'.fill*5 >= t'.mask*3:=by simpa [acx] using nf
   unfold RY at nf;rw[p4] at nf;simp only[ND,Ud,aa2,Array.size_empty] at nf;lia
end
section
variable {prog:MD}{w:Mt}{K:Type} [DecidableEq K] {A:ML}{E:G'->Md->Prop}{X:Qq prog w K}
abbrev A0 (X:Qq prog w K)(h:Mp)(v:G')(k:K):Prop:=∃b,v=Nd b/\X.knd.is h k b
structure aab (X:Qq prog w K)(h:Mp)(S:D')(keys:List K)(led:Bool):Prop where
 ex:∃o es ep t ks,Rz X h S o es ep t ks/\(∀k,k∈ks↔k∈keys)/\t.led=led
theorem A2 {led:Bool}(hh:A.in1.handled=none)(hr:X.knd.room A.in1)(hI:I≠l)(hSI:S≠I)(hSl:S≠l)(p:MC (A0 X h0) items.toList keys)(hl:keys.length<70):
  ∀(d i:Nat) (s:Md),items.size-i=d->i<=items.size->(s.heap.IsListIter I l i/\s.heap.IsList l items)->(∀b o,b≠S->b≠I->h0.get? b=some o->s.heap.get? b=some o)->(∀b o,h0.get? b=some o->b≠S/\b≠I)->
   aab X s.heap S (keys.take i) led->
   (∀h' tk,(∀b o,b≠S->b≠I->s.heap.get? b=some o->h'.get? b=some o)->aab X h' S keys led->R (.ok (.ret .none)) { s with heap:=h',toks:=tk })->
   codeAny (Mr prog w) A (.builtin "set.update.loop" ⟨[.ref S,.ref I],[]⟩) R s:=by
 have W:=Walks.list (prog:=prog) (w:=w) hh I l (M' hI) items;have kl:items.size=keys.length:=by rw[<-Od];exact p.length
 intro d
 induction d with
 | zero=>
  intro i s hd hi st kp nw F h;obtain rfl:i=items.size:=by lia
  refine Sr adE ?_;rw[VI abM _];show Ml _ A.in1 (pyNext (.ref I) >>= _) _ _ s;refine Mf (W.done s _ _ st λh' tk k1=>?_);show Ml _ A.in1 (ret Sv) _ _ _;have up:∀b o,b≠I->s.heap.get? b=some o->h'.get? b=some o:=λb o hb e=>k1 b o (by simpa using hb) e;refine Mm (h h' tk (λb o _ hb e=>up b o hb e) ?_);obtain⟨o,es,ep,t,ks,S1,m,ld⟩:=F;rw[kl,QB] at m;refine⟨o,es,ep,t,ks,⟨up S o hSI S1.ob,S1.ex,S1.dt,S1.full,S1.MW,S1.pl,aD (λ_ _ z=>kZ z λb u hc q=>?_) S1.el,S1.nd⟩,m,ld⟩;refine up b u ?_ q;rintro rfl;obtain⟨⟨oi,ei,ci,_⟩,_⟩:=st;rw[ei] at q;cases q;rw[ci] at hc;injection hc with hc
  exact Mw hc (by decide)
 | succ d ih=>
  intro i s hd hi st kp nw F h;have Nw:i<items.size:=by lia
  refine Sr adE ?_;rw[VI abM _];show Ml _ A.in1 (pyNext (.ref I) >>= _) _ _ s;refine Mf (W.item i s _ _ Nw st λv h1 tk hv st1 k1=>?_);have up:∀b o,b≠I->s.heap.get? b=some o->h1.get? b=some o:=λb o hb e=>k1 b o (by simpa using hb) e;obtain⟨k,hk,b,rfl,hb⟩:=cp (i:=i) (a:=v) p (by rw[S7];exact hv);have hb1:X.knd.is h1 k b:=X.keep hb λb' o' _ q=>up b' o' (nw b' o' q).2 (kp b' o' (nw b' o' q).1 (nw b' o' q).2 q);obtain⟨o,es,ep,t,ks,S1,m,ld⟩:=F;have S2:Rz X h1 S o es ep t ks:=⟨up S o hSI S1.ob,S1.ex,S1.dt,S1.full,S1.MW,S1.pl,aD (λ_ _ z=>kZ z λb' u hc q=>up b' u (by
   rintro rfl;obtain⟨⟨oi,ei,ci,_⟩,_⟩:=st;rw[ei] at q;cases q;rw[ci] at hc;injection hc with hc
   exact Mw hc (by decide)) q) S1.el,S1.nd⟩
  show Ml _ A.in1 (holding [Nd b] (setAdd S (.ref b)) >>= _) _ _ _;refine Mf (O2 ?_);unfold setAdd;refine O2 (Mf (X.knd.pyHash hr hb1 ?_));have MW:ks.length<70:=by
   have:ks.length<=(keys.take i).length:=by
    have key:∀(a c:List K),a.Nodup->(∀x∈a,x∈c)->a.length<=c.length:=by
     intro a
     induction a with
     | nil=>intro c _ _;exact NX _
     | cons x a ih'=>
      intro c nd hs;rw[Py] at nd;have hx:=hs x MO;have:=ih' (c.erase x) nd.2 λy hy=>(aci (by rintro rfl;exact nd.1 hy)).mpr (hs y (Na _ hy));rw[aar hx] at this;have hp:0<c.length:=Zz hx;simp only[N'];lia
    exact key ks _ S1.nd λx hx=>(m x).mp hx
   rw[Ph] at this;lia
  refine Er (s:={ s with heap:=h1,toks:=tk+X.knd.draws k }) S2 hr hb1 MW λh2 f ⟨k2,o2,PR,Qh,t2,P3,S3,ld2,q1,q2⟩=>?_;refine Mm ⟨ZZ abM _,ih (i+1) _ (by lia) (by lia) ?_ (λb' o' z1 z2 q=>k2 b' o' z1 (up b' o' z2 (kp b' o' z1 z2 q))) nw ⟨o2,PR,Qh,t2,P3,S3,λx=>?_,ld2.trans ld⟩ λh3 tk3 k3 F3=>?_⟩
  .obtain⟨⟨oi,ei,ci⟩,ol,el,cl⟩:=st1;exact⟨⟨oi,k2 I oi (M' hSI) ei,ci⟩,ol,k2 l ol (M' hSl) el,cl⟩
  .rw[So,hk,Ny];simp only[VN,N3]
   by_cases z:k∈ks
   .rw[q1 z,m x];constructor
    .exact .inl
    .rintro(y|rfl)
     .exact y
     .exact(m _).mp z
   .rw[(q2 z).mem_iff,M0,m x];exact or_comm
  .exact h h3 tk3 (λb' o' z1 z2 q=>k3 b' o' z1 z2 (k2 b' o' z1 (up b' o' z2 q))) F3
theorem yJ {led:Bool}(e:h.get? S=some { cls:=.type "set",dict:=none,data:=.set #[] 0 (.fresh 0 0 led) }):aab X h S [] led:=
 ⟨_,#[],0,.fresh 0 0 led,[],⟨e,⟨rfl,rfl,rfl⟩,rfl,⟨⟨.inl rfl,T',λj hj=>(QC hj).elim,rfl⟩,rfl,λx hx=>(QC hx).elim⟩,(by show 0*5<7*3;decide),rfl,.nil,Ue⟩,λ_=>Iff.rfl,rfl⟩
abbrev bH (led:Bool):Mc:={ cls:=.type "set",dict:=none,data:=.set #[] 0 (.fresh 0 0 led) }
abbrev bL (w:Mt):Bool:=!(w.params.followText "set-order")
theorem CV (h:Q₁ (.ref s.heap.objs.size) { s with heap:=s.heap.push (bH (bL w)) }):
  codeAny (Mr prog w) A (.call (.builtin "set.__new__") ⟨[.type "set",x],[]⟩) (wants Q₁ E) s:=by
 refine codeAny_of_tree (Mf (wpAny_of_eq (PySem.F.newCall_set_1 x) (Mm ⟨ZZ aei _,Sr PySem.F.entry_set_new ?_⟩)));rw[VI aei _];have c1:=sub_set_self;unfold PH.«set.__new__» PH.Frozenset.newClass;obtain⟨hp,g,d,tk,os⟩:=s;dsimp only at h ⊢;wp_walk;refine ZP (Mm ?_);dsimp only;simp only[newObj];exact Mf (wpAny_alloc (Mm (Mm h)))
theorem yK (h:Ml (Mr prog w) A.in1.in1 (PH.«set.__init__» ⟨[.ref s.heap.objs.size,x],[]⟩) (λfin s'=>∃r,fin=.done (.ret r)/\r=.none/\Q (.ref s.heap.objs.size) s') E { s with heap:=s.heap.push (bH (bL w)) }):
  Ml (Mr prog w) A (call (.type "set") [x]) Q E s:=by
 have T:=PySem.F.called_set;obtain⟨c,tl,adk⟩:=T.mro;have c1:=T.made;have c2:=T.sub;have c3:=T.notType;have c4:=T.canCreate;have c5:=PySem.F.typeCall_set_1 x;refine Z5 (codeAny_of_tree (Mm ⟨acl _ (by decide +kernel),Sr PySem.F.entry_type_call ?_⟩));rw[ML.under_plain (weight_type_call_type "set" [x] []) rfl]
 repeat (any_goals (first|assumption|wp_step))
 refine Ug (CV (x:=x) (E:=E) (Q₁:=λobj MN=>obj=.ref s.heap.objs.size/\MN={ s with heap:=s.heap.push (bH (bL w)) }) ⟨rfl,rfl⟩) λr MN q=>?_
 match r,q with
 | .error e,q=>exact q
 | .ok (.ret obj),⟨e1,e2⟩=>
  subst e1 e2;have ty:XJ { s with heap:=s.heap.push (bH (bL w)) } (.ref s.heap.objs.size) "set":=⟨_,NV _ rfl,rfl⟩
  have c6:=T.init.lookup;have c7:=T.init.bind (.ref s.heap.objs.size)
  repeat (any_goals (first|assumption|wp_step))
  refine Ug (ach (R:=wants (λr M1=>r=.none/\Q (.ref s.heap.objs.size) M1) E) T.init.plain PySem.F.entry_set_init (check_set_init_1 ty (QZ h (λfin s' ⟨r,e,z⟩=>?_) λ_ _ z=>z))) λafz M1 aac=>?_
  .subst e;exact z
  .match afz,aac with
   | .error e,aac=>exact aac
   | .ok (.ret r),⟨e3,aac⟩=>
    subst e3
    repeat (any_goals (first|assumption|wp_step))
end
section
variable {prog:MD}{w:Mt}{K:Type} [DecidableEq K] {A:ML}{E:G'->Md->Prop}{X:Qq prog w K}{s:Md}
theorem uX (hh:A.handled=none)(hr:X.knd.room A.in1.in1.in1)(hl:s.heap.IsList l items)(p:MC (A0 X s.heap) items.toList keys)(hn:keys.length<70)(h:∀h' tk,(∀b o,s.heap.get? b=some o->h'.get? b=some o)->aab X h' s.heap.objs.size keys (bL w)->Q (.ref s.heap.objs.size) { s with heap:=h',toks:=tk }):Ml (Mr prog w) A (call (.type "set") [.ref l]) Q E s:=by
 refine yK ?_;generalize aaa:bL w=led at h ⊢;obtain⟨⟨agb,ae2,af5,aeR⟩,UG,Pe,nl,hdl⟩:=hl;simp only at Pe hdl;subst Pe hdl;have lt:l<s.heap.objs.size:=MS UG;have hS:(s.heap.push (bH led)).get? s.heap.objs.size=some (bH led):=NV _ rfl;have hT:XJ { s with heap:=s.heap.push (bH led) } (.ref s.heap.objs.size) "set":=⟨_,hS,rfl⟩
 have afA:(s.heap.push (bH led)).get? l=some { cls:=.type "list",dict:=ae2,data:=.seq items nl,slots:=aeR }:=MZ _ UG;have n1:=PySem.F.sub_list_set;have n2:=PySem.F.sub_list_frozenset;have n3:(QE "list"==QE "dict")=false:=by decide
 have Qi:(s.heap.push (bH led)).IsList l items:=⟨_,afA,rfl,nl,rfl⟩
 unfold PH.«set.__init__» noKeywords aal;generalize hPI:pyIter=PI;wp_walk;subst hPI;refine acp Qi (Mf (acJ ?_));have Q5:(s.heap.push (bH led)).objs.size=s.heap.objs.size+1:=XH ..;refine A2 (X:=X) (h0:=s.heap) (S:=s.heap.objs.size) (I:=(s.heap.push (bH led)).objs.size) (l:=l) (items:=items) (keys:=keys) ?_ ?_ (by rw[Q5];exact Su (Xx lt)) (by rw[Q5];exact M8 (XA _)) (Su lt) p hn (items.size-0) 0 _ rfl (NX _)
  ⟨⟨_,NV _ rfl,rfl,rfl⟩,Qi.push _⟩ (λb o _ _ e=>MZ _ (MZ _ e)) (λb o e=>⟨M8 (MS e),by rw[Q5];exact M8 (Xx (MS e))⟩)
  (yJ (led:=led) (MZ _ hS)) λh' tk k1 F=>?_
 .simp[hh]
 .exact hr
 .refine Mm ?_;refine Mm ⟨_,rfl,rfl,h h' tk (λb o e=>?_) F⟩;exact k1 b o (M8 (MS e)) (by rw[Q5];exact M8 (Xx (MS e))) (MZ _ (MZ _ e))
end
section
theorem tE (n:Nat)(tp:s.heap.IsTuple a items)(hv:∀v∈items.toList,∀(Q:Bool->Md->Prop),Q true s->Ml (Mr prog w) A (hashByValue n v) Q E s)(h:Q true s):
  Ml (Mr prog w) A (hashByValue (n+1) (.ref a)) Q E s:=by
 have hT:=fN tp;obtain⟨o,ho,Pe,n',hd⟩:=tp;unfold hashByValue;refine Mf (VW hT ZK.lookup ?_);refine Mf (aaV ho hd ?_);refine Mf ?_;show Ml _ _ (forIn items _ _) _ _ s;rw[<-ZF];refine Rb _ (λrest r s'=>r.1=none/\s'=s/\∀v∈rest,v∈items.toList) _ ?turn ?fin _ _ ⟨rfl,rfl,λv hv=>hv⟩
 case turn=>
  rintro v rest ⟨r1,r2⟩ s' ⟨hr,e,all⟩;simp only at hr;subst e hr;refine Mf (hv v (all v MO) _ ?_);simp only[QX,NT,if_false];exact Mm ⟨rfl,rfl,λu hu=>all u (Na _ hu)⟩
 case fin=>
  rintro⟨r1,r2⟩ s' ⟨hr,e,_⟩;simp only at hr;subst e hr;exact Mm h
theorem tF (n:Nat)(tp:s.heap.IsTuple a items)(hv:∀v∈items.toList,∀(Q:Bool->Md->Prop),Q false s->Ml (Mr prog w) A (ofAClassStatement n v) Q E s)(h:Q false s):
  Ml (Mr prog w) A (ofAClassStatement (n+1) (.ref a)) Q E s:=by
 have hT:=fN tp;obtain⟨o,ho,Pe,n',hd⟩:=tp;unfold ofAClassStatement;refine Mf (V6 hT ?_);dsimp only;rw[Mu (by decide)];refine Mf (Mm ?_);simp only[QX,NT,if_false];refine Mf (aaV ho hd ?_);dsimp only;refine Mf ?_;rw[<-ZF];refine Rb _ (λrest r s'=>r.1=none/\s'=s/\∀v∈rest,v∈items.toList) _ ?turn ?fin _ _ ⟨rfl,rfl,λv hv=>hv⟩
 case turn=>
  rintro v rest ⟨r1,r2⟩ s' ⟨hr,e,all⟩;simp only at hr;subst e hr;refine Mf (hv v (all v MO) _ ?_);simp only[NT,if_false];exact Mm ⟨rfl,rfl,λu hu=>all u (Na _ hu)⟩
 case fin=>
  rintro⟨r1,r2⟩ s' ⟨hr,e,_⟩;simp only at hr;subst e hr;exact Mm h
theorem tG (n:Nat)(x:bI s.heap ks a)(h:Q true s):Ml (Mr prog w) A (hashByValue (n+1) (.ref a)) Q E s:=by
 obtain⟨i,t,r⟩:=x;refine tE n t (λv hv Q' q=>?_) h;obtain⟨k,_,t',e⟩:=eT r v hv;subst e;cases n <;> exact Mm q
theorem tI (n:Nat)(x:bI s.heap ks a)(h:Q false s):Ml (Mr prog w) A (ofAClassStatement (n+1) (.ref a)) Q E s:=by
 obtain⟨i,t,r⟩:=x;refine tF n t (λv hv Q' q=>?_) h;obtain⟨k,_,t',e⟩:=eT r v hv;subst e;cases n <;> exact Mm q
theorem yL (n:Nat)(x:de s.heap M7 a)(h:Q true s):Ml (Mr prog w) A (hashByValue (n+2) (.ref a)) Q E s:=by
 obtain⟨i,t,r⟩:=x;refine tE (n+1) t (λv hv Q' q=>?_) h;obtain⟨ks,_,b,e,g⟩:=eT r v hv;subst e;exact tG n g q
theorem yM (n:Nat)(x:de s.heap M7 a)(h:Q false s):Ml (Mr prog w) A (ofAClassStatement (n+2) (.ref a)) Q E s:=by
 obtain⟨i,t,r⟩:=x;refine tF (n+1) t (λv hv Q' q=>?_) h;obtain⟨ks,_,b,e,g⟩:=eT r v hv;subst e;exact tI n g q
theorem mq (x:bI h ks a)(k:∀b o,o.cls=.type "tuple"->h.get? b=some o->h'.get? b=some o):bI h' ks a:=by
 obtain⟨i,⟨o,e,c,n,d⟩,r⟩:=x;exact⟨i,⟨o,k _ _ c e,c,n,d⟩,r⟩
theorem yN (x:de h M7 a)(k:∀b o,o.cls=.type "tuple"->h.get? b=some o->h'.get? b=some o):de h' M7 a:=by
 obtain⟨i,⟨o,e,c,n,d⟩,r⟩:=x;exact⟨i,⟨o,k _ _ c e,c,n,d⟩,aD (λ_ _ ⟨b,e,q⟩=>⟨b,e,mq q k⟩) r⟩
end
def Es (prog)(w):HeapKind prog w (List Int) where
 is:=bI
 hash:=fM
 draws:=λks=>ks.length+1
 room:=λA=>A.units<MQ
 inj:=λp q=>p.inj q
 keeps:=λp ho hd hs=>p.keeps ho hd hs
 pyHash:=λhu hk h=>jX hu hk h
 eqBool:=λhu hx hy h=>wK hu hx hy _ _ _ _ h
 quiet:=λhk h=>mh 7 hk h
def itE (prog)(w):Qq prog w (List Int) where
 knd:=Es prog w
 X1:=λhk h=>tG 7 hk h
 Wf:=λhk h=>tI 7 hk h
 keep:=λhk k=>mq hk k
def HU (prog)(w):Qq prog w (List (List Int)) where
 knd:=hG prog w
 X1:=λhk h=>yL 6 hk h
 Wf:=λhk h=>yM 6 hk h
 keep:=λhk k=>yN hk k
theorem eM:Slot "set_iterator" "__next__" "set_iterator.__next__":=
 .of (owner:="set_iterator") (n:="__next__") (by rw[acG,acb];kernel_rfl) (by decide +kernel) (by decide +kernel) (by decide +kernel)
  (by first|exact .inl (by decide +kernel)|exact .inr (by decide +kernel)) (by rw[ZV];kernel_rfl)
theorem lN:entryFor table "set_iterator.__next__"=some PH.«set_iterator.__next__»:=entryFor_of_tree (by kernel_rfl)
theorem nC (a):argsOk "set_iterator.__next__" ⟨[a],[]⟩:=by unfold argsOk;kernel_rfl
theorem iw:Slot "set_iterator" "__iter__" "set_iterator.__iter__":=
 .of (owner:="set_iterator") (n:="__iter__") (by rw[acG,acb];kernel_rfl) (by decide +kernel) (by decide +kernel) (by decide +kernel)
  (by first|exact .inl (by decide +kernel)|exact .inr (by decide +kernel)) (by rw[ZV];kernel_rfl)
theorem o9:entryFor table "set.__iter__"=some PH.«frozenset.__iter__»:=
 acL (id':="frozenset.__iter__") (by kernel_rfl) rfl (by decide +kernel) (by kernel_rfl)
theorem nE {α:Type}:∀{l:List α}{i:Nat}(h:i<l.length),(l[i]::l.eraseIdx i).Perm l
 | [],_,h=>by simp at h
 | a::l,0,_=>ZU _
 | a::l,i+1,h=>by
  have h':i<l.length:=by simpa using h
  have ih:=nE h';show(l[i]::a::l.eraseIdx i).Perm (a::l);exact(aeJ a l[i] _).trans (ih.cons a)
theorem vE {α:Type}(next:Nat->Nat):∀(fuel k:Nat) (left:List α) (out:Array α),fuel=left.length->(acX next fuel k left out).toList.Perm (out.toList++left)
 | 0,k,left,out,h=>by
  have:left=[]:=SY.mp h.symm;subst this;unfold acX;simp
 | fuel+1,k,left,out,h=>by
  have hp:0<left.length:=by lia
  have Nw:next k % left.length<left.length:=Nat.mod_lt _ hp;unfold acX;rw[Om Nw];dsimp only;refine(vE next fuel (k+1) (left.eraseIdx (next k % left.length)) _ (by rw[List.length_eraseIdx_of_lt Nw];lia)).trans ?_;rw[Array.toList_push,VP];refine List.Perm.append_left _ ?_;exact nE Nw
theorem qj {α:Type}(next:Nat->Nat)(xs:Array α):(pickOrder next xs).toList.Perm xs.toList:=by
 have:=vE next xs.size 0 xs.toList #[] (by simp);simpa [pickOrder] using this
abbrev cG (w:Mt):Bool:=w.params.followText "set-order"
def wo (w:Mt)(a:D')(ep:Nat)(es:Array Sa.Oa):Array Sa.Oa:=if cG w=true then pickOrder (w.params.setOrder a ep) es else es
theorem pe (w)(a)(ep:Nat)(es):(wo w a ep es).toList.Perm es.toList:=by
 unfold wo
 split
 .exact qj _ _
 .exact ZU _
def at_ (w:Mt)(t:NJ)(i:Nat):Nat:=if cG w=true then 0 else match i with
 | 0=>0
 | i+1=>t.place.getD i 0+1
structure Yc (h:Mp)(it a:D')(slot i n ep:Nat):Prop where
 ex:∃o,h.get? it=some o/\o.cls=.type "set_iterator"/\o.data=.fields #[.int slot 0,.int i 0,.ref a,.int n 0,.int ep 0]
structure Wk (w:Mt)(h:Mp)(a:D')(es:Array Sa.Oa)(ep:Nat)(t:NJ):Prop where
 ob:∃o,h.get? a=some o/\o.ExactSet/\o.data=.set es ep t
 rise:Sa.SD t.place
 size:t.place.size=es.size
 fits:t.fits es.size=true
 pl:t.plain=true
 led:t.led=bL w
theorem tJ (r:Sa.SD t.place)(b:cG w=false):∀i,i<=t.place.size->below t.place (at_ w t i)=i
 | 0,_=>by
  obtain⟨h1,h2,h3⟩:=Sa.Tg r (at_ w t 0);have e:at_ w t 0=0:=by unfold at_;rw[b];rfl
  rw[e] at h2 ⊢;rcases acm (below t.place 0) with z|z
  .exact z
  .have:=(Sa.Tg r 0).2.1 0 z (by have:=(Sa.Tg r 0).1;lia);lia
 | i+1,hi=>by
  have OK:i<t.place.size:=by lia
  have e:at_ w t (i+1)=t.place[i]+1:=by
   unfold at_;rw[b];simp[Q0,OK]
  rw[e];obtain⟨h1,h2,h3⟩:=Sa.Tg r (t.place[i]+1);rcases Xz (below t.place (t.place[i]+1)) (i+1) with z|z|z
  .have:=h3 i (by lia) OK;lia
  .exact z
  .have hz:i+1<t.place.size:=by lia
   have a1:=h2 (i+1) z hz;have a2:=Sa.Z' r (show i<i+1 by lia) hz;lia
section
theorem nF (a)(slot given ep:Nat):setNext a slot given ep=(do
  let (es,abx,t) <-setState a
  if <-setsByText then
   if abx != ep then unsupported "set_iterator.__next__:elements-changed"
   return ((<-setWalk a)[given]?).map λe=>(e.2,slot)
  if (!t.plain&&es.size > 1:Bool) then unsupported "set_iterator.__next__:the-table-is-plain-no-more"
  (do if !t.led&&!es.isEmpty then unsupported "set:maker-not-led":Pb Unit)
  let i:=NJ.below t.place slot
  return match es[i]?,t.place[i]? with
   | some (_,x),some j=>some (x,j+1)
   | _,_=>none):=rfl
theorem jo (a):setWalk a=(do
  let (es,abx,t) <-setState a
  if <-setsByText then return pickOrder ((<-ask).params.setOrder a abx) es
  if (!t.plain&&es.size > 1:Bool) then return (<-drawOrder es.size es.toList).toArray
  (do if !t.led&&es.size > 1 then unsupported "set:maker-not-led":Pb Unit)
  return es):=rfl
theorem dB (h:Q (cG w) s):Ml (Mr prog w) A setsByText Q E s:=by
 unfold setsByText;exact Mf (ZP (Mm h))
theorem yO (W:Wk w s.heap a es ep t)(he:(wo w a ep es)[i]?=some e)(h:Q (some (e.2,at_ w t (i+1))) s):Ml (Mr prog w) A (setNext a (at_ w t i) i ep) Q E s:=by
 obtain⟨o,ho,hx,hd⟩:=W.ob;rw[nF];refine Mf (Pm ho hd W.fits (Mf (dB ?_)));dsimp only;cases b:cG w with
 | true=>
  simp only[if_true,bne_self_eq_false,NT,if_false];rw[jo];refine Mf (Mf (Pm ho hd W.fits (Mf (dB ?_))));simp only[b,if_true];refine Mf (ZP (Mm ?_));refine Mm ?_;have UD:(pickOrder (w.params.setOrder a ep) es)[i]?=some e:=by unfold wo at he;rw[b] at he;exact he
  show Q (Option.map _ (pickOrder (w.params.setOrder a ep) es)[i]?) s;rw[UD];have e1:at_ w t i=at_ w t (i+1):=by unfold at_;rw[b];rfl
  show Q (some (e.2,at_ w t i)) s;rw[e1];exact h
 | false=>
  have UD:es[i]?=some e:=by unfold wo at he;rw[b] at he;exact he
  have hi:i<es.size:=(RS.mp UD).1;have hip:i<t.place.size:=by rw[W.size];exact hi
  have ld:t.led=true:=by rw[W.led];show(!cG w)=true;rw[b];rfl
  simp only[NT,if_false,W.pl,QX,ZT,ld];rw[tJ W.rise b i (by lia)];refine Mm ?_;rw[UD,RV hip];have e1:at_ w t (i+1)=t.place[i]+1:=by unfold at_;rw[b];simp[Q0,hip]
  rw[e1] at h;exact h
theorem yP (W:Wk w s.heap a es ep t)(h:Q none s):Ml (Mr prog w) A (setNext a (at_ w t es.size) es.size ep) Q E s:=by
 obtain⟨o,ho,hx,hd⟩:=W.ob;rw[nF];refine Mf (Pm ho hd W.fits (Mf (dB ?_)));dsimp only;cases b:cG w with
 | true=>
  simp only[if_true,bne_self_eq_false,NT,if_false];rw[jo];refine Mf (Mf (Pm ho hd W.fits (Mf (dB ?_))));simp only[b,if_true];refine Mf (ZP (Mm ?_));refine Mm ?_;have UD:(pickOrder (w.params.setOrder a ep) es)[es.size]?=none:=by
   refine ZA ?_;rw[<-Od,(qj _ _).length_eq,Od];exact MJ _
  show Q (Option.map _ (pickOrder (w.params.setOrder a ep) es)[es.size]?) s;rw[UD];exact h
 | false=>
  have ld:t.led=true:=by rw[W.led];show(!cG w)=true;rw[b];rfl
  simp only[NT,if_false,W.pl,QX,ZT,ld];rw[tJ W.rise b es.size (by rw[W.size];exact MJ _)];refine Mm ?_;rw[ZA (MJ _)];exact h
end
section
variable {s:Md}{it:D'}{a:D'}{ep:Nat}{i:Nat} in
theorem fq {slot n:Nat}(I:Yc s.heap it a slot i n ep):s.TypeIs (.ref it) "set_iterator":=let ⟨o,e,c,_⟩:=I.ex;⟨o,e,c⟩
theorem wQ (W:Wk w s.heap a es ep t)(I:Yc s.heap it a (at_ w t i) i es.size ep)(he:(wo w a ep es)[i]?=some e)(h:∀h',Yc h' it a (at_ w t (i+1)) (i+1) es.size ep->QY it s.heap h'->Q (some e.2) { s with heap:=h' }):Ml (Mr prog w) A (pyNext (.ref it)) Q E s:=by
 obtain⟨o,ho,hx,hd⟩:=W.ob;obtain⟨oi,ei,ci,di⟩:=I.ex;unfold pyNext;refine Mf (acT (Zy (name:=RZ "__next__") (fq I) eM (Ra eM (fq I) lN ?_ (nC _))));unfold PH.«set_iterator.__next__»;refine Mf (Mm ?_);refine Mf (wpAny_fieldsOf ei di ?_);dsimp only;refine Mf (acj ho hd W.fits ?_);rw[Mq (by simp)];refine Mf ?_;show Ml _ _ (setNext a (at_ w t i) i ep) _ _ _;refine yO W he ?_;dsimp only;have e1:Mc.isFreed oi=Mc.isFreed oi:=rfl;refine Mf (ZW ei di (by simp) ?_);have ei1:=ZB (Z0 (·.setIfInBounds 0 (rawInt ((at_ w t (i+1):Nat):Int)))) ei (acd (Xs di _));have di1:=Xs di (·.setIfInBounds 0 (rawInt ((at_ w t (i+1):Nat):Int)));refine Mf (ZW (s:={ s with heap:=s.heap.update it (Z0 (·.setIfInBounds 0 (rawInt ((at_ w t (i+1):Nat):Int)))) }) ei1 di1 (by simp) ?_);have ei2:=ZB (Z0 (·.setIfInBounds 1 (rawInt ((i:Int)+1)))) ei1 (acd (Xs di1 _));have di2:=Xs di1 (·.setIfInBounds 1 (rawInt ((i:Int)+1)));refine Mm ⟨_,rfl,Mm (h _ ⟨_,ei2,?_,?_⟩ ((Xn ..).trans (Xn ..)))⟩
 .rw[Mc.cls_mapFields,Mc.cls_mapFields];exact ci
 .rw[di2];simp[rawInt]
theorem yQ (hh:A.handled=none)(W:Wk w s.heap a es ep t)(I:Yc s.heap it a (at_ w t es.size) es.size es.size ep)(h:∀h',Mp.ExtBut it s.heap h'->Q none { s with heap:=h' }):Ml (Mr prog w) A (pyNext (.ref it)) Q E s:=by
 obtain⟨o,ho,hx,hd⟩:=W.ob;obtain⟨oi,ei,ci,di⟩:=I.ex;unfold pyNext;refine Mf (acT (Zy (name:=RZ "__next__") (fq I) eM (Ra eM (fq I) lN ?_ (nC _))));unfold PH.«set_iterator.__next__»;refine Mf (Mm ?_);refine Mf (wpAny_fieldsOf ei di ?_);dsimp only;refine Mf (acj ho hd W.fits ?_);rw[Mq (by simp)];refine Mf ?_;show Ml _ _ (setNext a (at_ w t es.size) es.size ep) _ _ _;refine yP W ?_;dsimp only;refine Mf (ZW ei di (by simp) (Mf ?_));simp only[newExc,newTuple];refine Mf (S8 (Mf (m:=firstArgMember _ _) (wpAny_of_eq (a:=Sv) (by first|rfl|(simp only[firstArgMember];rfl)) (S8 ?_ (by size_fits)))) (by size_fits));simp only[raiseNew];refine Mf (wpAny_handled ?_);rw[show A.in1.handled=none from hh];refine Mf (Mm (wpAny_throw ?_));refine Mf (aaO (T:="StopIteration") (b:=true) ⟨_,NV _ rfl,rfl⟩ isSubtype_stop ?_);rw[Mu rfl];exact Mm (h _ (((Xn ..).extBut.push _).push _))
theorem yR (W:Wk w s.heap a es ep t)(h:Q (.ref s.heap.objs.size) { s with heap:=s.heap.push { cls:=.type "set_iterator",data:=.fields #[.int 0 0,.int 0 0,.ref a,.int es.size 0,.int ep 0] } }):Ml (Mr prog w) A (pyIter (.ref a)) Q E s:=by
 obtain⟨o,ho,hx,hd⟩:=W.ob;have hT:s.TypeIs (.ref a) "set":=⟨o,ho,hx.1⟩
 refine wpAny_pyIter_slot hT aej (Ra aej hT o9 ?_ (PySem.F.args_set_iter_1 _));unfold PH.«frozenset.__iter__» PH.Frozenset.slot0 slotArgs;simp only[List.isEmpty_nil,QX,NT,↓reduceIte,bind_assoc,Ud,bne_self_eq_false];unfold abW PH.Frozenset.sizeOf;refine Mf (Mm ?_)
 try dsimp only
 refine Mf (Mm ?_);refine Mf (Mf (acj ho hd W.fits (Mm ?_)));unfold setDrawn;refine Mf (Mf (Pm ho hd W.fits (Mf (dB (Mm ?_)))));have dr:(!cG w&&(!t.plain&&decide (es.size > 1)))=false:=by rw[W.pl];simp
 show Ml _ _ (if (!cG w&&(!t.plain&&decide (es.size > 1)))=true then _ else _) _ _ _;rw[dr,Mq Oo];refine Mf (Mm ?_);refine Mf (wpAny_setEpoch_of ho hd W.fits ?_);simp only[newFields];refine Mf (S8 ?_ (by size_fits));exact Mm ⟨_,rfl,"set_iterator",_,⟨_,NV _ rfl,rfl⟩,eM.lookup,h⟩
end
theorem mv:entryFor table "set_iterator.__iter__"=some PH.«dict_keyiterator.__iter__»:=
 acL (id':="dict_keyiterator.__iter__") (by kernel_rfl) rfl (by decide +kernel) (by kernel_rfl)
theorem nG (a):argsOk "set_iterator.__iter__" ⟨[a],[]⟩:=by unfold argsOk;kernel_rfl
section
theorem A3 (hT:s.TypeIs (.ref a) "set")(h:Q false s):Ml (Mr prog w) A (adM (.ref a)) Q E s:=by
 unfold adM;refine Mf (VW hT PySem.F.slot_set_len.lookup ?_);generalize e:("set.__len__":String)=id;wp_delta;rw[show splitId id=some ("set","__len__") from by subst e;decide +kernel];subst e;refine Mf (aaO (T:="set") (b:=true) hT (by rw[ZV];kernel_rfl) ?_);refine wpAny_ite_split (λz=>Mw z (by decide)) λ_=>wpAny_ite_split (λ_=>Mf (V6 hT (Mm h))) λz=>Mw (by decide +kernel) z
theorem Wk.keep (W:Wk w h a es ep t)(k:∀o,h.get? a=some o->h'.get? a=some o):Wk w h' a es ep t:=
 let ⟨o,e,r⟩:=W.ob;⟨⟨o,k o e,r⟩,W.rise,W.size,W.fits,W.pl,W.led⟩
theorem vF:(wo w a ep es).size=es.size:=by rw[<-Od,(pe w a ep es).length_eq,Od]
theorem yS (hh:A.handled=none)(NI:a≠it):Walks prog w A it [it,a] [it] es.size (λi v=>∃e,(wo w a ep es)[i]?=some e/\v=e.2) (λi h=>Yc h it a (at_ w t i) i es.size ep/\Wk w h a es ep t) where
 sub:=λb hb=>by simp at hb;simp[hb]
 frame:=λ_ _ _ st hk=>⟨⟨let ⟨o,e,r⟩:=st.1.ex;⟨o,hk it (by simp) o e,r⟩⟩,st.2.keep λo e=>hk a (by simp) o e⟩
 item:=λi s Q E hi st hQ=>by
  have OK:i<(wo w a ep es).size:=by rw[vF];exact hi
  refine wQ st.2 st.1 (RV OK) λh' I' sb=>?_;exact hQ _ h' s.toks ⟨_,RV OK,rfl⟩ ⟨I',st.2.keep λo e=>(sb.2 a NI).trans e⟩ λb o hb e=>(sb.2 b (by simpa using hb)).trans e
 done:=λs Q E st hQ=>yQ hh st.2 st.1 λh' eb=>hQ h' s.toks λb o hb e=>eb b o (by simpa using hb) e
 self:=λi s Q E st hQ=>by
  refine wpAny_pyIter_slot (fq st.1) iw (Ra iw (fq st.1) mv ?_ (nG _));exact Mm ⟨_,rfl,"set_iterator",_,fq st.1,eM.lookup,hQ⟩
theorem CW:at_ w t 0=0:=by unfold at_;split <;> rfl
theorem CY:W.KdlSrc prog w "set" a a es.size (λi v=>∃e,(wo w a ep es)[i]?=some e/\v=e.2) (λh=>Wk w h a es ep t) where
 type:=λ_ W=>let ⟨o,e,x,_⟩:=W.ob;⟨o,e,x.1⟩
 there:=λ_ W=>let ⟨o,e,_⟩:=W.ob;⟨MS e,MS e⟩
 keep:=λ_ _ W k=>W.keep λo e=>k a (.inl rfl) o e
 notList:=by decide
 notTuple:=by decide
 hint:=λ_ _ _ _ W hq=>let ⟨o,e,x,_⟩:=W.ob;A3 ⟨o,e,x.1⟩ hq
 iter:=λA s hh W=>by
  obtain⟨o,e,_⟩:=W.ob;refine⟨_,_,λE Q hq=>yR W hq,yS hh (M8 (MS e)),⟨⟨_,NV _ rfl,rfl,by rw[CW];rfl⟩⟩,W.keep λo e=>MZ _ e⟩
end
section
theorem A4 (h:ItemsOf (λi v=>∃e,(wo w a ep es)[i]?=some e/\v=e.2) acc es.size):acc.toList.Perm (es.toList.map (·.2)):=by
 have e:acc.toList=(wo w a ep es).toList.map (·.2):=by
  refine List.ext_getElem? λi=>?_;rw[O0,S7,S7]
  by_cases hi:i<es.size
  .have h1:i<acc.size:=by rw[h.1];exact hi
   obtain⟨x,e1,e2⟩:=h.2 i acc[i] (RV h1);rw[RV h1,e1,e2];rfl
  .rw[ZA (by rw[h.1];lia),ZA (by rw[vF];lia)];rfl
 rw[e];exact(pe w a ep es).map _
theorem lO (hh:A.handled=none)(W:Wk w s.heap a es ep t)(hn:es.size<64)(h:∀h' tk vs,(∀b o,s.heap.get? b=some o->h'.get? b=some o)->s.heap.objs.size<=h'.objs.size->vs.Perm (es.toList.map (·.2))->Q vs { s with heap:=h',toks:=tk }):Ml (Mr prog w) A (collect (.ref a)) Q E s:=by
 obtain⟨o,ho,hx,hd⟩:=id W.ob;have ne:s.heap.objs.size≠a:=Su (MS ho);have fin:∀h' tk OW c',(∀b o,b≠s.heap.objs.size->(s.heap.push (M5 "list" #[] 0)).get? b=some o->h'.get? b=some o)->h'.get? s.heap.objs.size=some { cls:=.type "list",dict:=none,data:=.seq OW c',slots:=#[] }->
   ItemsOf (λi v=>∃e,(wo w a ep es)[i]?=some e/\v=e.2) OW es.size->Q OW.toList { s with heap:=h',toks:=tk }:=λh' tk OW c' k1 e1 it=>
  h h' tk OW.toList (λb o e=>k1 b o (M8 (MS e)) (MZ _ e)) (Uf (MS e1)) (A4 it)
 unfold collect;refine Mf (acJ (Sr entry_proto_collect' ?_));rw[VI PySem.F.plain_proto_collect _];refine Mf (V1 ?_ (NX _));refine Mm ⟨ZZ ad7 _,Sr entry_list_iadd' ?_⟩;rw[VI ad7 _];refine QZ (PySem.W.kdl_extend (A:=A) (s:={ s with heap:=s.heap.push (M5 "list" #[] 0) }) (R:=λq s'=>∃OW c',q=.ok (.ret (.ref s.heap.objs.size))/\s'.heap.get? s.heap.objs.size=some { cls:=.type "list",dict:=none,data:=.seq OW c',slots:=#[] }/\Q OW.toList s') (CY (a:=a) (es:=es) (ep:=ep) (t:=t)) hh (W.keep λo e=>MZ _ e) s.heap.objs.size ne ne (.ref s.heap.objs.size) 0 (NV _ rfl)
  (λh' tk OW c' k1 e1 it=>⟨OW,c',rfl,e1,fin h' tk OW c' k1 e1 it⟩) (by rw[Nf];lia)) (λf s' x=>?_) λe s' ⟨_,_,z,_⟩=>by cases z
 have done:∀s',(∃OW c',s'.heap.get? s.heap.objs.size=some { cls:=.type "list",dict:=none,data:=.seq OW c',slots:=#[] }/\Q OW.toList s')->Ml (Mr prog w) A (load s.heap.objs.size >>= λo=>match o.data with | .seq xs _=>pure xs.toList|_=>unsupported "internal:collect") Q E s':=λs' ⟨_,_,e,q⟩=>Mf (wpAny_load e (Mm q));cases f with
 | done f=>
  obtain⟨OW,c',e,e1,q⟩:=x;cases e;exact done s' ⟨OW,c',e1,q⟩
 | again c=>
  refine⟨x.1,Ug x.2 λq M1 ⟨OW,c',e,e1,q⟩=>?_⟩;subst e;exact done M1 ⟨OW,c',e1,q⟩
theorem wR (hh:A.handled=none)(W:Wk w s.heap a es ep t)(p:MC (jn s.heap) (es.toList.map (·.2)) M7)(NI:∀ks∈M7,ks≠[])(hn:es.size<64)(h:∀h' tk l (out:Array G') c,(∀b o,s.heap.get? b=some o->h'.get? b=some o)->s.heap.objs.size<=l->h'.get? l=some (M5 "list" out c)->out.toList.Perm (es.toList.map (·.2))->j1 (out.toList.map (bW s.heap))->Q (.ref l) { s with heap:=h',toks:=tk }):
  Ml (Mr prog w) A (call (.builtin "sorted") [.ref a]) Q E s:=by
 refine aao abb aa4 aa5 (aa6 _) ?_;unfold PH.«sorted»;refine Mf (m:=checkCount "sorted" 1 1 _) (Mm (Mf (lO (by simp[hh]) W hn λh1 tk vs k1 lt pm=>Mf (V1 ?_ (by rw[Nf,pm.length_eq,Ng,Od];lia)))));obtain⟨OB,pv,pk⟩:=gx pm p;have len:vs.length=es.size:=by rw[pm.length_eq,Ng,Od]
 have hL:(h1.push (M5 "list" vs.toArray 0)).get? h1.objs.size=some (M5 "list" vs.toArray 0):=NV _ rfl;have up:∀{ks:List Int}{b:D'},bI s.heap ks b->bI (h1.push (M5 "list" vs.toArray 0)) ks b:=λx=>mq x λb o _ e=>MZ _ (k1 b o e);refine Mf (O2 (Ra aam ⟨_,hL,rfl⟩ aak (sY (s:={ s with heap:=h1.push (M5 "list" vs.toArray 0),toks:=tk }) hL (aD (λ_ _ ⟨b,e,x⟩=>⟨b,e,up x⟩) pv) (λks hk=>NI ks (pk.mem_iff.mp hk)) (by lia) λout q1 q2=>⟨_,rfl,Mm ⟨_,rfl,?_⟩⟩) (aaT _)));obtain⟨e1,o1⟩:∃e1,((h1.push (M5 "list" vs.toArray 0)).update h1.objs.size (OU λ_=>#[])).get? h1.objs.size=some (M5 "list" #[] e1):=⟨_,XE hL _⟩
 have o2:((((h1.push (M5 "list" vs.toArray 0)).update h1.objs.size (OU λ_=>#[])).push (M5 "tuple" vs.toArray 0)).push (M5 "list" #[] 0)).get? h1.objs.size=some (M5 "list" #[] e1):=MZ _ (MZ _ o1);refine h _ _ h1.objs.size out _ (λb o e=>?_) lt (XE o2 _) (q1.trans pm) ?_
 .have ne:b≠h1.objs.size:=M8 (MS (k1 b o e));refine(S0 _ _ (M' ne)).trans (MZ _ (MZ _ ((S0 _ _ (M' ne)).trans (MZ _ (k1 b o e)))))
 .have ee:out.toList.map (bW s.heap)=out.toList.map (bW (h1.push (M5 "list" vs.toArray 0))):=Xm λv hv=>by
   obtain⟨ks,_,b,e,x⟩:=eT pv v (q1.mem_iff.mp hv);rw[e,eK x,eK (up x)]
  rw[ee];exact q2
end
def hJ (w:Mt)(a:D')(bs:List D'):HO:=.ext λh=>∃es ep t,Wk w h a es ep t/\es.size<70/\es.toList.map (·.2)=bs.map Nd
theorem CZ (x:∃es ep t,Wk w h a es ep t/\es.size<70/\es.toList.map (·.2)=bs.map Nd):bg P w H h a (hJ w a bs):=by
 refine⟨x,?_,λh1 h2 ⟨es,ep,t,W,r⟩ k=>⟨es,ep,t,W.keep λo e=>k o e,r⟩⟩;obtain⟨_,_,_,W,_⟩:=x;obtain⟨o,e,_⟩:=W.ob;exact⟨o,e⟩
def Qq.only {w:Mt}{K:Type}[DecidableEq K](Y:Qq prog w K)(G:K->D'->Prop):Qq prog w K where
 knd:={
  is:=λh x b=>Y.knd.is h x b/\G x b
  hash:=Y.knd.hash
  draws:=Y.knd.draws
  room:=Y.knd.room
  inj:=λp q=>Y.knd.inj p.1 q.1
  keeps:=λp ho hd hs=>⟨Y.knd.keeps p.1 ho hd hs,p.2⟩
  pyHash:=λhu hk h=>Y.knd.pyHash hu hk.1 h
  eqBool:=λhu hx hy h=>Y.knd.eqBool hu hx.1 hy.1 h
  quiet:=λhk h=>Y.knd.quiet hk.1 h }
 X1:=λhk h=>Y.X1 hk.1 h
 Wf:=λhk h=>Y.Wf hk.1 h
 keep:=λhk k=>⟨Y.keep hk.1 k,hk.2⟩
theorem BQ {α β γ:Type}{F:α->β->Prop}{G:γ->β->Prop}{f:α->γ}(h:∀a b,F a b->G (f a) b):∀{l:List α}{m:List β},MC F l m->MC G (l.map f) m
 | _,_,.nil=>.nil
 | _,_,.cons r t=>.cons (h _ _ r) (BQ h t)
theorem cx {K:Type}[DecidableEq K]:∀(a c:List K),a.Nodup->(∀x∈a,x∈c)->a.length<=c.length:=by
 intro a
 induction a with
 | nil=>intro c _ _;exact NX _
 | cons x a ih'=>
  intro c nd hs;rw[Py] at nd;have hx:=hs x MO;have:=ih' (c.erase x) nd.2 λy hy=>(aci (by rintro rfl;exact nd.1 hy)).mpr (hs y (Na _ hy));rw[aar hx] at this;have hp:0<c.length:=Zz hx;simp only[N'];lia
section
theorem qk {K:Type}[DecidableEq K](k:Dk K)(Y:Qq X.prog X.w K)(hr:Y.knd.room X.A.in1.in1.in1)(hc:X.calm=true)(hk:∀{aa:List (D'×Mc)}{σ:St}{H:Hp}{s:Md}{b:D'}{x:K},Inv X aa σ H s->k.rep X.K H (.ref b) x->Y.knd.is s.heap x b)(afB:∀{K':Mi}{H:Hp}{v:V}{x:K},k.rep K' H v x->∃b,v=.ref b):
  cC X (.type "set") (λxs H Q=>∃(y:V) (keys:List K),xs=[y]/\(gG k).rep X.K H y keys/\keys.length<70/\∀(p:D') (bs:List D') (ks:List K),H p=none->MC (λb x=>k.rep X.K H (.ref b) x) bs ks->ks.Nodup->(∀x,x∈ks↔x∈keys)->Q (.ref p) (upd H p (hJ X.w p bs))):=by
 intro aa s σ H xs us Q I r h;obtain⟨y,keys,rfl,⟨p,as,e,hp,hd⟩,hl,q⟩:=h;subst e;obtain⟨u,rfl,ru⟩:=dw r;cases ru;obtain⟨Mh,rv,pl,hz⟩:=I.list hp;have kd:MC (λv x=>∃b,v=Nd b/\k.rep X.K H (.ref b) x) Mh keys:=kW (F:=ax) (G:=k.rep X.K H) (λx u kx h1 h2=>by
  obtain⟨b,rfl⟩:=afB h2;cases h1;exact⟨b,rfl,h2⟩) rv hd
 have kd':MC (A0 (Y.only λx b=>k.rep X.K H (.ref b) x) s.heap) Mh.toArray.toList keys:=aD (λ_ _ ⟨b,e,z⟩=>⟨b,e,hk I z,z⟩) kd;refine uX (X:=Y.only λx b=>k.rep X.K H (.ref b) x) (I.ok.hd hc) hr pl.isList kd' hl λh' tk k1 F=>?_;obtain⟨o,es,ep,t,ks,S,m,ld⟩:=F;have len:es.size=ks.length:=by rw[<-Od];exact S.el.length
 have agc:ks.length<70:=ack (cx ks keys S.nd λx hx=>(m x).mp hx) hl;have each:∀{l:List Sa.Oa}{js:List K},MC (El (Y.only λx b=>k.rep X.K H (.ref b) x) h') l js->∃bs:List D',l.map (·.2)=bs.map Nd/\MC (λb x=>k.rep X.K H (.ref b) x) bs js:=by
  intro l js pr
  induction pr with
  | nil=>exact⟨[],rfl,.nil⟩
  | @cons e x l js h1 _ ih=>
   obtain⟨b,e1,e2,_⟩:=h1;obtain⟨bs,i1,i2⟩:=ih;exact⟨b::bs,by rw[Nt,Nt,i1,e1],.cons e2.2 i2⟩
 obtain⟨bs,b1,b2⟩:=each S.el;refine⟨.ref s.heap.objs.size,_,I.laid (o:=hJ X.w s.heap.objs.size bs) k1 (MJ _) ?_,rfl,q _ bs ks (I.My.fresh (MJ _)) b2 S.nd m⟩;exact CZ ⟨es,ep,t,⟨⟨o,S.ob,S.ex,S.dt⟩,S.full.tab.rise,S.full.size,Rz.fits (s:={ s with heap:=h' }) S,S.pl,ld⟩,by lia,b1⟩
theorem yT {σ:St}(I:Inv X aa σ H s)(ha:H a=some (hJ X.w a bs)):∃es ep t,Wk X.w s.heap a es ep t/\es.size<70/\es.toList.map (·.2)=bs.map Nd:=(show bg X.prog X.w H s.heap a (hJ X.w a bs) from I.My a _ ha).1
theorem yU:cC X (.builtin "len") (λxs H Q=>∃p bs,xs=[V.ref p]/\H p=some (hJ X.w p bs)/\Q (.int bs.length) H):=by
 intro aa s σ H xs us Q I r h;obtain⟨p,bs,rfl,hp,q⟩:=h;obtain⟨u,rfl,ru⟩:=dw r;cases ru;obtain⟨es,ep,t,W,lt,eq⟩:=yT I hp;obtain⟨o,e1,e2,e3⟩:=id W.ob;have len:es.size=bs.length:=by have:=congrArg Rw eq;simpa using this
 exact call_len_set e1 e2 e3 W.fits (by lia) ⟨.int bs.length,H,I.tok _,⟨_,by rw[len]⟩,q⟩
theorem tK (hc:X.calm=true):cC X (.builtin "sorted") (λxs H Q=>∃(p:D') (bs:List D') (M7:List (List Int)),xs=[.ref p]/\H p=some (hJ X.w p bs)/\MC (λb x=>au.rep X.K H (.ref b) x) bs M7/\(∀ks∈M7,ks≠[])/\M7.length<64/\
  ∀(l:D') (RJ:List V) (OB:List (List Int)),H l=none->MC (au.rep X.K H) RJ OB->OB.Perm M7->j1 OB->Q (.ref l) (upd H l (.lst RJ))):=by
 intro aa s σ H xs us Q I r h;obtain⟨p,bs,M7,rfl,hp,hd,NI,SI,q⟩:=h;obtain⟨u,rfl,ru⟩:=dw r;cases ru;obtain⟨es,ep,t,W,lt,eq⟩:=yT I hp;have len:es.size=bs.length:=by have:=congrArg Rw eq;simpa using this
 have agd:=hd.length;have rv:∀l:List D',aw (l.map V.ref) (l.map Nd):=λl=>by
  induction l with
  | nil=>exact .nil
  | cons b l ih=>exact .cons rfl ih
 obtain⟨pt,back⟩:=lM (h:=s.heap) (λa ks z=>nA I z) (rv bs) (BQ (G:=au.rep X.K H) (λb x z=>z) hd);rw[<-eq] at pt back;refine wR (I.ok.hd hc) W pt NI (by lia) λh' tk l out c k1 le e1 q1 q2=>?_;have each:∀v∈out.toList,∃a ks,v=.ref a/\au.rep X.K H (.ref a) ks/\bW s.heap v=ks:=λv hv=>back v (q1.mem_iff.mp hv);have mk:∀l:List G',(∀v∈l,∃a ks,v=.ref a/\au.rep X.K H (.ref a) ks/\bW s.heap v=ks)->aw (l.map toV) l/\MC (au.rep X.K H) (l.map toV) (l.map (bW s.heap)):=by
  intro l
  induction l with
  | nil=>intro _;exact⟨.nil,.nil⟩
  | cons v l ih=>
   intro hl;obtain⟨i1,i2⟩:=ih λu hu=>hl u (Na _ hu);obtain⟨a,ks,e1,e2,e3⟩:=hl v MO;subst e1;exact⟨.cons rfl i1,.cons (by rw[e3];exact e2) i2⟩
 obtain⟨v1,v2⟩:=mk out.toList each;have hkf:=sX pt;have hlen:=q1.length_eq;rw[Ng,Od,Od] at hlen;refine⟨.ref l,_,I.laid (o:=.lst (out.toList.map toV)) k1 le ⟨by rw[Ng,Nf,Od];lia,out.toList,c,v1,by simpa [M5] using e1⟩,rfl,q _ _ _ (I.My.fresh le) v2 (by rw[<-hkf];exact q1.map _) q2⟩
end
end L2
namespace Bk
open Mx
abbrev Mg:=List (Int×Int)
abbrev am:=List (List Int)
def lt:List Int->List Int->Prop
 | [],[]=>False
 | [],_::_=>True
 | _::_,[]=>False
 | a::as,b::bs=>a<b\/(a=b/\lt as bs)
theorem lt_irrefl:∀a:List Int,¬lt a a
 | [],h=>h
 | a::as,h=>by
  rcases h with h|⟨_,h⟩
  .omega
  .exact lt_irrefl as h
theorem lt_trans:∀{a b c:List Int},lt a b->lt b c->lt a c
 | [],[],_,h,_=>h.elim
 | [],_::_,[],_,h=>h.elim
 | [],_::_,_::_,_,_=>trivial
 | _::_,[],_,h,_=>h.elim
 | _::_,_::_,[],_,h=>h.elim
 | a::as,b::bs,c::cs,h1,h2=>by
  rcases h1 with h1|⟨rfl,h1⟩
  .rcases h2 with h2|⟨rfl,h2⟩
   .exact .inl (by lia)
   .exact .inl h1
  .rcases h2 with h2|⟨rfl,h2⟩
   .exact .inl h2
   .exact .inr ⟨rfl,lt_trans h1 h2⟩
theorem A5 (h:lt a b)(h':lt b a):False:=lt_irrefl a (lt_trans h h')
theorem tL:∀(a b:List Int),lt a b\/a=b\/lt b a
 | [],[]=>.inr (.inl rfl)
 | [],_::_=>.inl trivial
 | _::_,[]=>.inr (.inr trivial)
 | a::as,b::bs=>by
  rcases Int.lt_trichotomy a b with h|rfl|h
  .exact .inl (.inl h)
  .rcases tL as bs with h|rfl|h
   .exact .inl (.inr ⟨rfl,h⟩)
   .exact .inr (.inl rfl)
   .exact .inr (.inr (.inr ⟨rfl,h⟩))
  .exact .inr (.inr (.inl h))
def cy (os:am):Prop:=os.Pairwise lt
theorem cy.nodup (h:cy os):os.Nodup:=by
 unfold V';refine List.Pairwise.imp (R:=lt) ?_ h;intro a b h e;subst e;exact lt_irrefl _ h
theorem nH {α β:Type}{f g:α->List β}:∀{l:List α},(∀a∈l,f a=g a)->l.flatMap f=l.flatMap g
 | [],_=>rfl
 | a::l,h=>by rw[aaK,aaK,h a MO,nH λb hb=>h b (Na _ hb)]
theorem cy.eq (hx:cy xs)(hy:cy ys)(h:∀o,o∈xs↔o∈ys):xs=ys:=by
 have p:xs.Perm ys:=(Zw hx.nodup hy.nodup).mpr h;exact ad2 (λa b _ _ h1 h2=>(A5 h1 h2).elim) hx hy p
def eN (t:Int):List Int->Option (List Int)
 | x::r=>if x=t then some r else none
 | []=>none
def rests (t:Int)(os:am):am:=os.filterMap (eN t)
theorem aY:r∈rests t os↔t::r∈os:=by
 simp only[rests,Qm];constructor
 .rintro⟨o,ho,h⟩;cases o with
  | nil=>cases h
  | cons x r'=>
   simp only[eN] at h
   split at h
   .rename_i e;cases h;subst e;exact ho
   .cases h
 .intro h;exact⟨_,h,by simp[eN]⟩
def heads (os:am):List Int:=(bj 8).filter λt=>!(rests t os).isEmpty
theorem bz:t∈heads os↔(0<=t/\t<8)/\∃r,t::r∈os:=by
 rw[heads,O9,cP];constructor
 .rintro⟨h1,h2⟩;refine⟨by simpa using h1,?_⟩;cases e:rests t os with
  | nil=>rw[e] at h2;cases h2
  | cons r rs=>exact⟨r,aY.mp (by rw[e];exact MO)⟩
 .rintro⟨h1,r,h2⟩;refine⟨by simpa using h1,?_⟩;have:=aY.mpr h2;cases e:rests t os with
  | nil=>rw[e] at this;cases this
  | cons r rs=>rfl
theorem cz (os:am):(heads os).Pairwise (· < ·):=by
 unfold heads;refine List.Pairwise.filter _ ?_;unfold bj;rw[Sn];exact(aaw (n:=8)).imp (λh=>by lia)
def fu (os os':am):Prop:=∀o,o∈os↔o∈os'
theorem fu.rests (h:fu os os')(t:Int):fu (rests t os) (rests t os'):=λo=>by rw[aY,aY];exact h _
theorem qm {α:Type}{p q:α->Bool}:∀{l:List α},(∀a∈l,p a=q a)->l.filter p=l.filter q
 | [],_=>rfl
 | a::l,h=>by
  have ih:=qm (l:=l) λb hb=>h b (Na _ hb);rw[aaQ,aaQ,h a MO,ih]
theorem fu.heads (h:fu os os'):heads os=heads os':=by
 unfold Bk.heads;refine qm λt _=>?_;have hr:=h.rests t;cases e:Bk.rests t os with
 | nil=>
  cases e':Bk.rests t os' with
  | nil=>rfl
  | cons r rs=>
   have:=(hr r).mpr (by rw[e'];exact MO);rw[e] at this;cases this
 | cons r rs=>
  cases e':Bk.rests t os' with
  | nil=>
   have:=(hr r).mp (by rw[e];exact MO);rw[e'] at this;cases this
  | cons r rs=>rfl
def keep (rs:List Mg)(r:Mg):Nat×List Mg:=if r∈rs then (rs.idxOf r+2,rs) else (rs.length+2,rs++[r])
def aG (f:am->List Mg->Nat×List Mg)(os:am):List Int->List Mg->Mg×List Mg
 | [],rs=>([],rs)
 | t::ts,rs=>((t,((f (rests t os) rs).1:Int))::(aG f os ts (f (rests t os) rs).2).1,(aG f os ts (f (rests t os) rs).2).2)
def lay:Nat->am->List Mg->Nat×List Mg
 | 0,_,rs=>(1,rs)
 | n+1,os,rs=>keep (aG (lay n) os (heads os) rs).2 (aG (lay n) os (heads os) rs).1
theorem qo (hf:∀o o' rs,fu o o'->f o rs=f o' rs)(h:fu os os'):∀ts rs,aG f os ts rs=aG f os' ts rs
 | [],_=>rfl
 | t::ts,rs=>by
  have e:=hf _ _ rs (h.rests t);unfold aG;rw[e,qo hf h ts]
theorem hR:∀(n:Nat) {os os':am}(rs:List Mg),fu os os'->lay n os rs=lay n os' rs
 | 0,_,_,_,_=>rfl
 | n+1,os,os',rs,h=>by
  unfold lay;rw[h.heads,qo (λo o' rs h=>hR n rs h) h]
theorem fG (rs)(r):∃i,(keep rs r).1=i+2/\(keep rs r).2[i]?=some r/\i<(keep rs r).2.length/\rs <+: (keep rs r).2:=by
 unfold keep
 split
 .rename_i h;refine⟨rs.idxOf r,rfl,?_,adN h,P7⟩;rw[Om (adN h),List.getElem_idxOf]
 .exact⟨rs.length,rfl,by simp,by simp,Xu _ _⟩
theorem dg (rs)(r):(keep rs r).2=rs\/(r∉rs/\(keep rs r).2=rs++[r]/\(keep rs r).1=rs.length+2):=by
 unfold keep
 split
 .exact .inl rfl
 .rename_i h;exact .inr ⟨h,rfl,rfl⟩
def fZ (rows:List am)(r:Mg):List am:=rows++[r.flatMap λd=>(rows.getD d.2.toNat []).map (d.1::·)]
def fH (rs:List Mg):List am:=rs.foldl fZ [[],[[]]]
def Ow (rs:List Mg)(k:Nat):am:=(fH rs).getD k []
theorem qt:∀(rs:List Mg) (a:List am),(rs.foldl fZ a).length=a.length+rs.length
 | [],_=>rfl
 | r::rs,a=>by
  rw[VS,qt rs];simp[fZ];lia
theorem iI (rs):(fH rs).length=rs.length+2:=by
 rw[fH,qt];simp;lia
theorem qu:∀(rs:List Mg) (a:List am),a <+: rs.foldl fZ a
 | [],_=>P7
 | r::rs,a=>by
  rw[VS];exact(Xu _ _).trans (qu rs _)
theorem tM {α:Type}{a b:List α}{k:Nat}{d:α}(h:a <+: b)(hk:k<a.length):b.getD k d=a.getD k d:=by
 obtain⟨c,rfl⟩:=h;rw[Zx,Zx,SW hk]
theorem i3 (h:rs <+: Sl)(hk:k<rs.length+2):Ow Sl k=Ow rs k:=by
 obtain⟨m,rfl⟩:=h;unfold Ow fH;rw[Ua];exact tM (qu m _) (by have:=iI rs;unfold fH at this;lia)
theorem tN (h:rs[i]?=some r)(hd:∀d∈r,d.2.toNat<i+2):Ow rs (i+2)=r.flatMap λd=>(Ow rs d.2.toNat).map (d.1::·):=by
 obtain⟨hi,e⟩:=NP.mp h;have e1:rs=rs.take i++(r::rs.drop (i+1)):=by
  rw[<-e,aee,T9]
 have p1:rs.take i <+: rs:=aaR _ _;have p2:rs.take i++[r] <+: rs:=⟨rs.drop (i+1),by rw[VP];exact e1.symm⟩
 have l1:(rs.take i).length=i:=by rw[Ph];lia
 rw[i3 p2 (by rw[NQ,l1];simp)];have e2:fH (rs.take i++[r])=fZ (fH (rs.take i)) r:=by
  unfold fH;rw[Ua];rfl
 unfold Ow;rw[e2];unfold fZ;rw[Zx,US (by rw[iI,l1];exact MJ _),iI,l1];simp only[aa8,abZ,aeH];refine nH λd Rk=>?_;have:=i3 p1 (k:=d.2.toNat) (by rw[l1];exact hd d Rk);unfold Ow at this;rw[<-this]
theorem gL (rs):Ow rs 1=[[]]:=by rw[i3 (rs:=[]) (acH) (by simp)];rfl
theorem tP (rs):Ow rs 0=[]:=by rw[i3 (rs:=[]) (acH) (by simp)];rfl
structure Mg.Ok (i:Nat)(r:Mg):Prop where
 ne:r≠[]
 ahead:∀d∈r,1<=d.2/\d.2<(i:Int)+2
 rise:(r.map (·.1)).Pairwise (· < ·)
def WF (rs:List Mg):Prop:=∀i r,rs[i]?=some r->Mg.Ok i r
theorem WF.snoc (h:WF rs)(hr:Mg.Ok rs.length r):WF (rs++[r]):=λi r' e=>by
 by_cases hi:i<rs.length
 .rw[SW hi] at e;exact h i r' e
 .have hl:i<(rs++[r]).length:=(NP.mp e).1;rw[NQ] at hl;have:i=rs.length:=by simp at hl;lia
  subst this;rw[US (MJ _)] at e;simp at e;subst e;exact hr
structure Tells (rs:List Mg)(k:Nat)(os:am):Prop where
 lo:1<=k
 hi:k<rs.length+2
 rise:cy (Ow rs k)
 mem:fu (Ow rs k) os
theorem Tells.pre (t:Tells rs k os)(h:rs <+: Sl):Tells Sl k os:=by
 have e:=i3 h t.hi;have hl:=h.length_le;exact⟨t.lo,by have:=t.hi;lia,by rw[e];exact t.rise,by rw[e];exact t.mem⟩
structure ae3 (rs:List Mg)(os:am)(ts:List Int)(ds:Mg):Prop where
 things:ds.map (·.1)=ts
 tells:∀d∈ds,1<=d.2/\Tells rs d.2.toNat (rests d.1 os)
def tQ (f:am->List Mg->Nat×List Mg)(n:Nat):Prop:=∀(os:am) (rs:List Mg),(∀o∈os,o.length=n/\∀x∈o,0<=x/\x<8)->os≠[]->WF rs->WF (f os rs).2/\rs <+: (f os rs).2/\Tells (f os rs).2 (f os rs).1 os
theorem eu (hf:tQ f n)(NB:∀o∈os,o.length=n+1/\∀x∈o,0<=x/\x<8):
  ∀(ts:List Int) (rs:List Mg),(∀t∈ts,t∈heads os)->WF rs->WF (aG f os ts rs).2/\rs <+: (aG f os ts rs).2/\ae3 (aG f os ts rs).2 os ts (aG f os ts rs).1
 | [],rs,_,h=>⟨h,P7,rfl,λd hd=>by cases hd⟩
 | t::ts,rs,ht,h=>by
  obtain⟨_,r,hr⟩:=bz.mp (ht t MO);obtain⟨w1,p1,t1⟩:=hf (rests t os) rs (λo ho=>by
   have:=NB _ (aY.mp ho);exact⟨by simpa using this.1,λx hx=>this.2 x (Na _ hx)⟩) (λe=>by
   have:=aY.mpr hr;rw[e] at this;cases this) h
  obtain⟨w2,p2,d2⟩:=eu hf NB ts (f (rests t os) rs).2 (λt' h'=>ht t' (Na _ h')) w1;unfold aG;refine⟨w2,p1.trans p2,by simp[d2.things],λd hd=>?_⟩;rcases M0.mp hd with rfl|hd
  .refine⟨by have:=t1.lo;simp;lia,?_⟩;simp only[UV];exact t1.pre p2
  .exact d2.tells d hd
theorem yV (h:cy os):cy (os.map (t::·)):=by
 unfold cy at h ⊢;rw[Sn];exact h.imp λh=>.inr ⟨rfl,h⟩
theorem qv {g:Int×Int->am}:∀{r:Mg},(r.map (·.1)).Pairwise (· < ·)->(∀d∈r,cy (g d))->cy (r.flatMap λd=>(g d).map (d.1::·))
 | [],_,_=>T'
 | d::r,h,hg=>by
  rw[Nt,Xr] at h;rw[aaK];unfold cy;rw[VH];refine⟨yV (hg d MO),qv h.2 λd' Rk=>hg d' (Na _ Rk),?_⟩;intro a ha b hb;obtain⟨a',_,rfl⟩:=Nm.mp ha;obtain⟨d',Rk,hb⟩:=Uc.mp hb;obtain⟨b',_,rfl⟩:=Nm.mp hb;exact .inl (h.1 d'.1 (Nm.mpr ⟨d',Rk,rfl⟩))
theorem cQ:∀n,tQ (lay n) n
 | 0=>λos rs NB NI h=>by
  refine⟨h,P7,MJ _,by show 1<rs.length+2;lia,?_,?_⟩
  .show cy (Ow rs 1);rw[gL];exact ad8 _ _
  .show fu (Ow rs 1) os;rw[gL];intro o;constructor
   .intro ho;rw[N3.mp ho];cases os with
    | nil=>exact Mw rfl NI
    | cons a os=>
     have:=(NB a MO).1;rw[SY.mp this];exact MO
   .intro ho;rw[SY.mp (NB o ho).1];exact List.mem_singleton_self _
 | n+1=>λos rs NB NI h=>by
  obtain⟨w1,p1,d1⟩:=eu (cQ n) NB (heads os) rs (λt ht=>ht) h;unfold lay;generalize (aG (lay n) os (heads os) rs).2=Mo at *;generalize (aG (lay n) os (heads os) rs).1=ds at *;have rise:(ds.map (·.1)).Pairwise (· < ·):=by rw[d1.things];exact cz os
  have dne:ds≠[]:=by
   intro e;cases os with
   | nil=>exact Mw rfl NI
   | cons a os=>
    have ha:=NB a MO;cases a with
    | nil=>cases ha.1
    | cons x r=>
     have hx:x∈heads ((x::r)::os):=bz.mpr ⟨ha.2 x MO,r,MO⟩;rw[<-d1.things,e] at hx;cases hx
  obtain⟨i,k1,k2,k3,k4⟩:=fG Mo ds;have w2:WF (keep Mo ds).2:=by
   rcases dg Mo ds with e|⟨_,e,_⟩
   .rw[e];exact w1
   .rw[e];refine w1.snoc ⟨dne,λd hd=>?_,rise⟩;have:=d1.tells d hd;have h2:=this.2.hi;exact⟨this.1,by lia⟩
  refine⟨w2,p1.trans k4,?_⟩;have adn:Ow (keep Mo ds).2 (i+2)=ds.flatMap λd=>(Ow (keep Mo ds).2 d.2.toNat).map (d.1::·):=
   tN k2 λd hd=>by
    have:=(w2 i ds k2).ahead d hd;lia
  rw[k1];refine⟨by lia,by lia,?_,?_⟩
  .rw[adn];exact qv rise λd hd=>((d1.tells d hd).2.pre k4).rise
  .rw[adn];intro o;rw[Uc];constructor
   .rintro⟨d,hd,ho⟩;obtain⟨o',OC,rfl⟩:=Nm.mp ho;exact aY.mp ((((d1.tells d hd).2.pre k4).mem o').mp OC)
   .intro ho;have h1:=NB o ho;cases o with
    | nil=>cases h1.1
    | cons x r=>
     have hx:x∈heads os:=bz.mpr ⟨h1.2 x MO,r,ho⟩;rw[<-d1.things] at hx;obtain⟨d,hd,rfl⟩:=Nm.mp hx;exact⟨d,hd,Nm.mpr ⟨r,(((d1.tells d hd).2.pre k4).mem r).mpr (aY.mpr ho),rfl⟩⟩
def Ends (rs:List Mg)(p:Nat×List Mg):Prop:=(p.2=rs/\p.1<rs.length+2)\/(p.1=p.2.length+1/\rs.length<p.2.length)
def HV (rs:List Mg)(p:Mg×List Mg):Prop:=p.2=rs\/(rs.length<p.2.length/\∃d∈p.1,d.2=((p.2.length+1:Nat):Int))
theorem j5 (hf:tQ f n)(he:∀(os:am) (rs:List Mg),(∀o∈os,o.length=n/\∀x∈o,0<=x/\x<8)->os≠[]->WF rs->Ends rs (f os rs))(NB:∀o∈os,o.length=n+1/\∀x∈o,0<=x/\x<8):
  ∀(ts:List Int) (rs:List Mg),(∀t∈ts,t∈heads os)->WF rs->HV rs (aG f os ts rs)
 | [],rs,_,_=>.inl rfl
 | t::ts,rs,ht,h=>by
  obtain⟨_,r,hr⟩:=bz.mp (ht t MO);have ho:∀o∈rests t os,o.length=n/\∀x∈o,0<=x/\x<8:=λo ho=>by
   have:=NB _ (aY.mp ho);exact⟨by simpa using this.1,λx hx=>this.2 x (Na _ hx)⟩
  have NI:rests t os≠[]:=λe=>by
   have:=aY.mpr hr;rw[e] at this;cases this
  obtain⟨w1,p1,t1⟩:=hf (rests t os) rs ho NI h;have e1:=he (rests t os) rs ho NI h;have e2:=j5 hf he NB ts (f (rests t os) rs).2 (λt' h'=>ht t' (Na _ h')) w1;unfold aG;rcases e2 with e2|⟨l2,d,hd,e2⟩
  .rcases e1 with⟨e1,_⟩|⟨e1,l1⟩
   .exact .inl (e2.trans e1)
   .refine .inr ⟨by rw[e2];exact l1,_,MO,?_⟩;show((f (rests t os) rs).1:Int)=_;rw[e2,e1]
  .exact .inr ⟨ack p1.length_le l2,d,Na _ hd,e2⟩
theorem mw:∀(n:Nat) (os:am) (rs:List Mg),(∀o∈os,o.length=n/\∀x∈o,0<=x/\x<8)->os≠[]->WF rs->Ends rs (lay n os rs)
 | 0,os,rs,_,_,_=>.inl ⟨rfl,by show 1<rs.length+2;lia⟩
 | n+1,os,rs,NB,NI,h=>by
  have e:=j5 (cQ n) (mw n) NB (heads os) rs (λt ht=>ht) h;obtain⟨w1,p1,d1⟩:=eu (cQ n) NB (heads os) rs (λt ht=>ht) h;have lp:=p1.length_le;unfold lay;generalize (aG (lay n) os (heads os) rs)=p at *;obtain⟨ds,Mo⟩:=p;dsimp only at *;rcases dg Mo ds with k|⟨_,k,k'⟩
  .obtain⟨i,k1,k2,k3,_⟩:=fG Mo ds;rw[k] at k2 k3;rcases e with e|⟨l,d,hd,e⟩
   .have e:Mo=rs:=e;exact .inl ⟨by rw[k];exact e,by rw[k1,<-e];lia⟩
   .have:=(w1 i ds k2).ahead d hd;have e:d.2=((Mo.length+1:Nat):Int):=e;lia
  .refine .inr ⟨by rw[k,k'];simp,by rw[k];simp;lia⟩
theorem wS (h:rs.Nodup):(keep rs r).2.Nodup:=by
 rcases dg rs r with e|⟨hn,e,_⟩
 .rw[e];exact h
 .rw[e,Ub];refine⟨h,by simp,?_⟩;intro a ha b hb;rw[N3.mp hb];rintro rfl;exact hn ha
theorem nJ (hf:∀os rs,rs.Nodup->(f os rs).2.Nodup):∀ts rs,rs.Nodup->(aG f os ts rs).2.Nodup
 | [],_,h=>h
 | t::ts,rs,h=>by
  unfold aG;exact nJ hf ts _ (hf _ _ h)
theorem qw:∀(n:Nat) (os:am) (rs:List Mg),rs.Nodup->(lay n os rs).2.Nodup
 | 0,_,_,h=>h
 | n+1,os,rs,h=>by
  unfold lay;exact wS (nJ (qw n) _ _ h)
def aO (rs:List Mg)(k:Int):Mg:=(rs[(k-2).toNat]?).getD []
def walk:Nat->List Mg->Int->List Int->List Int
 | 0,_,_,w=>w
 | n+1,rs,k,w=>if k∈w then w else (aO rs k).foldl (λw d=>walk n rs d.2 w) w++[k]
theorem lc (h:k∈w):walk n rs k w=w:=by
 cases n with
 | zero=>rfl
 | succ n=>unfold walk;rw[Mu h]
theorem qx (n:Nat):bj (n+1)=bj n++[(n:Int)]:=by unfold bj;rw[List.range_succ];simp
def vG (f:am->List Mg->Nat×List Mg)(n:Nat):Prop:=∀(os:am) (rs all:List Mg),(∀o∈os,o.length=n/\∀x∈o,0<=x/\x<8)->os≠[]->WF rs->(f os rs).2 <+: all->∀m,n<=m->
 walk m all ((f os rs).1:Int) (bj (rs.length+2))=bj ((f os rs).2.length+2)
theorem BR (hf:tQ f n)(hw:vG f n)(hm:n<=m)(NB:∀o∈os,o.length=n+1/\∀x∈o,0<=x/\x<8):
  ∀(ts:List Int) (rs:List Mg),(∀t∈ts,t∈heads os)->WF rs->(aG f os ts rs).2 <+: all->
   (aG f os ts rs).1.foldl (λw d=>walk m all d.2 w) (bj (rs.length+2))=bj ((aG f os ts rs).2.length+2)
 | [],rs,_,_,_=>rfl
 | t::ts,rs,ht,h,pa=>by
  obtain⟨_,r,hr⟩:=bz.mp (ht t MO);have ho:∀o∈rests t os,o.length=n/\∀x∈o,0<=x/\x<8:=λo ho=>by
   have:=NB _ (aY.mp ho);exact⟨by simpa using this.1,λx hx=>this.2 x (Na _ hx)⟩
  have NI:rests t os≠[]:=λe=>by
   have:=aY.mpr hr;rw[e] at this;cases this
  obtain⟨w1,p1,t1⟩:=hf (rests t os) rs ho NI h;obtain⟨_,p2,_⟩:=eu hf NB ts (f (rests t os) rs).2 (λt' h'=>ht t' (Na _ h')) w1;unfold aG at pa ⊢;rw[VS];have e:=hw (rests t os) rs all ho NI h (p2.trans pa) m hm;dsimp only at e ⊢;rw[e];exact BR hf hw hm NB ts _ (λt' h'=>ht t' (Na _ h')) w1 pa
theorem tR:∀n,vG (lay n) n
 | 0=>λos rs all _ _ _ _ m _=>by
  show walk m all 1 (bj (rs.length+2))=bj (rs.length+2);exact lc (cP.mpr ⟨by lia,by lia⟩)
 | n+1=>λos rs all NB NI h pa m hm=>by
  have he:=mw (n+1) os rs NB NI h;rcases he with⟨e1,e2⟩|⟨e1,e2⟩
  .rw[e1];exact lc (cP.mpr ⟨by lia,by lia⟩)
  .obtain⟨m,rfl⟩:∃m',m=m'+1:=⟨m-1,by lia⟩
   obtain⟨w1,p1,d1⟩:=eu (cQ n) NB (heads os) rs (λt ht=>ht) h;have hin:¬((lay (n+1) os rs).1:Int)∈bj (rs.length+2):=by
    rw[cP];lia
   unfold walk;rw[Mq hin];have hD:=BR (m:=m) (all:=all) (cQ n) (tR n) (by lia) NB (heads os) rs (λt ht=>ht) h;have lp:=p1.length_le;have eD:=j5 (cQ n) (mw n) NB (heads os) rs (λt ht=>ht) h;have hk:lay (n+1) os rs=keep (aG (lay n) os (heads os) rs).2 (aG (lay n) os (heads os) rs).1:=rfl;rw[hk] at e1 e2 pa ⊢;generalize (aG (lay n) os (heads os) rs)=p at *;obtain⟨ds,Mo⟩:=p;dsimp only at *;obtain⟨i,k1,k2,k3,k4⟩:=fG Mo ds;have hr:aO all ((keep Mo ds).1:Int)=ds:=by
    unfold aO;rw[k1,show(((i+2:Nat):Int)-2).toNat=i by lia];obtain⟨c,rfl⟩:=pa;rw[SW k3,k2];rfl
   rw[hr,hD (k4.trans pa)];rcases dg Mo ds with k|⟨_,k,k'⟩
   .rw[k] at e1 e2 k2 k3;rw[k1] at e1;rcases eD with eD|⟨_,d,hd,eD⟩
    .have eD:Mo=rs:=eD;rw[eD] at e2;lia
    .have:=(w1 i ds k2).ahead d hd;have eD:d.2=((Mo.length+1:Nat):Int):=eD;lia
   .rw[k,k',NQ];show bj (Mo.length+2)++[((Mo.length+2:Nat):Int)]=bj (Mo.length+1+2);rw[show Mo.length+1+2=(Mo.length+2)+1 by lia,qx (Mo.length+2)]
def bT (r:Mg)(t:Int):Int:=match r.find? (λd=>decide (d.1=t)) with
 | some d=>d.2
 | none=>0
theorem j6:∀{r:Mg}{d:Int×Int},(r.map (·.1)).Pairwise (· < ·)->d∈r->r.find? (λe=>decide (e.1=d.1))=some d
 | e::r,d,h,hd=>by
  rw[Nt,Xr] at h;rcases M0.mp hd with rfl|hd
  .simp
  .have Nw:=h.1 d.1 (Nm.mpr ⟨d,hd,rfl⟩);rw[VF (by simp;lia)];exact j6 h.2 hd
def cf (ms:List Nat)(d:Int×Int):Nat:=2 ^ d.1.toNat ||| ms.getD d.2.toNat 0
def ix (ms:List Nat)(r:Mg):List Nat:=ms++[cf ms (r.headD (0,0))]
def bq (rs:List Mg):List Nat:=rs.foldl ix [0,0]
def Oj (rs:List Mg)(k:Nat):Nat:=(bq rs).getD k 0
theorem qy:∀(rs:List Mg) (a:List Nat),(rs.foldl ix a).length=a.length+rs.length
 | [],_=>rfl
 | r::rs,a=>by
  rw[VS,qy rs];simp[ix];lia
theorem dD (rs):(bq rs).length=rs.length+2:=by
 rw[bq,qy];simp;lia
theorem qz:∀(rs:List Mg) (a:List Nat),a <+: rs.foldl ix a
 | [],_=>P7
 | r::rs,a=>by
  rw[VS];exact(Xu _ _).trans (qz rs _)
theorem eO (h:rs <+: Sl)(hk:k<rs.length+2):Oj Sl k=Oj rs k:=by
 obtain⟨m,rfl⟩:=h;unfold Oj bq;rw[Ua];exact tM (qz m _) (by have:=dD rs;unfold bq at this;lia)
theorem tS {r:Mg}(h:rs[i]?=some (d::r))(hd:d.2.toNat<i+2):Oj rs (i+2)=2 ^ d.1.toNat ||| Oj rs d.2.toNat:=by
 obtain⟨hi,e⟩:=NP.mp h;have e1:rs=rs.take i++((d::r)::rs.drop (i+1)):=by
  rw[<-e,aee,T9]
 have p1:rs.take i <+: rs:=aaR _ _;have p2:rs.take i++[d::r] <+: rs:=⟨rs.drop (i+1),by rw[VP];exact e1.symm⟩
 have l1:(rs.take i).length=i:=by rw[Ph];lia
 rw[eO p2 (by rw[NQ,l1];simp),eO p1 (k:=d.2.toNat) (by rw[l1];exact hd)];have e2:bq (rs.take i++[d::r])=ix (bq (rs.take i)) (d::r):=by
  unfold bq;rw[Ua];rfl
 unfold Oj;rw[e2];unfold ix;rw[Zx,US (by rw[dD,l1];exact MJ _),dD,l1];simp only[aa8,abZ,aeH];rfl
theorem vH (rs):Oj rs 1=0:=by rw[eO (rs:=[]) (acH) (by simp)];rfl
def SJ (rs:List Mg):Prop:=∀i r,rs[i]?=some r->∀d∈r,0<=d.1/\d.1<8/\(Oj rs d.2.toNat).testBit d.1.toNat=false/\2 ^ d.1.toNat ||| Oj rs d.2.toNat=Oj rs (i+2)
def Wv (rs:List Mg)(k:Nat)(S:Int->Prop):Prop:=∀i:Nat,(Oj rs k).testBit i=true↔S (i:Int)
theorem Wv.pre (h:Wv rs k S)(p:rs <+: Sl)(hk:k<rs.length+2):Wv Sl k S:=λi=>by rw[eO p hk];exact h i
def eV (n:Nat)(S:Int->Prop)(os:am):Prop:=∀o∈os,o.length=n/\(∀x∈o,0<=x/\x<8)/\o.Nodup/\∀x,x∈o↔S x
theorem eV.plain (h:eV n S os):∀o∈os,o.length=n/\∀x∈o,0<=x/\x<8:=λo ho=>⟨(h o ho).1,(h o ho).2.1⟩
theorem eV.rests (h:eV (n+1) S os)(t:Int):eV n (λx=>S x/\x≠t) (rests t os):=λr hr=>by
 obtain⟨h1,h2,h3,h4⟩:=h _ (aY.mp hr);rw[Py] at h3;refine⟨by simpa using h1,λx hx=>h2 x (Na _ hx),h3.2,λx=>?_⟩;constructor
 .intro hx;refine⟨(h4 x).mp (Na _ hx),?_⟩;rintro rfl;exact h3.1 hx
 .rintro⟨hx,hn⟩;rcases M0.mp ((h4 x).mpr hx) with e|e
  .exact Mw e hn
  .exact e
def BS (f:am->List Mg->Nat×List Mg)(n:Nat):Prop:=∀(S:Int->Prop) (os:am) (rs:List Mg),eV n S os->os≠[]->WF rs->SJ rs->SJ (f os rs).2/\Wv (f os rs).2 (f os rs).1 S
theorem qA (hf:tQ f n)(hm:BS f n)(NB:eV (n+1) S os):
  ∀(ts:List Int) (rs:List Mg),(∀t∈ts,t∈heads os)->WF rs->SJ rs->SJ (aG f os ts rs).2/\∀d∈(aG f os ts rs).1,(0<=d.1/\d.1<8)/\S d.1/\Wv (aG f os ts rs).2 d.2.toNat (λx=>S x/\x≠d.1)
 | [],rs,_,_,m=>⟨m,λd hd=>by cases hd⟩
 | t::ts,rs,ht,h,m=>by
  obtain⟨tb,r,hr⟩:=bz.mp (ht t MO);have NI:rests t os≠[]:=λe=>by
   have:=aY.mpr hr;rw[e] at this;cases this
  obtain⟨w1,p1,t1⟩:=hf (rests t os) rs (NB.rests t).plain NI h;obtain⟨m1,s1⟩:=hm _ (rests t os) rs (NB.rests t) NI h m;have Ww:∀t'∈ts,t'∈heads os:=λt' h'=>ht t' (Na _ h');obtain⟨_,p2,_⟩:=eu hf NB.plain ts (f (rests t os) rs).2 Ww w1;obtain⟨m2,s2⟩:=qA hf hm NB ts (f (rests t os) rs).2 Ww w1 m1;unfold aG;refine⟨m2,λd hd=>?_⟩;rcases M0.mp hd with rfl|hd
  .refine⟨tb,((NB _ hr).2.2.2 t).mp MO,?_⟩;simp only[UV];exact s1.pre p2 t1.hi
  .exact s2 d hd
theorem Et {S:Int->Prop}(h0:0<=t)(hS:S t)(h:∀i:Nat,m.testBit i=true↔(S (i:Int)/\(i:Int)≠t)):∀i:Nat,(2 ^ t.toNat ||| m).testBit i=true↔S (i:Int):=λi=>by
 rw[Nat.testBit_or,Bool.or_eq_true,aaE,decide_eq_true_iff,h i];constructor
 .rintro(e|⟨e,_⟩)
  .have:(i:Int)=t:=by lia
   rw[this];exact hS
  .exact e
 .intro e
  by_cases z:(i:Int)=t
  .exact .inl (by lia)
  .exact .inr ⟨e,z⟩
theorem C0 {a b:Nat}{S:Int->Prop}(ha:∀i:Nat,a.testBit i=true↔S (i:Int))(hb:∀i:Nat,b.testBit i=true↔S (i:Int)):a=b:=by
 refine aaC λi=>?_;rw[Ta,ha,hb]
theorem tT:∀n,BS (lay n) n
 | 0=>λS os rs NB NI _ m=>by
  refine⟨m,λi=>?_⟩;show(Oj rs 1).testBit i=true↔_;rw[vH];simp only[acy];constructor
  .intro z;cases z
  .intro z;cases os with
   | nil=>exact Mw rfl NI
   | cons o os=>
    obtain⟨h1,_,_,h4⟩:=NB o MO;have:=(h4 _).mpr z;rw[SY.mp h1] at this;cases this
 | n+1=>λS os rs NB NI h m=>by
  obtain⟨w1,p1,d1⟩:=eu (cQ n) NB.plain (heads os) rs (λt ht=>ht) h;obtain⟨m1,s1⟩:=qA (cQ n) (tT n) NB (heads os) rs (λt ht=>ht) h m;obtain⟨w2,_,t2⟩:=cQ (n+1) os rs NB.plain NI h;have hk:lay (n+1) os rs=keep (aG (lay n) os (heads os) rs).2 (aG (lay n) os (heads os) rs).1:=rfl;rw[hk] at w2 t2 ⊢;generalize (aG (lay n) os (heads os) rs)=p at *;obtain⟨ds,Mo⟩:=p;dsimp only at *;obtain⟨i,k1,k2,k3,k4⟩:=fG Mo ds;have ok:=w2 i ds k2;have each:∀d∈ds,∀j:Nat,(2 ^ d.1.toNat ||| Oj Mo d.2.toNat).testBit j=true↔S (j:Int):=λd hd=>Et (s1 d hd).1.1 (s1 d hd).2.1 (s1 d hd).2.2;have pre:∀d∈ds,Oj (keep Mo ds).2 d.2.toNat=Oj Mo d.2.toNat:=λd hd=>eO k4 (d1.tells d hd).2.hi;have hi:Wv (keep Mo ds).2 (i+2) S:=by
   cases ds with
   | nil=>exact Mw rfl ok.ne
   | cons d r=>
    intro j;rw[tS k2 (by have:=ok.ahead d MO;lia),pre d MO];exact each d MO j
  refine⟨?_,by rw[k1];exact hi⟩;rcases dg Mo ds with k|⟨_,k,k'⟩
  .rw[k];exact m1
  .intro j r e d hd;have ij:i=Mo.length:=by lia
   by_cases hj:j<Mo.length
   .have e':=e;rw[k,SW hj] at e';obtain⟨a1,a2,a3,a4⟩:=m1 j r e' d hd;have b1:=(w1 j r e').ahead d hd;rw[eO k4 (by lia),eO k4 (by lia)];exact⟨a1,a2,a3,a4⟩
   .have hl:j<(keep Mo ds).2.length:=(NP.mp e).1;rw[k,NQ] at hl;have ej:j=i:=by simp at hl;lia
    subst ej;rw[k2] at e;cases e;refine⟨(s1 d hd).1.1,(s1 d hd).1.2,?_,?_⟩
    .rw[pre d hd];cases z:(Oj Mo d.2.toNat).testBit d.1.toNat with
     | false=>rfl
     | true=>
      have:=(((s1 d hd).2.2) d.1.toNat).mp z;exact Mw (by have:=(s1 d hd).1.1;lia) this.2
    .rw[pre d hd];exact C0 (each d hd) hi
theorem A6 {many a:Nat}(h:∀i:Nat,a.testBit i=true↔((0:Int)<=(i:Int)/\(i:Int)<many)):a=2 ^ many-1:=by
 refine aaC λi=>?_;rw[Ta,h,adO,decide_eq_true_iff];lia
theorem j7 (wf:WF rs)(h2:2<=k)(hk:k<rs.length+2):∃r,rs[k-2]?=some r/\Mg.Ok (k-2) r/\Ow rs k=r.flatMap λd=>(Ow rs d.2.toNat).map (d.1::·):=by
 have hi:k-2<rs.length:=by lia
 have e:=Om hi;have ok:=wf _ _ e;have:=tN e (λd hd=>by have:=ok.ahead d hd;lia);rw[show k-2+2=k by lia] at this;exact⟨_,e,ok,this⟩
theorem tU (wf:WF rs):∀(n k:Nat),k<=n->1<=k->k<rs.length+2->Ow rs k≠[]
 | 0,k,h,h1,_=>by lia
 | n+1,k,h,h1,hk=>by
  by_cases c:k=1
  .subst c;rw[gL];exact λh=>nomatch h
  obtain⟨r,e,ok,es⟩:=j7 wf (by lia) hk;obtain⟨d,hd⟩:=SX r ok.ne;have ah:=ok.ahead d hd;have:=tU wf n d.2.toNat (by lia) (by lia) (by lia);obtain⟨o,ho⟩:=SX _ this;rw[es];intro hn;have:d.1::o∈r.flatMap λd=>(Ow rs d.2.toNat).map (d.1::·):=Uc.mpr ⟨d,hd,Nm.mpr ⟨o,ho,rfl⟩⟩;rw[hn] at this;cases this
def dR:Nat->List Mg->Int->Prop
 | 0,_,k=>k=0\/k=1
 | n+1,rs,k=>k=0\/k=1\/(2<=k/\(k-2).toNat<rs.length/\∀d∈aO rs k,dR n rs d.2)
theorem dR.up:∀{n:Nat}{k:Int},dR n rs k->dR (n+1) rs k
 | 0,k,h=>by
  rcases h with h|h
  .exact .inl h
  .exact .inr (.inl h)
 | n+1,k,h=>by
  rcases h with h|h|⟨h1,h2,h3⟩
  .exact .inl h
  .exact .inr (.inl h)
  .exact .inr (.inr ⟨h1,h2,λd hd=>(h3 d hd).up⟩)
theorem dR.le (h:dR n rs k)(hm:n<=m):dR m rs k:=by
 induction hm with
 | refl=>exact h
 | step _ ih=>exact ih.up
theorem fI (h:(k-2).toNat<rs.length):rs[(k-2).toNat]?=some (aO rs k):=by
 unfold aO;rw[Om h];rfl
theorem qB {k:Nat}(h:rs[k-2]?=some r)(h2:2<=k):aO rs (k:Int)=r:=by
 unfold aO;rw[show((k:Int)-2).toNat=k-2 by lia,h];rfl
theorem ph (wf:WF rs):∀(n k:Nat),1<=k->k<rs.length+2->(∀o∈Ow rs k,o.length=n)->dR n rs (k:Int)
 | 0,k,h1,hk,hl=>by
  by_cases c:k=1
  .exact .inr (by rw[c];rfl)
  obtain⟨r,e,ok,es⟩:=j7 wf (by lia) hk;obtain⟨o,ho⟩:=SX _ (tU wf k k (MJ _) h1 hk);have l0:=hl o ho;rw[es] at ho;obtain⟨d,hd,hm⟩:=Uc.mp ho;obtain⟨o',_,rfl⟩:=Nm.mp hm;exact Mw l0 (by simp)
 | n+1,k,h1,hk,hl=>by
  by_cases c:k=1
  .exact .inr (.inl (by rw[c];rfl))
  obtain⟨r,e,ok,es⟩:=j7 wf (by lia) hk;refine .inr (.inr ⟨by lia,by lia,λd hd=>?_⟩);rw[qB e (by lia)] at hd;have ah:=ok.ahead d hd;have:=ph wf n d.2.toNat (by lia) (by lia) λo ho=>by
   have:=hl (d.1::o) (by rw[es];exact Uc.mpr ⟨d,hd,Nm.mpr ⟨o,ho,rfl⟩⟩);simpa using this
  rw[show((d.2.toNat:Nat):Int)=d.2 by lia] at this;exact this
end Bk
namespace L2
open PySem PySem.Spec PyProof.Rows
theorem nK (a b:Nat):PH.bitAnd (a:Int) (b:Int)=((a &&& b:Nat):Int):=rfl
theorem yW (a b:Nat):acN (a:Int) (b:Int)=((a ||| b:Nat):Int):=by
 rw[<-PyProof.Rows.bitOr_eq];unfold Spec.bitOr Spec.bitAnd;have h1:decide (0<=V8 (a:Int))=false:=by unfold V8;exact M4 (by lia)
 have h2:decide (0<=V8 (b:Int))=false:=by unfold V8;exact M4 (by lia)
 rw[h1,h2];have n1:∀x:Int,V8 (V8 x)=x:=λx=>by unfold V8;lia
 simp only[n1,UV]
theorem wT (h:m.testBit t=false):2 ^ t &&& m=0:=by
 refine aaC λi=>?_;rw[Nat.testBit_and,aaE,acy]
 by_cases e:t=i
 .subst e;rw[h];simp
 .simp[e]
theorem hV {α:Type}{x:α}{xs:List α}:PP (x::xs) 0=some x:=ck (j:=0) rfl
theorem jp {α:Type}{x y:α}{xs:List α}:PP (x::y::xs) 1=some y:=ck (j:=1) rfl
theorem tV {α:Type}{x y z:α}{xs:List α}:PP (x::y::z::xs) 2=some z:=ck (j:=2) rfl
end L2
namespace Ord
open PySem L2 Mx
abbrev tW:Mv:=top 24
abbrev mx:Mv:=top 26
abbrev tX:Mv:=top 23
abbrev lg:Mv:=top 25
abbrev wU:Mv:=top 22
abbrev tY:Mv:=top 27
abbrev tZ:Mv:=top 21
abbrev rE:Mv:=top 29
abbrev nL:Mv:=top 28
abbrev wV:Mv:=top 20
structure N9 (K)(mg:Me->Option G')(CO):Prop where
 t:Txt K mg CO
 no:∃t,mg "NO_ROOM"=some (.int 0 t)
 en:∃t,mg "END"=some (.int 1 t)
 low:∃t,mg "LOWEST"=some (.int 2 t)
 set:mg "set"=none
def cK (K:Mi)(H:Hp)(x:V)(d:Int×Int):Prop:=∃p,x=.ref p/\MR K H p [.int d.1,.int d.2]
def bu (K:Mi)(H:Hp)(x:V)(r:Bk.Mg):Prop:=∃a xs,x=.ref a/\MR K H a xs/\MC (cK K H) xs r
section
theorem cK.same (s:ar H H')(h:cK K H x d):cK K H' x d:=by
 obtain⟨p,e,q⟩:=h;exact⟨p,e,s.Oq q⟩
theorem bu.same (s:ar H H')(h:bu K H x r):bu K H' x r:=by
 obtain⟨a,xs,e,q,z⟩:=h;exact⟨a,xs,e,s.Oq q,aD (λ_ _ y=>y.same s) z⟩
def vI (K:Mi):Sp:=λvs H Q _=>∃(x:V) (d:Int×Int),vs=[x]/\cK K H x d/\Q (.bl true) H
theorem C1:NE ["door"] ["door"] (ak tW):=⟨rfl,rfl,rfl,by decide +kernel,rfl,by decide +kernel,by decide +kernel⟩
theorem A7 (F:Nh K "is_door" "is_door" tW f fd)(T:N9 K mg CO)(W:Df P w K mg base MM 1 "is_whole" ["value"] iU):MU P w K mg base MM 2 f fd ["door"] (vI K):=by
 refine F.ok C1 (λvs H Q E h=>?_) (λMB A outer s H vs Q E hr h=>?_)
 .obtain⟨x,d,rfl,_⟩:=h;rfl
 obtain⟨x,⟨t,k⟩,rfl,⟨p,rfl,q⟩,z⟩:=h;refine⟨_,al (aM (iO (aE bO rfl T.t.Qu dy (ac (pv 0) (ac (eB (v:=.ty "tuple") rfl T.t.tuple dM rfl) ae)))
  (iO (iP dU (aE bh rfl T.t.len dc (ac (pv 0) ae)) ap (aI _))
  (iO (aF W hr rfl (aX (E:=λ_ _ _ _=>False)) (ac (aJ (show Nl _ (bF K) from bc) (pv 0) ap (λ_ _=>rfl)) ae))
  (jM (aF W hr rfl (aX (E:=λ_ _ _ _=>False)) (ac (aJ (show Nl _ (bF K) from bc) (pv 0) ap (λ_ _=>rfl)) ae))))))),?_⟩
 refine⟨_,rfl,_,_,_,_,_,rfl,rfl,.tup q,nj,_,rfl,aV ?_⟩;refine⟨_,rfl,p,_,rfl,.inr q,rfl,_,rfl,aV ?_⟩;refine⟨_,rfl,p,_,0,.int t,rfl,rfl,q,hV,t,rfl,_,rfl,aV ?_⟩;exact⟨_,rfl,p,_,1,.int k,rfl,rfl,q,jp,k,rfl,z⟩
theorem j8:NE ["door","things","thing","later"] ["door","things"] (ak mx):=⟨rfl,rfl,rfl,by decide +kernel,rfl,by decide +kernel,by decide +kernel⟩
structure Oh (K:Mi)(H:Hp)(x:V)(many:Int)(rs:List Bk.Mg)(first:Int):Prop where
 ex:∃b l xs,x=.ref b/\MR K H b [.int many,.ref l,.int first]/\MA K H l xs/\MC (bu K H) xs rs
theorem C2:NE ["book"] ["book"] (ak tZ):=⟨rfl,rfl,rfl,by decide +kernel,rfl,by decide +kernel,by decide +kernel⟩
end
end Ord
namespace L2
open PySem PySem.Spec PyProof.Rows
section
theorem lh (hN:X.N.Nodup)(hi0:X.N[i0]?=some y)(hx:Loc X.env.scope y)(hc:X.calm=true)(S:Qb X.env.scope X.N scope x)(hi:PI X (.Name x px) iter wi)(ht:∀(cl:List (Me×D')) (C:D') (M1:Md) (NF:Hp) (fp:List D') (aa:List (D'×Mc)),YC (Nz X scope cl x C M1 NF fp aa) ifs tt)(he:∀(cl:List (Me×D')) (C:D') (M1:Md) (NF:Hp) (fp:List D') (aa:List (D'×Mc)),PE (Nz X scope cl x C M1 NF fp aa) elt te)(hsw:swapsWith (.ListComp elt [⟨.Name x px,iter,ifs,0⟩] scope pos) (some (.Name y py)) Yd.line X.env=pure true)(hs:∀v,foldedSetIterable iter X.env v=pure v:=by intro _;rfl)(hf:X.fn y=true\/X.env.scope.names.lookup y=some .local :=by first|exact .inl rfl|exact .inr rfl|assumption):
  PS X (.Assign [.Name y py] (.ListComp elt [⟨.Name x px,iter,ifs,0⟩] scope pos) Yd) (wm (wE wi tt te) (mT i0)):=by
 intro aa s σ H D0 I h;obtain⟨cl,X4,R9,X5⟩:=jh (scope:=scope) (env:=X.env) (λy hy hf=>I.ok.has y.1 (S.free y hy hf));rw[exec_Assign_Name_used _ _ _ _ hsw];refine Mf (UX (Mf ?_));show Ml _ X.A (do let _ <-comprehension (.ListComp elt [⟨.Name x px,iter,ifs,0⟩] scope pos) scope X.env _ (newList []) false (eval iter X.env) (some (assign (.Name y py) X.env))) _ _ s;refine Mf (QZ (abV (use:=some (assign (.Name y py) X.env)) (E:=X.xe) (Q:=λ_ s'=>SP X aa D0 .next s') rfl hs X4 S.kind S.names
  (ME (hi aa s σ H _ I h) λxv s1 h1=>ME h1 λYq s2 h2=>?_)) (λ_ s' hq=>Mm (Mm hq)) λ_ _ e=>e)
 obtain⟨it,fp,tn,J,H2,e,I2,T,Oi,f2,W,⟨m0,w0⟩,turn⟩:=h2;subst e;refine S8 (aaz S.cell (by intro y hy;cases hy) (λOP P1 Pw=>?_) S.kind);dsimp only at P1 Pw ⊢;generalize hP:s2.heap.push { cls:=.type "list",dict:=none,data:=.seq ([]:List G').toArray }=P2 at P1 Pw ⊢;have hC:P2.objs.size=s2.heap.objs.size+1:=by rw[<-hP,XH]
 have RF:s2.heap.objs.size≠P2.objs.size:=by rw[hC];exact M8 (XA _)
 have Ps:s2.heap.objs.size<=P2.objs.size:=by rw[hC];exact UZ _
 have old:∀b o,s2.heap.get? b=some o->OP.get? b=some o:=λb o e=>by
  have hb:=MS e;exact Pw.extBut b o (by rw[hC];exact M8 (Xx hb)) (MZ _ (hP▸MZ _ e))
 have hd:OP.get? s2.heap.objs.size=some (bw [] 0):=Pw.extBut _ _ RF (MZ _ (hP▸NV _ rfl));have fo:∀b∈fp,∃o,s2.heap.get? b=some o:=λb hb=>by
  obtain⟨o,e,_⟩:=T.obj _ _ Oi b hb;exact⟨o,e⟩
 have SH:∀b∈fp,b≠s2.heap.objs.size:=λb hb=>by
  obtain⟨o,e⟩:=fo b hb;exact M8 (MS e)
 have JY:Inv (Nz X scope cl x P2.objs.size s2 H2 fp aa) [(s2.heap.objs.size,bw [] 0)] (none::σ) H2 { s2 with heap:=OP,toks:=s2.toks+([]:List (Me×G')).length }:=
  jR I2 S f2 fo R9 X5 (MJ _) Ps RF ⟨_,P1⟩ hd old
 have QH:∀{H':Hp}{Mh:List G'}{n:Nat},(∀b∈fp,H' b=none)->∀b∈fp,fT (Nz X scope cl x P2.objs.size s2 H2 fp aa) [(s2.heap.objs.size,bw Mh n)] H' b:=λ{H' Mh n} hn b hb=>by
  obtain⟨_,g1,g2,g3,g4,g5⟩:=f2 b hb;obtain⟨o,e⟩:=fo b hb;refine⟨hn b hb,?_,λz=>?_,.inl hb,λy c q=>g4 y c (R9 y c q),λp hp=>?_⟩
  .show b≠P2.objs.size;exact M8 (NH (MS e) Ps)
  .rcases M0.mp (I2.Rf b z) with r|r
   .exact g1 r
   .exact g2 r
  .rcases Ny.mp hp with z|z
   .exact g5 p z
   .rw[N3.mp z];exact λq=>SH b hb q.symm
 have nodup:(Nz X scope cl x P2.objs.size s2 H2 fp aa).N.Nodup:=Py.mpr ⟨S.fresh,hN⟩;have loc:Loc (Nz X scope cl x P2.objs.size s2 H2 fp aa).env.scope x:=.inl (Xl S.var);have loop:∀s4:Md,s4={ s2 with heap:=OP,toks:=s2.toks+([]:List (Me×G')).length }->
   codeAny (Mr X.prog X.w) X.A (.compLoop (.ListComp elt [⟨.Name x px,iter,ifs,0⟩] scope pos) 0 (.ref it) (.ref s2.heap.objs.size) (compEnvC scope cl P2.objs.size X.env))
    (compPost (Mr X.prog X.w) X.A X.xe (some (assign (.Name y py) X.env)) (λ_ s'=>SP X aa D0 .next s') (.ref s2.heap.objs.size) P2.objs.size) s4:=by
  rintro s4 rfl;refine codeAny_loop rfl (λn s'=>∃i ys Mh c H' v0,Inv (Nz X scope cl x P2.objs.size s2 H2 fp aa) [(s2.heap.objs.size,bw Mh c)] (v0::σ) H' s'/\tn i s'.heap/\(∀b∈fp,H' b=none)/\aw ys Mh/\W i n ys H') ?_ m0
   ⟨0,[],[],0,H2,none,JY,T.keep _ _ _ Oi (λb _ o e=>old b o e),λb hb=>(f2 b hb).1,.nil,w0⟩
  rintro n s3 ⟨i,ys,Mh,c,H3,v0,I3,Pc,Se,rv,w3⟩;show Ml _ _ ((compTurn (.ListComp elt [⟨.Name x px,iter,ifs,0⟩] scope pos) 0 (.ref it) (.ref s2.heap.objs.size) (compEnvC scope cl P2.objs.size X.env)).onRaise (λz=>do noteFrame z (compEnvC scope cl P2.objs.size X.env);theTreesLotGoes z)) _ _ s3;refine wpAny_noted ?_;rw[acQ];rcases turn i n ys H3 w3 with⟨stop,hz,qn⟩|⟨go,hz,NN,Uy,step⟩
  .refine Mf (UX (Mf (ME (T.done (Nz X scope cl x P2.objs.size s2 H2 fp aa) rfl rfl rfl hc i _ s3 _ H3 _ I3 (QH Se) Pc stop) λr s5 ⟨hr,I5⟩=>?_)));subst hr;refine Mm ?_;obtain⟨mC,Uz,_⟩:=I5.loc;obtain⟨I6,nD⟩:=me I2 f2 (MJ _) Ps I5 (aaL _ _) rv hz;have fC:H3 P2.objs.size=none:=I5.free;have q:=qn _ nD;have UC:∀b o,s2.heap.get? b=some o->b≠P2.objs.size:=λb o e=>M8 (NH (MS e) Ps);have Ye:∀z c,X.env.cells.lookup z=some c->c≠P2.objs.size:=λz c e=>by
    obtain⟨v,q⟩:=I2.cell z c e;exact M8 (NH q.lt Ps)
   have Yg:X.env.locals≠P2.objs.size:=M8 (NH I2.lt Ps);refine Xv (jL (v:=.ref s2.heap.objs.size) I6 hN hi0 hx rfl (λs7 I7 ⟨a,sb,ha⟩=>?_) hf);have Pj:P2.objs.size≠a:=by
    rcases ha with ha|ha
    .rw[ha];exact M' Yg
    .exact M' (Ye _ _ ha)
   exact⟨mC,Uz.sameBut sb Pj,λh' hs'=>⟨_,_,I7.turned (t':=s7.toks) (it:=P2.objs.size) (λb o hb e=>(hs'.2 b hb).trans e) (by rw[ao (M' RF)];exact fC) (M' Yg) (.inr (OT I2.sz Ps)) Ye (λp hp=>UC _ _ (I2.pin p hp).1),q⟩⟩
  .refine Mf (UX (Mf (ME (T.item (Nz X scope cl x P2.objs.size s2 H2 fp aa) rfl rfl rfl hc i _ s3 _ H3 _ I3 (QH Se) Pc go) λr s5 ⟨u,hr,h5⟩=>?_)));subst hr;refine Mf (ME h5 λ_ s6 ⟨xv,H6,I6,r6,y6,Sh,YD⟩=>?_);have YE:=I6.pinned (QH YD) (T.obj _ _ Sh);refine Mf (Xv (fS (i:=0) YE nodup rfl loc r6 (λs7 I7=>?_) (.inr (Xl S.var))));have q7:=step xv H6 y6;refine Mf (eJ (ME (ht cl P2.objs.size s2 H2 fp aa _ s7 _ H6 _ I7 q7) λok s8 ⟨H8,I8,q8⟩=>?_));have back:∀{H9:Hp}{s9:Md},Inv (Nz X scope cl x P2.objs.size s2 H2 fp aa) ([(s2.heap.objs.size,bw Mh c)]++gQ fp s6.heap) (some xv::σ) H9 s9->tn (i+1) s9.heap/\∀b∈fp,H9 b=none:=λ{H9 s9} I9=>by
    refine⟨T.keep _ _ _ Sh λb hb o e=>(I9.pin (b,o) (OA _ (OA _ (cX hb e)))).1,λb hb=>?_⟩;obtain⟨o,e,d⟩:=T.obj _ _ Sh b hb;exact(I9.pin (b,o) (OA _ (OA _ (cX hb e)))).2.1
   cases ok with
   | false=>
    obtain⟨m',hm,w8⟩:=Uy ys H8 q8;obtain⟨t8,YF⟩:=back I8;exact Mm ⟨rfl,m',hm,i+1,ys,Mh,c,H8,_,I8.Ti,t8,YF,rv,w8⟩
   | true=>
    refine Mf (Mf (eJ (ME (he cl P2.objs.size s2 H2 fp aa _ s8 _ H8 _ I8 q8) λyv s9 ⟨y,H9,I9,r9,q9⟩=>?_)));obtain⟨m',hm,w9⟩:=Uy _ _ q9;obtain⟨t9,YG⟩:=back I9;have UA:=I9.Ti;obtain⟨eD,nD,Sc,nf,_⟩:=UA.pin (s2.heap.objs.size,bw Mh c) (OA _ MO);refine Mf (abY (items:=Mh.toArray) ⟨c,eD⟩ (λRG X6 SC=>?_) (by rw[ND,<-rv.length];exact Uf hz));obtain⟨c',YH⟩:=X6;have X7:RG.get? s2.heap.objs.size=some (bw (Mh++[yv]) c'):=by rw[YH];simp
    have YI:Inv (Nz X scope cl x P2.objs.size s2 H2 fp aa) [] (some xv::σ) H9 { s9 with heap:=RG }:=by
     have YJ:Inv (Nz X scope cl x P2.objs.size s2 H2 fp aa) [] (some xv::σ) H9 s9:=UA.Uk λp hp=>Mw hp (by simp);refine YJ.turned (t':=s9.toks) (it:=s2.heap.objs.size) (λb o hb q=>(SC.2 b hb).trans q) nD Sc (.inr (MJ _)) (λy cc q=>?_) λp hp=>?_
     .obtain⟨v,z⟩:=I2.cell y cc (R9 y cc q);exact M8 z.lt
     .have UB:p∈X.pn++aa:=by
       have z:p∈(X.pn++aa)++[]:=hp;simpa using z
      exact M8 (MS (I2.pin p UB).1)
    have YK:Inv (Nz X scope cl x P2.objs.size s2 H2 fp aa) [(s2.heap.objs.size,bw (Mh++[yv]) c')] (some xv::σ) H9 { s9 with heap:=RG }:=
     YI.Uk λp hp=>by rw[N3.mp hp];exact⟨X7,nD,Sc,nf,λv q=>nomatch q⟩
    refine Mm (Mm ⟨rfl,m',hm,i+1,ys++[y],Mh++[yv],c',H9,_,YK,?_,YG,rv.append (.cons r9 .nil),w9⟩);exact T.keep _ _ _ t9 λb hb o q=>(SC.2 b (SH b hb)).trans q
 exact ab2 (loop _ rfl) (T.self X.A 0 _ _ _ (T.keep _ _ _ Oi (λb _ o e=>old b o e)) (loop _ rfl))
end
end L2
namespace Ord
open PySem L2 Mx
section
def e8 (ms:List Nat):List V:=ms.map λm:Nat=>V.int m
theorem t5 {ms:List Nat}(h:k<ms.length):PP (e8 ms) (k:Int)=some (.int ((ms.getD k 0:Nat):Int)):=ck (by
 unfold e8;rw[O0,Om h,Zx,Om h];rfl)
theorem C3:NE ["many","things","first"] ["many","things","first"] (ak tY):=⟨rfl,rfl,rfl,by decide +kernel,rfl,by decide +kernel,by decide +kernel⟩
theorem li:NE ["many","room","number","last","door"] ["many","room","number"] (ak tX):=⟨rfl,rfl,rfl,by decide +kernel,rfl,by decide +kernel,by decide +kernel⟩
theorem Ma {ns:List Int}:e8 (ns.map Int.toNat)=(ns.map Int.toNat).map λm:Nat=>V.int m:=rfl
theorem t6:NE ["room","things","found"] ["room","things"] (ak lg):=⟨rfl,rfl,rfl,by decide +kernel,rfl,by decide +kernel,by decide +kernel⟩
end
end Ord
namespace Bk
open Mx
theorem A8 {r:Mg}(rise:(r.map (·.1)).Pairwise (· < ·))(h:∀d∈r,0<=d.1/\d.1<8):r.length<=8:=by
 have nd:(r.map (·.1)).Nodup:=rise.imp λh e=>Mw h (by rw[e];lia);have:=L2.cx (r.map (·.1)) (bj 8) nd λx hx=>by
  obtain⟨d,hd,rfl⟩:=Nm.mp hx;exact cP.mpr (h d hd)
 rw[Ng,dq] at this;exact this
theorem wW (m:SJ rs)(w:WF rs){i:Nat}(h:rs[i]?=some r):
  (∀d∈r,0<=d.1/\d.1<8/\0<=d.2/\d.2<((bq (rs.take i)).length:Nat)/\((bq (rs.take i)).getD d.2.toNat 0).testBit d.1.toNat=false/\cf (bq (rs.take i)) d=Oj rs (i+2))/\bq (rs.take (i+1))=bq (rs.take i)++[Oj rs (i+2)]:=by
 have il:=(NP.mp h).1;have tl:(rs.take i).length=i:=by rw[Ph];lia
 have ml:=dD (rs.take i);have ok:=w i r h;have each:∀d∈r,0<=d.1/\d.1<8/\0<=d.2/\d.2<((bq (rs.take i)).length:Nat)/\((bq (rs.take i)).getD d.2.toNat 0).testBit d.1.toNat=false/\cf (bq (rs.take i)) d=Oj rs (i+2):=λd hd=>by
  obtain⟨a1,a2,a3,a4⟩:=m i r h d hd;obtain⟨b1,b2⟩:=ok.ahead d hd;have e:(bq (rs.take i)).getD d.2.toNat 0=Oj rs d.2.toNat:=(eO (aaR i rs) (by rw[tl];lia)).symm;refine⟨a1,a2,by lia,by rw[ml,tl];lia,by rw[e];exact a3,?_⟩;unfold cf;rw[e];exact a4
 refine⟨each,?_⟩;rw[So,h];unfold bq;rw[VN,Ua];show ix (bq (rs.take i)) r=_;unfold ix;cases r with
 | nil=>exact Mw rfl ok.ne
 | cons d r=>rw[List.headD_cons,(each d MO).2.2.2.2.2];rfl
end Bk
namespace L2
theorem ar.OH (e:ar H H')(h:MA K H a xs):MA K H' a xs:=by
 rcases h with(h|⟨o,h⟩)|h
 .exact .inl (.inl (e _ _ h))
 .exact .inl (.inr ⟨o,e _ _ h⟩)
 .exact .inr h
end L2
namespace Ord
open PySem L2 Mx
section
structure ae4 (many:Int)(rs):Prop where
 wf:Bk.WF rs
 mask:Bk.SJ rs
 less:∀r∈rs,∀d∈r,d.1<many
 MW:rs.length<=1000
theorem t7:NE ["many","rooms","things","room"] ["many","rooms"] (ak wU):=⟨rfl,rfl,rfl,by decide +kernel,rfl,by decide +kernel,by decide +kernel⟩
end
end Ord
namespace Bk
open Mx
structure Wd (rs:List Mg)(ws:List Int):Prop where
 nd:ws.Nodup
 PQ:∀x∈ws,0<=x/\x<(rs.length:Int)+2
 z:(0:Int)∈ws
 o:(1:Int)∈ws
theorem Wd.len (w:Wd rs ws):ws.length<=rs.length+2:=by
 have:=L2.cx ws (bj (rs.length+2)) w.nd λx hx=>cP.mpr (by have:=w.PQ x hx;lia);rw[dq] at this;exact this
theorem vJ (wf:WF rs):∀(n:Nat) (k:Int) (ws:List Int),dR n rs k->Wd rs ws->Wd rs (walk n rs k ws)/\(∀x∈ws,x∈walk n rs k ws)/\∀x∈walk n rs k ws,x∈ws\/x<=k
 | 0,k,ws,f,w=>⟨w,λ_ h=>h,λx h=>.inl h⟩
 | n+1,k,ws,f,w=>by
  unfold walk
  by_cases c:k∈ws
  .rw[Mu c];exact⟨w,λ_ h=>h,λx h=>.inl h⟩
  rw[Mq c];obtain⟨k2,kl,fd⟩:2<=k/\(k-2).toNat<rs.length/\∀d∈aO rs k,dR n rs d.2:=by
   rcases f with f|f|f
   .exact Mw (f▸w.z) c
   .exact Mw (f▸w.o) c
   .exact f
  have ok:=wf _ _ (fI kl);have fold:∀(ds:Mg) (ws:List Int),(∀d∈ds,dR n rs d.2/\d.2<k)->Wd rs ws->Wd rs (ds.foldl (λw d=>walk n rs d.2 w) ws)/\(∀x∈ws,x∈ds.foldl (λw d=>walk n rs d.2 w) ws)/\∀x∈ds.foldl (λw d=>walk n rs d.2 w) ws,x∈ws\/x<k:=by
   intro ds
   induction ds with
   | nil=>intro ws _ w;exact⟨w,λ_ h=>h,λx h=>.inl h⟩
   | cons d ds ih=>
    intro ws hd w;obtain⟨a1,a2,a3⟩:=vJ wf n d.2 ws (hd d MO).1 w;obtain⟨b1,b2,b3⟩:=ih (walk n rs d.2 ws) (λd' h'=>hd d' (Na _ h')) a1;refine⟨b1,λx hx=>b2 x (a2 x hx),λx hx=>?_⟩;rcases b3 x hx with h|h
    .rcases a3 x h with h|h
     .exact .inl h
     .exact .inr (Int.lt_of_le_of_lt h (hd d MO).2)
    .exact .inr h
  obtain⟨a1,a2,a3⟩:=fold (aO rs k) ws (λd hd=>⟨fd d hd,by have:=(ok.ahead d hd).2;lia⟩) w;have kn:k∉(aO rs k).foldl (λw d=>walk n rs d.2 w) ws:=λh=>by
   rcases a3 k h with h|h
   .exact c h
   .omega
  refine⟨⟨?_,λx hx=>?_,P6 _ a1.z,P6 _ a1.o⟩,λx hx=>P6 _ (a2 x hx),λx hx=>?_⟩
  .rw[Ub];exact⟨a1.nd,by simp,λx hx y hy=>by rw[N3.mp hy];rintro rfl;exact kn hx⟩
  .rcases Ny.mp hx with h|h
   .exact a1.PQ x h
   .rw[N3.mp h];lia
  .rcases Ny.mp hx with h|h
   .rcases a3 x h with h|h
    .exact .inl h
    .exact .inr (by lia)
   .rw[N3.mp h];exact .inr (acZ _)
theorem j9 (wf:WF rs)(w:Wd rs ws)(kl:(k-2).toNat<rs.length)(k2:2<=k)(c:k∉ws)(fd:∀d∈aO rs k,dR n rs d.2):
  ∀i,i<=(aO rs k).length->Wd rs (((aO rs k).take i).foldl (λw d=>walk n rs d.2 w) ws)/\k∉((aO rs k).take i).foldl (λw d=>walk n rs d.2 w) ws
 | 0,_=>⟨w,c⟩
 | i+1,h=>by
  obtain⟨a1,a2⟩:=j9 wf w kl k2 c fd i (by lia);have hi:i<(aO rs k).length:=by lia
  have e:(aO rs k).take (i+1)=(aO rs k).take i++[(aO rs k)[i]]:=by rw[So,Om hi];rfl
  rw[e,Ua];show Wd rs (walk n rs (aO rs k)[i].2 _)/\k∉walk n rs (aO rs k)[i].2 _;have mem:(aO rs k)[i]∈aO rs k:=VQ hi;have ok:=(wf _ _ (fI kl)).ahead _ mem;obtain⟨b1,b2,b3⟩:=vJ wf n _ _ (fd _ mem) a1;refine⟨b1,λhk=>?_⟩;rcases b3 k hk with z|z
  .exact a2 z
  .omega
end Bk
namespace L2
open PySem
def bx (d:D')(H H':Hp):Prop:=∀b o,b≠d->H b=some o->H' b=some o
section
theorem bx.refl (d)(H):bx d H H:=λ_ _ _ e=>e
theorem bx.trans (e:bx d H H')(e':bx d H' Qg):bx d H Qg:=λb o n h=>e' b o n (e b o n h)
theorem bx.upd (o):bx d H (L2.upd H d o):=λb u n h=>by rw[ao n];exact h
theorem bx.Oq (e:bx d H H')(hd:H d=some (.dK kvs))(h:MR K H a xs):MR K H' a xs:=by
 rcases h with(h|⟨o,h⟩)|h
 .exact .inl (.inl (e _ _ (by rintro rfl;rw[hd] at h;cases h) h))
 .exact .inl (.inr ⟨o,e _ _ (by rintro rfl;rw[hd] at h;cases h) h⟩)
 .exact .inr h
theorem bx.OH (e:bx d H H')(hd:H d=some (.dK kvs))(h:MA K H a xs):MA K H' a xs:=by
 rcases h with(h|⟨o,h⟩)|h
 .exact .inl (.inl (e _ _ (by rintro rfl;rw[hd] at h;cases h) h))
 .exact .inl (.inr ⟨o,e _ _ (by rintro rfl;rw[hd] at h;cases h) h⟩)
 .exact .inr h
end
theorem bU {α:Type}{l:List α}{i:Nat}{x:α}(h:l[i]?=some x):l.take (i+1)=l.take i++[x]:=by rw[So,h];rfl
def Ro (ws:List Int):List (Key×V):=ws.map λk=>(Oy k,V.bl true)
theorem pi (ws)(k:Int):(ce (Ro ws) (.inl k)).isSome=decide (k∈ws):=by
 induction ws with
 | nil=>rfl
 | cons x ws ih=>
  by_cases h:x=k
  .subst h;show(ce ((Oy x,V.bl true)::Ro ws) (.inl x)).isSome=_;rw[dH rfl];simp
  .show(ce ((Oy x,V.bl true)::Ro ws) (.inl k)).isSome=_;rw[dI (by intro e;exact h (XQ e)),ih];simp[M' h]
theorem C4 (h:k∉ws):bP (Ro ws) (.inl k) (.bl true)=Ro (ws++[k]):=by
 unfold bP;rw[jj,pi,M4 h,Mq (by decide)];unfold Ro;rw[Qn];rfl
end L2
namespace Ord
open PySem L2 Mx
section
theorem bu.ae5 (s:bx d H H')(hd:H d=some (.dK kvs))(h:bu K H x r):bu K H' x r:=by
 obtain⟨a,xs,e,q,z⟩:=h;exact⟨a,xs,e,s.Oq hd q,aD (λ_ _ ⟨p,e,q⟩=>⟨p,e,s.Oq hd q⟩) z⟩
def nM (K:Mi)(n:Nat):Sp:=λvs H Q _=>∃(l wd:D') (xs:List V) (rs:List Bk.Mg) (k:Int) (ws:List Int),vs=[.ref l,.int k,.ref wd]/\MA K H l xs/\MC (bu K H) xs rs/\Bk.WF rs/\rs.length<=1000/\
 H wd=some (.dK (Ro ws))/\Bk.Wd rs ws/\Bk.dR n rs k/\∀H',bx wd H H'->H' wd=some (.dK (Ro (Bk.walk n rs k ws)))->Q .MV H'
theorem yX:NE ["rooms","number","walked","door"] ["rooms","number","walked"] (ak rE):=⟨rfl,rfl,rfl,by decide +kernel,rfl,by decide +kernel,by decide +kernel⟩
theorem ua (F:Nh K "walk_rooms" "walk_rooms" rE f fd)(T:N9 K mg CO)(n:Nat)(WW:∀m,n=m+1->Df P w K mg base MM (m+1) "walk_rooms" ["rooms","number","walked"] (nM K m)):
  MU P w K mg base MM (n+1) f fd ["rooms","number","walked"] (nM K n):=by
 refine F.ok yX (λvs H Q E h=>?_) (λMB A outer s H vs Q E hr h=>?_)
 .obtain⟨l,wd,xs,rs,k,ws,rfl,_⟩:=h;rfl
 obtain⟨l,wd,xs,rs,k,ws,rfl,ql,pr,wf,MW,SL,W,Qv,z⟩:=h;obtain⟨t2,m2⟩:=T.low
 by_cases c:k∈ws
 .refine⟨_,af (aQ (xP (yt (rq hr) (pv 1) (pv 2))) (al oB) az) (af aZ (al aZ)),?_⟩;refine⟨_,rfl,_,rfl,wd,_,rfl,eS.k (k:=.inl k) SL,_,rfl,?_⟩;rw[pi,M6 c];refine aV ?_;rw[Bk.lc c] at z;exact z H (bx.refl _ _) SL
 cases n with
 | zero=>
  exfalso;rcases Qv with e|e
  .exact c (e▸W.z)
  .exact c (e▸W.o)
 | succ n=>
  obtain⟨k2,kl,fd'⟩:2<=k/\(k-2).toNat<rs.length/\∀d∈Bk.aO rs k,Bk.dR n rs d.2:=by
   rcases Qv with e|e|e
   .exact Mw (e▸W.z) c
   .exact Mw (e▸W.o) c
   .exact e
  have D:=WW n rfl;refine⟨_,af (aQ (xP (yt (rq hr) (pv 1) (pv 2))) (al oB) az)
   (af (PS.Qt (ed Tb rfl (jN (aJ (show Nl _ (dG K) from bE) (pv 0) (aR mU (pv 1) (aH (v:=.int 2) rfl m2 ⟨t2,rfl⟩)) (λ_ _=>rfl))) (cB (i:=3) yX.nd rfl (MX rfl))
    (al (bA (aF D hr rfl (aX (E:=λ_ _ _ _=>False)) (ac (pv 0) (ac (aJ (show Nl _ (bF K) from bc) (pv 3) ap (λ_ _=>rfl)) (ac (pv 2) ae))))))))
   (al (oY (rq hr) (pv 2) (pv 1) mR rfl))),?_⟩
  refine⟨_,rfl,_,rfl,wd,_,rfl,eS.k (k:=.inl k) SL,_,rfl,?_⟩;rw[pi,M4 c];refine aK ?_;obtain⟨x,hx,ra⟩:=dX pr (Bk.fI kl);obtain⟨a,ys,rfl,qa,pd⟩:=id ra;have ik:PP xs (k-2)=some (.ref a):=by
   have:=ck hx;rw[show(((k-2).toNat:Nat):Int)=k-2 by lia] at this;exact this
  refine⟨_,rfl,_,rfl,k,2,rfl,rfl,l,xs,k-2,.ref a,rfl,rfl,ql,ik,a,rfl,⟨_,qa⟩,
   oE (K:=K) (a:=a) (xs:=ys) (λi σ H2=>∃v3,σ=[some (.ref l),some (.int k),some (.ref wd),v3]/\bx wd H H2/\H2 wd=some (.dK (Ro (((Bk.aO rs k).take i).foldl (λw d=>Bk.walk n rs d.2 w) ws)))) ⟨none,rfl,bx.refl _ _,SL⟩ ?_ ?_ ?_⟩
  .rintro i σ H2 _ ⟨v3,rfl,s2,_⟩;exact s2.Oq SL qa
  .rintro i y σ H2 hy ⟨v3,rfl,s2,h2⟩;obtain⟨⟨dt,dk⟩,hd,p,rfl,qd⟩:=cp pd hy;obtain⟨il,ie⟩:=NP.mp hd;obtain⟨wp,kp⟩:=Bk.j9 wf W kl k2 c fd' i (by lia);refine⟨_,rfl,_,rfl,p,_,1,.int dk,rfl,rfl,s2.Oq SL qd,jp,_,rfl,l,wd,xs,rs,dk,_,rfl,s2.OH SL ql,aD (λ_ _ z=>z.ae5 s2 SL) pr,wf,MW,h2,wp,fd' _ (N1 hd),λH3 s3 h3=>?_⟩;refine⟨_,rfl,s2.trans s3,?_⟩;rw[bU hd,Ua];exact h3
  .rintro σ H2 ⟨v3,rfl,s2,h2⟩;have hl:=pd.length;obtain⟨wp,kp⟩:=Bk.j9 wf W kl k2 c fd' (Bk.aO rs k).length (MJ _);rw[hl] at h2;rw[QB] at h2 wp kp;refine⟨_,rfl,_,rfl,wd,_,rfl,sI.k (k:=.inl k) h2 ?_,?_⟩
   .unfold Ro;rw[Ng,Nf];have:=wp.len;lia
   .refine z _ (s2.trans (bx.upd _)) ?_;have e:Bk.walk (n+1) rs k ws=(Bk.aO rs k).foldl (λw d=>Bk.walk n rs d.2 w) ws++[k]:=by rw[Bk.walk];exact Mq c
    rw[ag,C4 kp,e]
theorem vK (F:Nh K "walk_rooms" "walk_rooms" rE f fd)(T:N9 K mg CO)(b:bK K fd ["rooms","number","walked"] [])(m:mg "walk_rooms"=some (.ref f)):
  ∀n,MU P w K mg base MM (n+1) f fd ["rooms","number","walked"] (nM K n)
 | 0=>ua F T 0 λm h=>nomatch h
 | n+1=>ua F T (n+1) λk h=>by
  cases h;exact⟨f,fd,vK F T b m n,b,F.kp,m⟩
end
end Ord
namespace L2
open PySem
def enc (r:Bk.Mg):List (List Int):=r.map λd=>[d.1,d.2]
theorem i4 (h:enc r=enc r'):r=r':=by
 unfold enc at h;exact(List.map_inj_right (f:=λd:Int×Int=>[d.1,d.2]) (λa b e=>by
  simp only[List.cons.injEq,and_true] at e;exact XU e.1 e.2)).mp h
theorem rF:Pz "set"=some (.type "set"):=by decide +kernel
end L2
namespace Ord
open PySem L2 Mx
section
theorem bu.rep (h:bu K H x r):bM.rep K H x (enc r):=by
 obtain⟨a,xs,e,q,z⟩:=h;refine⟨a,xs,e,q,?_⟩;clear q e
 induction z with
 | nil=>exact .nil
 | cons h _ ih=>
  obtain⟨p,e,q⟩:=h;exact .cons ⟨p,_,e,q,.cons rfl (.cons rfl .nil)⟩ ih
theorem fJ:∀{xs:List V}{rs:List Bk.Mg},MC (bu K H) xs rs->MC (bM.rep K H) xs (rs.map enc)
 | _,_,.nil=>.nil
 | _,_,.cons h t=>.cons h.rep (fJ t)
theorem vL:NE ["rooms","first","walked"] ["rooms","first"] (ak nL):=⟨rfl,rfl,rfl,by decide +kernel,rfl,by decide +kernel,by decide +kernel⟩
end
section
structure ι (many:Nat)(rs)(first:Nat):Prop where
 m1:1<=many
 m8:many<=8
 rooms:ae4 many rs
 MW:rs.length<70
 nd:rs.Nodup
 fst:first=0\/(1<first/\first<rs.length+2/\Bk.Oj rs first=2 ^ many-1)
 fits:Bk.dR 8 rs first
 walk:Bk.walk 8 rs first [0,1]=bj (rs.length+2)
theorem Oh.same (s:ar H H')(h:Oh K H x many rs first):Oh K H' x many rs first:=by
 obtain⟨b,l,xs,e,q,ql,pr⟩:=h.ex;exact⟨b,l,xs,e,s.Oq q,s.OH ql,aD (λ_ _ z=>z.same s) pr⟩
theorem kh:NE ["book","many","rooms","first","things"] ["book"] (ak wV):=⟨rfl,rfl,rfl,by decide +kernel,rfl,by decide +kernel,by decide +kernel⟩
end
end Ord
namespace L2
open PySem
theorem cg (h:MR K H p (o.map V.int)):au.rep K H (.ref p) o:=by
 refine⟨p,_,rfl,h,?_⟩;clear h
 induction o with
 | nil=>exact .nil
 | cons x o ih=>exact .cons rfl ih
theorem cj (h:au.rep K H x o):∃p,x=.ref p/\MR K H p (o.map V.int):=by
 obtain⟨p,xs,e,q,r⟩:=h;have:xs=o.map V.int:=by
  clear q e
  induction r with
  | nil=>rfl
  | cons h _ ih=>rw[ih,Nt];cases h;rfl
 exact⟨p,e,this▸q⟩
end L2
namespace Bk
open Mx
def pj (m:Int)(rs:List Mg):Prop:=∀r∈rs,∀d∈r,d.1<m
theorem A9 (h:x∈(keep rs r).2):x∈rs\/x=r:=by
 rcases dg rs r with e|⟨_,e,_⟩
 .rw[e] at h;exact .inl h
 .rw[e] at h;rcases Ny.mp h with h|h
  .exact .inl h
  .exact .inr (N3.mp h)
theorem qC (hf:∀t rs,pj m rs->pj m (f (rests t os) rs).2):
  ∀(ts:List Int) (rs:List Mg),(∀t∈ts,t<m)->pj m rs->pj m (aG f os ts rs).2/\∀d∈(aG f os ts rs).1,d.1<m
 | [],rs,_,h=>⟨h,λd hd=>by cases hd⟩
 | t::ts,rs,ht,h=>by
  obtain⟨a1,a2⟩:=qC hf ts _ (λt' h'=>ht t' (Na _ h')) (hf t rs h);refine⟨a1,λd hd=>?_⟩;rcases M0.mp hd with rfl|hd
  .exact ht t MO
  .exact a2 d hd
theorem ub:∀(n:Nat) (os:am) (rs:List Mg),(∀o∈os,∀x∈o,x<m)->pj m rs->pj m (lay n os rs).2
 | 0,_,_,_,h=>h
 | n+1,os,rs,ho,h=>by
  obtain⟨a1,a2⟩:=qC (m:=m) (f:=lay n) (os:=os) (λt rs h=>ub n (rests t os) rs (λo hr x hx=>ho _ (aY.mp hr) x (Na _ hx)) h) (heads os) rs (λt ht=>by
   obtain⟨_,r,hr⟩:=bz.mp ht;exact ho _ hr t MO) h
  intro r hr;rcases A9 hr with hr|rfl
  .exact a1 r hr
  .exact a2
theorem uc (rs)(r):(keep rs r).2.length<=rs.length+1:=by
 rcases dg rs r with e|⟨_,e,_⟩
 .rw[e];lia
 .rw[e,NQ];simp
def jq:Nat->Nat
 | 0=>0
 | n+1=>1+(n+1)*jq n
theorem ud:∀(ts:List Int) (rs:List Mg),(∀t∈ts,∀rs,(f (rests t os) rs).2.length<=rs.length+b)->(aG f os ts rs).2.length<=rs.length+ts.length*b
 | [],rs,_=>by show rs.length<=_;lia
 | t::ts,rs,hf=>by
  have h1:=ud ts (f (rests t os) rs).2 λt' h'=>hf t' (Na _ h');have h2:=hf t MO rs;show(aG f os ts (f (rests t os) rs).2).2.length<=_;rw[N',acW];lia
theorem yY (h:eV n S os)(ne:os≠[]):(heads os).length<=n:=by
 obtain⟨o,ho⟩:=SX os ne;have so:=h o ho;have nd:(heads os).Nodup:=(cz os).imp λh e=>Mw h (by rw[e];lia);have:=L2.cx (heads os) o nd λt ht=>by
  obtain⟨_,r,hr⟩:=bz.mp ht;exact(so.2.2.2 t).mpr (((h _ hr).2.2.2 t).mp MO)
 rw[so.1] at this;exact this
theorem qD:∀(n:Nat) (S:Int->Prop) (os:am) (rs:List Mg),eV n S os->os≠[]->(lay n os rs).2.length<=rs.length+jq n
 | 0,_,_,rs,_,_=>MJ _
 | n+1,S,os,rs,h,ne=>by
  have h1:=ud (f:=lay n) (os:=os) (b:=jq n) (heads os) rs λt ht rs=>by
   obtain⟨_,r,hr⟩:=bz.mp ht;exact qD n _ (rests t os) rs (h.rests t) (λe=>by
    have:=aY.mpr hr;rw[e] at this;cases this)
  have h2:=yY h ne;have h3:=uc (aG (lay n) os (heads os) rs).2 (aG (lay n) os (heads os) rs).1;have h4:(heads os).length*jq n<=(n+1)*jq n:=VG _ h2;show(keep _ _).2.length<=_;unfold jq;lia
end Bk
namespace Ord
open PySem L2 Mx
abbrev wX (many:Nat):Int->Prop:=λx=>0<=x/\x<(many:Int)
theorem wY (m1:1<=many)(m8:many<=8):ι many [] 0 where
 m1:=m1
 m8:=m8
 rooms:=⟨(λi r h=>by simp at h),(λi r h=>by simp at h),(λr h=>nomatch h),(by decide)⟩
 MW:=by decide
 nd:=Ue
 fst:=.inl rfl
 fits:=.inl rfl
 walk:=by rw[show((0:Nat):Int)=0 from rfl,Bk.lc (by decide)];rfl
theorem yZ {os:Bk.am}(m1:1<=many)(m8:many<=8)(h:Bk.eV many (wX many) os)(ne:os≠[])(MW:(Bk.lay many os []).2.length<70):ι many (Bk.lay many os []).2 (Bk.lay many os []).1:=by
 have wf0:Bk.WF []:=λi r h=>by simp at h
 have mk0:Bk.SJ []:=λi r h=>by simp at h
 obtain⟨wf,pre,tells⟩:=Bk.cQ many os [] h.plain ne wf0;obtain⟨mk,hs⟩:=Bk.tT many (wX many) os [] h ne wf0 mk0;have all:∀o∈Bk.Ow (Bk.lay many os []).2 (Bk.lay many os []).1,o.length=many:=λo ho=>(h o ((tells.mem o).mp ho)).1;have Qv:=Bk.ph wf many _ tells.lo tells.hi all;refine⟨m1,m8,⟨wf,mk,Bk.ub many os [] (λo ho x hx=>(((h o ho).2.2.2 x).mp hx).2) (λr h=>by cases h),by lia⟩,MW,Bk.qw many os [] Ue,.inr ⟨?_,tells.hi,Bk.A6 hs⟩,Qv.le m8,?_⟩
 .have lo:=tells.lo;have n1:(Bk.lay many os []).1≠1:=λe=>by
   have:=all [] (by rw[e,Bk.gL];exact MO);simp at this;lia
  lia
 .have:=Bk.tR many os [] (Bk.lay many os []).2 h.plain ne wf0 P7 8 m8;exact this
theorem C5 {os:Bk.am}(h:Bk.eV many (wX many) os)(ne:os≠[]):Bk.cy (Bk.Ow (Bk.lay many os []).2 (Bk.lay many os []).1)/\Bk.fu (Bk.Ow (Bk.lay many os []).2 (Bk.lay many os []).1) os:=by
 obtain⟨wf,pre,tells⟩:=Bk.cQ many os [] h.plain ne (λi r h=>by simp at h);exact⟨tells.rise,tells.mem⟩
end Ord
namespace L2
open PySem
def eW:HO->Prop
 | .tup _=>False
 | .NO _ _=>False
 | _=>True
section
theorem MR.soft (hd:H d=some o)(so:eW o)(h:MR K H a xs):MR K (upd H d u) a xs:=by
 rcases h with(h|⟨ob,h⟩)|h
 .refine .inl (.inl ?_);rw[ao (by rintro rfl;rw[hd] at h;cases h;exact so)];exact h
 .refine .inl (.inr ⟨ob,?_⟩);rw[ao (by rintro rfl;rw[hd] at h;cases h;exact so)];exact h
 .exact .inr h
theorem ez (hd:H d=some o)(so:eW o)(h:au.rep K H x ks):au.rep K (upd H d u) x ks:=by
 obtain⟨p,xs,e,q,r⟩:=h;exact⟨p,xs,e,q.soft hd so,aD (λ_ _ z=>z) r⟩
theorem jr (hd:H d=some o)(so:eW o)(h:bM.rep K H x ks):bM.rep K (upd H d u) x ks:=by
 obtain⟨p,xs,e,q,r⟩:=h;exact⟨p,xs,e,q.soft hd so,aD (λ_ _ z=>ez hd so z) r⟩
end
theorem vM:∀{L:QO}{rs:List Bk.Mg}{k:Int},L.length=rs.length->(∀(i:Nat) (e:List (List Int)×D'×Int),L[i]?=some e->∃r,rs[i]?=some r/\e.1=enc r/\e.2.2=(i:Int)+k)->
  eU L (enc r)=if r∈rs then some ((rs.idxOf r:Nat)+k) else none
 | [],[],_,_,_=>rfl
 | [],_::_,_,h,_=>by simp at h
 | _::_,[],_,h,_=>by simp at h
 | e::L,r0::rs,k,h,all=>by
  obtain⟨r1,h1,h2,h3⟩:=all 0 e rfl;simp at h1;subst h1;have ih:=vM (r:=r) (L:=L) (rs:=rs) (k:=k+1) (by simpa using h) λi e' he=>by
   obtain⟨r',g1,g2,g3⟩:=all (i+1) e' (by simpa using he);exact⟨r',by simpa using g1,g2,by rw[g3];lia⟩
  by_cases c:r0=r
  .subst c;rw[Mu MO,List.idxOf_cons_self];unfold eU;rw[aef (by simpa using h2)];show some e.2.2=_;rw[h3]
  .have c':¬e.1=enc r:=λz=>c (i4 (h2.symm.trans z));have e1:eU (e::L) (enc r)=eU L (enc r):=by
    unfold eU;rw[VF (by simpa using c')]
   rw[e1,ih]
   by_cases m:r∈rs
   .rw[Mu m,Mu (Na _ m),List.idxOf_cons,show(r0==r)=false from by simpa using c];simp;lia
   .rw[Mq m,Mq (λz=>by rcases M0.mp z with z|z;exact c z.symm;exact m z)]
end L2
namespace Ord
open PySem L2 Mx
abbrev y4:Mv:=top 19
def vN (s:Mv):List Mv:=match s with
 | .ClassDef _ _ _ b _ _ _ _ _ _ _=>b
 | _=>[]
abbrev wZ:Mv:=(vN y4).getD 0 (.Pass ⟨0,0,0,0⟩)
abbrev rG:Mv:=(vN y4).getD 1 (.Pass ⟨0,0,0,0⟩)
structure SM (K)(C):Prop where
 cls:SG K C
 rooms:gz K C "rooms"
 XY:gz K C "numbers"
def my (L:QO)(rs:List Bk.Mg):Prop:=L.length=rs.length/\∀(i:Nat) (e:List (List Int)×D'×Int),L[i]?=some e->∃r,rs[i]?=some r/\e.1=enc r/\e.2.2=(i:Int)+2
structure Px (K)(C)(H)(x lr dn)(rs):Prop where
 ex:∃dx xs L,H x=some (.ins C dx [("rooms",.ref lr),("numbers",.ref dn)])/\H lr=some (.lst xs)/\MC (bu K H) xs rs/\H dn=some (fj dn L)/\jm K H L/\my L rs
section
def nO (K:Mi)(C:D'):Sp:=λvs H Q _=>∃(x dx:D'),vs=[.ref x]/\H x=some (.ins C dx [])/\∀(lr dn:D') (H':Hp),H lr=none->H dn=none->(∀b o,b≠x->H b=some o->H' b=some o)->Px K C H' x lr dn []->Q .MV H'
theorem Eu:NE ["self"] ["self"] (ak wZ):=⟨rfl,rfl,rfl,by decide +kernel,rfl,by decide +kernel,by decide +kernel⟩
theorem vO (F:Nh K "__init__" "Shelf.__init__" wZ f fd)(c:SM K C):MU P w K mg base MM 1 f fd ["self"] (nO K C):=by
 refine F.ok Eu (λvs H Q E h=>?_) (λMB A outer s H vs Q E hr h=>?_)
 .obtain⟨x,dx,rfl,_⟩:=h;rfl
 obtain⟨x,dx,rfl,hx,z⟩:=h;refine⟨_,af (ya (pv 0) (bt ae) rfl) (al (ya (pv 0) AK rfl)),?_⟩;refine⟨by show 0<=Mz;decide,λlr NG=>?_⟩;have n1:x≠lr:=aq hx NG;refine⟨_,rfl,x,C,dx,[],rfl,by rw[ao n1];exact hx,c.cls,c.rooms,by decide,?_⟩;intro dn N0;have n2:x≠dn:=aq ag N0;have n3:lr≠dn:=λe=>by
  subst e;rw[ao (M' n1),ag] at N0;cases N0
 have ado:H dn=none:=by
  rw[ao (M' n2),ao (M' n3)] at N0;exact N0
 refine⟨_,rfl,x,C,dx,[("rooms",.ref lr)],rfl,by rw[ao n2,ag];rfl,c.cls,c.XY,by show 1<1000;decide,?_⟩;refine z lr dn _ NG ado (λb o nb e=>?_) ⟨dx,[],[],?_,?_,.nil,?_,(λe h=>nomatch h),rfl,(λi e h=>nomatch h)⟩
 .rw[ao nb,ao (aq e ado),ao nb,ao (aq e NG)];exact e
 .rw[ag];rfl
 .rw[ao (M' n1),ao n3,ao (M' n1),ag]
 .rw[ao (M' n2),ag]
theorem bu.soft (hd:H d=some o)(so:eW o)(h:bu K H x r):bu K (upd H d u) x r:=by
 obtain⟨a,xs,e,q,z⟩:=h;exact⟨a,xs,e,q.soft hd so,aD (λ_ _ ⟨p,e,q⟩=>⟨p,e,q.soft hd so⟩) z⟩
theorem my.val (h:my L rs)(r):eU L (enc r)=if r∈rs then some (((rs.idxOf r:Nat):Int)+2) else none:=vM h.1 h.2
theorem my.snoc (h:my L rs)(r)(b):my (L++[(enc r,b,(rs.length:Int)+2)]) (rs++[r]):=by
 refine⟨by rw[NQ,NQ,h.1];rfl,λi e he=>?_⟩
 by_cases hi:i<L.length
 .rw[SW hi] at he;obtain⟨r',g1,g2,g3⟩:=h.2 i e he;exact⟨r',by rw[SW (by rw[<-h.1];exact hi)];exact g1,g2,g3⟩
 .have hl:=(NP.mp he).1;rw[NQ] at hl;have OK:i=L.length:=by simp at hl;lia
  subst OK;rw[US (MJ _)] at he;simp at he;subst he;exact⟨r,by rw[h.1,US (MJ _)];simp,rfl,by rw[h.1]⟩
def i6 (K:Mi)(C:D'):Sp:=λvs H Q _=>∃(x lr dn:D') (rs:List Bk.Mg) (y:V) (r:Bk.Mg),vs=[.ref x,y]/\Px K C H x lr dn rs/\bu K H y r/\rs.length<1000/\
 ∀H',(∀b o,b≠lr->b≠dn->H b=some o->H' b=some o)->Px K C H' x lr dn (Bk.keep rs r).2->Q (.int ((Bk.keep rs r).1:Nat)) H'
theorem Ew:NE ["self","room"] ["self","room"] (ak rG):=⟨rfl,rfl,rfl,by decide +kernel,rfl,by decide +kernel,by decide +kernel⟩
theorem vP (F:Nh K "keep" "Shelf.keep" rG f fd)(T:N9 K mg CO)(c:SM K C):MU P w K mg base MM 1 f fd ["self","room"] (i6 K C):=by
 refine F.ok Ew (λvs H Q E h=>?_) (λMB A outer s H vs Q E hr h=>?_)
 .obtain⟨x,lr,dn,rs,y,r,rfl,_⟩:=h;rfl
 obtain⟨x,lr,dn,rs,y,r,rfl,S,ra,MW,z⟩:=h;obtain⟨dx,xs,L,hx,NG,pr,N0,hk,nl⟩:=S.ex;obtain⟨b,ys,rfl,qb,pb⟩:=id ra;obtain⟨t2,m2⟩:=T.low;have hu:(cH MM P w K mg base ["self","room"] "Shelf.keep" (ak rG) f MB A outer s H E).Qt.A.units+2<MQ:=by have:=hr.un;show(A.deeper _).units+2<MQ;lia
 refine⟨_,af (aQ (ay (yw hu) (pv 1) (gR (pv 0) rfl) rfl)
   (af (CI hu (gR (pv 0) rfl) (pv 1) (aR cN (aE bh rfl T.t.len dc (ac (gR (pv 0) rfl) ae)) (aH (v:=.int 2) rfl m2 ⟨t2,rfl⟩)) rfl)
   (al (bA (eG RW T7 T8 cZ (gR (pv 0) rfl) (ac (pv 1) ae))))) az)
  (al (aM (CG hu (gR (pv 0) rfl) (pv 1) (λ_ _=>rfl)))),?_⟩
 have hlen:=pr.length;have n1:x≠lr:=iq hx NG (λh=>nomatch h);have n2:x≠dn:=iq hx N0 (λh=>nomatch h);have n3:lr≠dn:=iq NG N0 (λh=>nomatch h);refine⟨_,rfl,_,rfl,x,C,dx,_,.ref dn,rfl,hx,c.cls,c.XY,rfl,dn,L,b,enc r,rfl,rfl,N0,hk,ra.rep,_,rfl,?_⟩;rw[nl.val r]
 by_cases m:r∈rs
 .rw[Mu m];refine aK ?_;have ek:Bk.keep rs r=(rs.idxOf r+2,rs):=by unfold Bk.keep;rw[Mu m]
  rw[ek] at z;refine⟨_,rfl,x,C,dx,_,.ref dn,rfl,hx,c.cls,c.XY,rfl,_,rfl,dn,L,b,enc r,_,rfl,rfl,N0,hk,ra.rep,(nl.val r).trans (Mu m),?_⟩;exact z H (λb o _ _ e=>e) S
 .rw[Mq m];refine aV ?_;have ek:Bk.keep rs r=(rs.length+2,rs++[r]):=by unfold Bk.keep;rw[Mq m]
  rw[ek] at z;refine⟨_,rfl,x,C,dx,_,.ref lr,rfl,hx,c.cls,c.rooms,rfl,lr,xs,rfl,.inl (.inl (.inl NG)),_,2,rfl,rfl,_,rfl,x,C,dx,_,.ref dn,rfl,hx,c.cls,c.XY,rfl,_,rfl,dn,L,b,enc r,_,rfl,rfl,rfl,N0,hk,ra.rep,(nl.val r).trans (Mq m),by rw[nl.1,Nf];lia,?_⟩;have sd:eW (fj dn L):=trivial;have aad:∀u,upd H dn u lr=some (.lst xs):=λu=>by rw[ao n3];exact NG
  have Vl:∀u,upd H dn u x=some (.ins C dx [("rooms",.ref lr),("numbers",.ref dn)]):=λu=>by rw[ao n2];exact hx
  have sl:eW (.lst xs):=trivial;refine⟨_,rfl,x,C,dx,_,.ref lr,rfl,Vl _,c.cls,c.rooms,rfl,.inl ⟨rfl,_,.inl (.inl (aad _))⟩,_,rfl,lr,xs,.ref b,rfl,rfl,aad _,by rw[Nf];lia,?_⟩;have eL:(xs.length:Int)+2=(rs.length:Int)+2:=by lia
  have Wx:my (L++[(enc r,b,(xs.length:Int)+2)]) (rs++[r]):=by rw[eL];exact nl.snoc r b
  have ra':∀{y:V}{r':Bk.Mg}{u v:HO},bu K H y r'->bu K (upd (upd H dn u) lr v) y r':=λh=>(h.soft N0 sd).soft (aad _) sl;have kk:∀{u v:HO},jm K (upd (upd H dn u) lr v) (L++[(enc r,b,(xs.length:Int)+2)]):=λ{u v} e he=>by
   rcases Ny.mp he with h|h
   .exact jr (aad _) sl (jr N0 sd (hk e h))
   .rw[N3.mp h];exact(ra' ra).rep
  have Wp:∀u v,upd (upd H dn u) lr v x=some (.ins C dx [("rooms",.ref lr),("numbers",.ref dn)]):=λu v=>by rw[ao n1];exact Vl u
  have Yh:∀u v,upd (upd H dn u) lr v dn=some u:=λu v=>by rw[ao (M' n3),ag]
  refine⟨_,rfl,x,C,dx,_,.ref dn,rfl,Wp _ _,c.cls,c.XY,rfl,_,rfl,dn,_,b,enc r,(xs.length:Int)+2,rfl,rfl,Yh _ _,kk,(ra' ra).rep,?_,?_⟩
  .have h1:=Wx.val r;rw[Mu (OA _ MO)] at h1;rw[h1,act,Mq m];simp;lia
  .have:=z _ (λb o h1 h2 e=>by rw[ao h1,ao h2];exact e) ⟨dx,_,_,Wp _ _,ag,cJ (aD (λ_ _ h=>ra' h) pr) (.cons (ra' ra) .nil),Yh _ _,kk,Wx⟩;rw[show((rs.length+2:Nat):Int)=(xs.length:Int)+2 by lia] at this;exact this
end
end Ord
namespace Bk
open Mx
def gC (t:Int)(o:List Int):Bool:=match o with
 | x::_=>decide (x=t)
 | []=>false
theorem km (h:t'≠t):∀os:am,rests t' (os.filter λo=>!gC t o)=rests t' os
 | []=>rfl
 | o::os=>by
  have ih:=km h os;unfold rests at ih ⊢;cases o with
  | nil=>rw[SZ rfl,QA,QA,ih]
  | cons x o=>
   by_cases c:x=t
   .rw[VD (by simp[gC,c]),ih,QA];have:eN t' (x::o)=none:=Mq (by rw[c];exact M' h);rw[this]
   .rw[SZ (by simp[gC,c]),QA,QA,ih]
theorem lP (t:Int):∀os:am,(rests t os).length+(os.filter λo=>!gC t o).length<=os.length
 | []=>MJ _
 | o::os=>by
  have ih:=lP t os;unfold rests at ih ⊢;cases o with
  | nil=>
   rw[SZ rfl,QA];have:eN t []=none:=rfl;rw[this];simp only[N'];lia
  | cons x o=>
   by_cases c:x=t
   .rw[VD (by simp[gC,c]),QA];have:eN t (x::o)=some o:=Mu c;rw[this];simp only[N'];lia
   .rw[SZ (by simp[gC,c]),QA];have:eN t (x::o)=none:=Mq c;rw[this];simp only[N'];lia
theorem iy:∀(ts:List Int) (os:am),ts.Nodup->(ts.map λt=>(rests t os).length).sum<=os.length
 | [],os,_=>NX _
 | t::ts,os,nd=>by
  rw[Py] at nd;have ih:=iy ts (os.filter λo=>!gC t o) nd.2;have e:(ts.map λt'=>(rests t' (os.filter λo=>!gC t o)).length)=ts.map λt'=>(rests t' os).length:=Xm λt' h'=>by
   have ne:t'≠t:=by rintro rfl;exact nd.1 h'
   rw[km ne]
  rw[e] at ih;have:=lP t os;rw[Nt,V3];lia
theorem jt:∀(ts:List Int) (rs:List Mg),(∀t∈ts,∀rs,(f (rests t os) rs).2.length<=rs.length+b t)->(aG f os ts rs).2.length<=rs.length+(ts.map b).sum
 | [],rs,_=>by show rs.length<=_;lia
 | t::ts,rs,hf=>by
  have h1:=jt ts (f (rests t os) rs).2 λt' h'=>hf t' (Na _ h');have h2:=hf t MO rs;show(aG f os ts (f (rests t os) rs).2).2.length<=_;rw[Nt,V3];lia
theorem lj (n:Nat)(g:Int->Nat):∀ts:List Int,(ts.map λt=>g t*n).sum=(ts.map g).sum*n
 | []=>by simp
 | t::ts=>by rw[Nt,Nt,V3,V3,lj n g ts,Nat.add_mul]
theorem iz:∀(n:Nat) (os:am) (rs:List Mg),os≠[]->(lay n os rs).2.length<=rs.length+os.length*n
 | 0,_,rs,_=>by show rs.length<=_;lia
 | n+1,os,rs,ne=>by
  have h1:=jt (f:=lay n) (os:=os) (b:=λt=>(rests t os).length*n) (heads os) rs λt ht rs=>by
   obtain⟨_,r,hr⟩:=bz.mp ht;exact iz n (rests t os) rs λe=>by
    have:=aY.mpr hr;rw[e] at this;cases this
  rw[lj n (λt=>(rests t os).length)] at h1;have nd:(heads os).Nodup:=(cz os).imp λh e=>Mw h (by rw[e];lia);have h2:=VG n (iy (heads os) os nd);have h3:=uc (aG (lay n) os (heads os) rs).2 (aG (lay n) os (heads os) rs).1;have h4:0<os.length:=ZD.mpr ne;show(keep _ _).2.length<=_;rw[aa9];lia
def Nu (p:Nat)(o:List Int):Int:=(o[p]?).getD 0
def ko (p:Nat)(g:List (Int×am))(o:List Int):List (Int×am):=
 if Nu p o∈g.map (·.1) then g.map (λe=>if e.1=Nu p o then (e.1,e.2++[o]) else e) else g++[(Nu p o,[o])]
structure UH (p:Nat)(os:am)(g:List (Int×am)):Prop where
 nd:(g.map (·.1)).Nodup
 each:∀e∈g,e.2=os.filter λo=>decide (Nu p o=e.1)
 all:∀o∈os,Nu p o∈g.map (·.1)
 one:∀e∈g,e.2≠[]
theorem UH.nil (p:Nat):UH p [] []:=⟨Ue,(λe h=>nomatch h),(λo h=>nomatch h),(λe h=>nomatch h)⟩
theorem UH.add (G:UH p os g)(o):UH p (os++[o]) (ko p g o):=by
 unfold ko
 by_cases c:Nu p o∈g.map (·.1)
 .rw[Mu c];have keys:(g.map (λe=>if e.1=Nu p o then (e.1,e.2++[o]) else e)).map (·.1)=g.map (·.1):=by
   rw[Z3];refine Xm λe _=>?_;show(if e.1=Nu p o then (e.1,e.2++[o]) else e).1=e.1
   split <;> rfl
  refine⟨by rw[keys];exact G.nd,λe he=>?_,λx hx=>?_,λe he=>?_⟩
  .obtain⟨e0,h0,rfl⟩:=Nm.mp he;rw[VO]
   by_cases k:e0.1=Nu p o
   .rw[Mu k,G.each e0 h0];simp[k]
   .rw[Mq k,G.each e0 h0];simp[M' k]
  .rw[keys];rcases Ny.mp hx with h|h
   .exact G.all x h
   .rw[N3.mp h];exact c
  .obtain⟨e0,h0,rfl⟩:=Nm.mp he
   by_cases k:e0.1=Nu p o
   .rw[Mu k];simp
   .rw[Mq k];exact G.one e0 h0
 .rw[Mq c];refine⟨?_,λe he=>?_,λx hx=>?_,λe he=>?_⟩
  .rw[Qn,Ub];exact⟨G.nd,by simp,λx hx y hy=>by
    have:y=Nu p o:=by simpa using hy
    rw[this];rintro rfl;exact c hx⟩
  .rw[VO];rcases Ny.mp he with h|h
   .have k:¬Nu p o=e.1:=λk=>c (by rw[k];exact Nm.mpr ⟨e,h,rfl⟩);rw[G.each e h];simp[k]
   .rw[N3.mp h];have:os.filter (λx=>decide (Nu p x=Nu p o))=[]:=List.filter_eq_nil_iff.mpr λx hx hk=>c (by
     have:=G.all x hx;rw[S9 hk] at this;exact this)
    rw[this];simp
  .rw[Qn];rcases Ny.mp hx with h|h
   .exact P6 _ (G.all x h)
   .rw[N3.mp h];exact OA _ (by simp)
  .rcases Ny.mp he with h|h
   .exact G.one e h
   .rw[N3.mp h];simp
def bR (p:Nat)(os:am):List (Int×am):=os.foldl (ko p) []
theorem eZ (p:Nat)(os:am)(o):bR p (os++[o])=ko p (bR p os) o:=by unfold bR;rw[Ua];rfl
theorem pq {α:Type}{P:List α->Prop}(h0:P [])(h1:∀l x,P l->P (l++[x]))(l:List α):P l:=by
 have:∀l:List α,P l.reverse:=λl=>by
  induction l with
  | nil=>exact h0
  | cons x l ih=>rw[List.reverse_cons];exact h1 _ _ ih
 have:=this l.reverse;rw[List.reverse_reverse] at this;exact this
theorem fK (p:Nat)(os:am):UH p os (bR p os):=
 pq (P:=λos=>UH p os (bR p os)) (UH.nil p) (λl x ih=>by rw[eZ];exact ih.add x) os
theorem uY (p:Nat)(os:am):(os.map (Nu p)).Pairwise (·<=·)->((bR p os).map (·.1)).Pairwise (· < ·):=by
 refine pq (P:=λos=>(os.map (Nu p)).Pairwise (·<=·)->((bR p os).map (·.1)).Pairwise (· < ·)) (λ_=>T') (λl x ih h=>?_) os;rw[Qn,VH] at h;obtain⟨h1,_,h3⟩:=h;rw[eZ];unfold ko
 by_cases c:Nu p x∈(bR p l).map (·.1)
 .rw[Mu c,Z3];have keys:((λe:Int×am=>e.1)∘λe:Int×am=>if e.1=Nu p x then (e.1,e.2++[x]) else e)=λe=>e.1:=by
   funext e
   show(if e.1=Nu p x then (e.1,e.2++[x]) else e).1=e.1
   split <;> rfl
  rw[keys];exact ih h1
 .rw[Mq c,Qn,VH];refine⟨ih h1,by simp,λa ha b hb=>?_⟩;have eb:b=Nu p x:=by simpa using hb
  subst eb;obtain⟨e,he,rfl⟩:=Nm.mp ha;have G:=fK p l;obtain⟨o,ho⟩:=SX _ (G.one e he);rw[G.each e he] at ho;obtain⟨Ty,Tv⟩:=O9.mp ho;have le:=h3 (Nu p o) (Nm.mpr ⟨o,Ty,rfl⟩) (Nu p x) (by simp);rw[S9 Tv] at le;have:e.1≠Nu p x:=λz=>c (z▸ha);lia
end Bk
namespace Ord
open PySem L2 Mx
section
def eX (K:Mi)(H0:Hp)(dP:D')(H:Hp)(kv:Key×V)(e:Int×Bk.am):Prop:=∃a vs,kv=(Oy e.1,.ref a)/\H0 a=none/\a≠dP/\H a=some (.lst vs)/\MC (au.rep K H) vs e.2
structure U3 (K:Mi)(H0:Hp)(dP:D')(H:Hp)(kvs:List (Key×V))(g:List (Int×Bk.am)):Prop where
 at_:H dP=some (.dK kvs)
 SN:MC (eX K H0 dP H) kvs g
 nd:(kvs.map (·.2)).Nodup
theorem eX.soft (hd:H d=some o)(so:eW o)(ne:kv.2≠.ref d)(h:eX K H0 dP H kv e):eX K H0 dP (upd H d u) kv e:=by
 obtain⟨a,vs,rfl,h1,h2,h3,h4⟩:=h;exact⟨a,vs,rfl,h1,h2,by rw[ao (λz=>ne (by rw[z]))];exact h3,aD (λ_ _ z=>ez hd so z) h4⟩
theorem eX.same (s:ar H H')(h:eX K H0 dP H kv e):eX K H0 dP H' kv e:=by
 obtain⟨a,vs,rfl,h1,h2,h3,h4⟩:=h;exact⟨a,vs,rfl,h1,h2,s _ _ h3,aD (λ_ _ z=>au.mono s z) h4⟩
theorem pA:∀{kvs:List (Key×V)}{g:List (Int×Bk.am)},MC (eX K H0 dP H) kvs g->(ce kvs (.inl k)=none/\k∉g.map (·.1))\/∃a vs,ce kvs (.inl k)=some (.ref a)/\k∈g.map (·.1)/\V.ref a∈kvs.map (·.2)/\H0 a=none/\a≠dP/\H a=some (.lst vs)/\∃e∈g,vs.length=e.2.length
 | _,_,.nil=>.inl ⟨rfl,(λh=>nomatch h)⟩
 | kv::kvs,e::g,.cons h t=>by
  obtain⟨a,vs,rfl,h1,h2,h3,h4⟩:=h
  by_cases c:e.1=k
  .subst c;exact .inr ⟨a,vs,dH rfl,Nm.mpr ⟨e,MO,rfl⟩,MO,h1,h2,h3,e,MO,h4.length⟩
  .rw[dI (λz=>c (XQ z))];rcases pA (k:=k) t with⟨b1,b2⟩|⟨a',Wt,b1,b2,b3,b4,b5,b6,e',b7,b8⟩
   .exact .inl ⟨b1,λz=>by rcases M0.mp z with z|z;exact c z.symm;exact b2 z⟩
   .exact .inr ⟨a',Wt,b1,Na _ b2,Na _ b3,b4,b5,b6,e',Na _ b7,b8⟩
theorem ue (hy:au.rep K H y o)(ha:H a=some (.lst vs)):∀{kvs:List (Key×V)}{g:List (Int×Bk.am)},MC (eX K H0 dP H) kvs g->(kvs.map (·.2)).Nodup->(g.map (·.1)).Nodup->ce kvs (.inl k)=some (.ref a)->
  MC (eX K H0 dP (upd H a (.lst (vs++[y])))) kvs (g.map λe=>if e.1=k then (e.1,e.2++[o]) else e)
 | _,_,.nil,_,_,h=>nomatch h
 | kv::kvs,e::g,.cons h t,nd,nk,hv=>by
  rw[Nt,Py] at nd nk;have hg:=h;obtain⟨a',Wt,rfl,h1,h2,h3,h4⟩:=h;rw[Nt]
  by_cases c:e.1=k
  .subst c;rw[dH rfl] at hv;cases hv;rw[ha] at h3;cases h3;rw[Mu rfl];have rest:∀{kvs:List (Key×V)}{g:List (Int×Bk.am)},MC (eX K H0 dP H) kvs g->V.ref a∉kvs.map (·.2)->e.1∉g.map (·.1)->MC (eX K H0 dP (upd H a (.lst (vs++[y])))) kvs (g.map λe'=>if e'.1=e.1 then (e'.1,e'.2++[o]) else e'):=by
    intro kvs g t
    induction t with
    | nil=>intro _ _;exact .nil
    | @cons kv0 e0 kvs g h _ ih=>
     intro n1 n2;rw[Nt,M0,not_or] at n1 n2;rw[Nt,Mq (M' n2.1)];exact .cons (h.soft ha trivial (M' n1.1)) (ih n1.2 n2.2)
   refine .cons ⟨a,vs++[y],rfl,h1,h2,ag,cJ (aD (λ_ _ z=>ez ha trivial z) h4) (.cons (ez ha trivial hy) .nil)⟩ (rest t nd.1 nk.1)
  .rw[Mq c];rw[dI (λz=>c (XQ z))] at hv;have na:V.ref a'≠V.ref a:=λz=>by
    have:∀{kvs:List (Key×V)},ce kvs (.inl k)=some (.ref a)->V.ref a∈kvs.map (·.2):=by
     intro kvs
     induction kvs with
     | nil=>intro h;cases h
     | cons kv kvs ih=>
      intro h
      by_cases c:kv.1=.inl k
      .rw[dH c] at h;exact M0.mpr (.inl (Rv h).symm)
      .rw[dI c] at h;exact Na _ (ih h)
    exact nd.1 (z▸this hv)
   exact .cons (hg.soft ha trivial na) (ue hy ha t nd.2 nk.2 hv)
theorem nQ (p:Nat)(os):(Bk.bR p os).length<=os.length:=
 Bk.pq (P:=λos=>(Bk.bR p os).length<=os.length) (MJ _) (λl x ih=>by
  rw[Bk.eZ,NQ];unfold Bk.ko
  split
  .rw[Ng];simp;lia
  .rw[NQ];simp;lia) os
theorem U3.more {os:Bk.am}(h:U3 K H0 dP H kvs (Bk.bR p os))(Oz:H e0=none)(hy:au.rep K H y o)(hv:ce kvs (.inl (Bk.Nu p o))=some (.ref a))(hk:Bk.Nu p o∈(Bk.bR p os).map (·.1))(ha:H a=some (.lst vs))(nd:a≠dP):U3 K H0 dP (upd (upd H e0 (.lst [])) a (.lst (vs++[y]))) kvs (Bk.bR p (os++[o])):=by
 have s1:ar H (upd H e0 (.lst [])):=ai Oz _;rw[Bk.eZ];unfold Bk.ko;rw[Mu hk];refine⟨?_,ue (au.mono s1 hy) (s1 _ _ ha) (aD (λ_ _ z=>z.same s1) h.SN) h.nd (Bk.fK p os).nd hv,h.nd⟩;rw[ao (M' nd)];exact s1 _ _ h.at_
theorem U3.fresh {os:Bk.am}(h:U3 K H0 dP H kvs (Bk.bR p os))(Oz:H e0=none)(h0:H0 e0=none)(hy:au.rep K H y o)(hv:ce kvs (.inl (Bk.Nu p o))=none)(hk:Bk.Nu p o∉(Bk.bR p os).map (·.1)):
  U3 K H0 dP (upd (upd (upd H e0 (.lst [])) dP (.dK (bP kvs (.inl (Bk.Nu p o)) (.ref e0)))) e0 (.lst ([]++[y]))) (kvs++[(.inl (Bk.Nu p o),.ref e0)]) (Bk.bR p (os++[o])):=by
 have s1:ar H (upd H e0 (.lst [])):=ai Oz _;have YO:dP≠e0:=aq h.at_ Oz;have ep:bP kvs (.inl (Bk.Nu p o)) (.ref e0)=kvs++[(.inl (Bk.Nu p o),.ref e0)]:=by
  unfold bP;rw[jj,hv,Mq (by decide)]
 have TB:(upd H e0 (.lst [])) dP=some (.dK kvs):=s1 _ _ h.at_;have Vp:∀u,(upd (upd H e0 (.lst [])) dP u) e0=some (.lst []):=λu=>by rw[ao (M' YO),ag]
 have far:∀{kvs:List (Key×V)}{g:List (Int×Bk.am)},MC (eX K H0 dP H) kvs g->∀kv∈kvs,kv.2≠.ref dP/\kv.2≠.ref e0:=by
  intro kvs g t kv UI;obtain⟨e,_,a,vs,rfl,_,h2,h3,_⟩:=eT t kv UI;exact⟨λz=>h2 (V.ref.inj z),λz=>by
   have:a=e0:=V.ref.inj z;rw[this,Oz] at h3;cases h3⟩
 have old:∀{kvs:List (Key×V)}{g:List (Int×Bk.am)}{u v:HO},MC (eX K H0 dP H) kvs g->(∀kv∈kvs,kv.2≠.ref dP/\kv.2≠.ref e0)->MC (eX K H0 dP (upd (upd (upd H e0 (.lst [])) dP u) e0 v)) kvs g:=by
  intro kvs g u v t
  induction t with
  | nil=>intro _;exact .nil
  | cons h _ ih=>
   intro f;obtain⟨f1,f2⟩:=f _ MO;exact .cons (((h.same s1).soft TB trivial f1).soft (Vp u) trivial f2) (ih λkv UI=>f kv (Na _ UI))
 rw[Bk.eZ];unfold Bk.ko;rw[Mq hk];refine⟨by rw[ao YO,ag,ep],cJ (old h.SN (far h.SN)) (.cons ⟨e0,[]++[y],rfl,h0,M' YO,ag,.cons (ez (Vp _) trivial (ez TB trivial (au.mono s1 hy))) .nil⟩ .nil),?_⟩;rw[Qn,Ub];refine⟨h.nd,by simp,λx hx y' YA=>?_⟩;obtain⟨kv,UI,rfl⟩:=Nm.mp hx;have:y'=V.ref e0:=by simpa using YA
 rw[this];exact(far h.SN kv UI).2
end
end Ord
namespace Bk
open Mx
theorem iA:∀(ts:List Int) (rs:List Mg),aG f os (ts++[t]) rs=((aG f os ts rs).1++[(t,((f (rests t os) (aG f os ts rs).2).1:Int))],(f (rests t os) (aG f os ts rs).2).2)
 | [],rs=>rfl
 | t'::ts,rs=>by
  show((t',_)::(aG f os (ts++[t]) _).1,(aG f os (ts++[t]) _).2)=_;rw[iA ts];rfl
theorem gf (h:p<o.length):o.drop p=Nu p o::o.drop (p+1):=by
 rw[adZ h];unfold Nu;rw[Om h];rfl
theorem lQ:∀{os:am},(∀o∈os,p<o.length)->(os.filter λo=>decide (Nu p o=t)).map (PD (p+1))=rests t (os.map (PD p))
 | [],_=>rfl
 | o::os,h=>by
  have ih:=lQ (t:=t) (os:=os) λo' h'=>h o' (Na _ h');have ho:=h o MO;unfold rests at ih ⊢;rw[Nt,QA,gf ho]
  by_cases c:Nu p o=t
  .rw[SZ (by simpa using c),Nt,ih];have:eN t (Nu p o::o.drop (p+1))=some (o.drop (p+1)):=Mu c;rw[this]
  .rw[VD (by simpa using c),ih];have:eN t (Nu p o::o.drop (p+1))=none:=Mq c;rw[this]
theorem pB:∀{a b:List Int},a.Pairwise (· < ·)->b.Pairwise (· < ·)->(∀x,x∈a↔x∈b)->a=b
 | [],[],_,_,_=>rfl
 | [],y::b,_,_,h=>Mw ((h y).mpr MO) (λz=>nomatch z)
 | x::a,[],_,_,h=>Mw ((h x).mp MO) (λz=>nomatch z)
 | x::a,y::b,ha,hb,h=>by
  rw[Xr] at ha hb;have e:x=y:=by
   have h1:=(h x).mp MO;have h2:=(h y).mpr MO;rcases M0.mp h1 with h1|h1
   .exact h1
   rcases M0.mp h2 with h2|h2
   .exact h2.symm
   have:=hb.1 x h1;have:=ha.1 y h2;lia
  subst e;rw[pB ha.2 hb.2 λz=>⟨λhz=>by
   rcases M0.mp ((h z).mp (Na _ hz)) with e|e
   .have:=ha.1 z hz;lia
   .exact e,λhz=>by
   rcases M0.mp ((h z).mpr (Na _ hz)) with e|e
   .have:=hb.1 z hz;lia
   .exact e⟩]
structure Ul (p n:Nat)(os:am):Prop where
 ne:os≠[]
 len:∀o∈os,o.length=p+n
 things:∀o∈os,∀x∈o,0<=x/\x<8
 rise:os.Pairwise λa b=>¬lt (b.drop p) (a.drop p)
section
theorem Ul.ae6 (ok:Ul p (n+1) os):(os.map (Nu p)).Pairwise (·<=·):=by
 rw[Sn];refine ok.rise.imp_of_mem λ{a b} ha hb h=>?_;have la:=ok.len a ha;have lb:=ok.len b hb;rw[gf (show p<a.length by lia),gf (show p<b.length by lia)] at h;refine Int.not_lt.mp λz=>h ?_;exact .inl z
theorem Ul.keys (ok:Ul p (n+1) os):(bR p os).map (·.1)=heads (os.map (PD p)):=by
 refine pB (uY p os ok.ae6) (cz _) λt=>?_;have G:=fK p os;rw[bz];constructor
 .intro h;obtain⟨e,he,rfl⟩:=Nm.mp h;obtain⟨o,ho⟩:=SX _ (G.one e he);rw[G.each e he] at ho;obtain⟨h1,h2⟩:=O9.mp ho;have lo:=ok.len o h1;have e1:=gf (show p<o.length by lia);have e2:Nu p o=e.1:=S9 h2;rw[e2] at e1;have mem:e.1∈o:=List.mem_of_mem_drop (i:=p) (by rw[e1];exact MO);exact⟨ok.things o h1 _ mem,o.drop (p+1),Nm.mpr ⟨o,h1,e1⟩⟩
 .rintro⟨_,r,hr⟩;obtain⟨o,ho,e⟩:=Nm.mp hr;have lo:=ok.len o ho;rw[gf (show p<o.length by lia)] at e;have e2:Nu p o=t:=(aeK e).1;rw[<-e2];exact G.all o ho
theorem Ul.group (ok:Ul p (n+1) os)(he:e∈bR p os):Ul (p+1) n e.2/\e.2.map (PD (p+1))=rests e.1 (os.map (PD p))/\e.2.length<=os.length:=by
 have G:=fK p os;have ee:=G.each e he;have sub:∀o∈e.2,o∈os/\Nu p o=e.1:=λo ho=>by
  rw[ee] at ho;obtain⟨h1,h2⟩:=O9.mp ho;exact⟨h1,S9 h2⟩
 refine⟨⟨G.one e he,λo ho=>by have:=ok.len o (sub o ho).1;lia,λo ho=>ok.things o (sub o ho).1,?_⟩,?_,?_⟩
 .have r1:e.2.Pairwise λa b=>¬lt (b.drop p) (a.drop p):=by rw[ee];exact ok.rise.sublist (VL)
  refine r1.imp_of_mem λ{a b} ha hb h=>?_;have la:=ok.len a (sub a ha).1;have lb:=ok.len b (sub b hb).1;rw[gf (show p<a.length by lia),gf (show p<b.length by lia),(sub a ha).2,(sub b hb).2] at h;exact λz=>h (.inr ⟨rfl,z⟩)
 .rw[ee];exact lQ λo ho=>by have:=ok.len o ho;lia
 .rw[ee];exact ZC _ _
end
theorem lR (b:Int->Nat):∀(ts:List Int) (i:Nat),((ts.take i).map b).sum<=(ts.map b).sum
 | [],i=>by simp
 | t::ts,0=>NX _
 | t::ts,i+1=>by
  have:=lR b ts i;rw[aes,Nt,Nt,V3,V3];lia
theorem nS (h:(heads os)[i]?=some t):
  (aG (lay n) os ((heads os).take i) rs).2.length+(rests t os).length*n<=rs.length+os.length*n/\(aG (lay n) os ((heads os).take i) rs).2.length<=rs.length+os.length*n:=by
 have nd:(heads os).Nodup:=(cz os).imp λh e=>Mw h (by rw[e];lia);have h1:=jt (f:=lay n) (os:=os) (b:=λt=>(rests t os).length*n) ((heads os).take i) rs λt ht rs=>by
  obtain⟨_,r,hr⟩:=bz.mp (aaD ht);exact iz n (rests t os) rs λe=>by
   have:=aY.mpr hr;rw[e] at this;cases this
 have h2:=lR (λt=>(rests t os).length*n) (heads os) (i+1);rw[So,h,VN,Qn,List.sum_append] at h2;simp only[Nt,Z1,V3,List.sum_nil] at h2;have h3:((heads os).map λt=>(rests t os).length*n).sum<=os.length*n:=by
  rw[lj n (λt=>(rests t os).length)];exact VG n (iy (heads os) os nd)
 lia
theorem lS:(aG (lay n) os (heads os) rs).2.length<=rs.length+os.length*n:=by
 have nd:(heads os).Nodup:=(cz os).imp λh e=>Mw h (by rw[e];lia);have h1:=jt (f:=lay n) (os:=os) (b:=λt=>(rests t os).length*n) (heads os) rs λt ht rs=>by
  obtain⟨_,r,hr⟩:=bz.mp ht;exact iz n (rests t os) rs λe=>by
   have:=aY.mpr hr;rw[e] at this;cases this
 have h3:((heads os).map λt=>(rests t os).length*n).sum<=os.length*n:=by
  rw[lj n (λt=>(rests t os).length)];exact VG n (iy (heads os) os nd)
 lia
end Bk
namespace L2
open PySem
theorem Ex:∀{i:Nat}{kv:Key×V},(kvs.map (·.1)).Nodup->kvs[i]?=some kv->ce kvs kv.1=some kv.2:=by
 induction kvs with
 | nil=>intro i kv _ h;simp at h
 | cons k0 kvs ih=>
  intro i kv nd h;rw[Nt,Py] at nd;cases i with
  | zero=>simp at h;subst h;exact dH rfl
  | succ i=>
   have h':kvs[i]?=some kv:=by simpa using h
   rw[dI (λz=>nd.1 (by rw[z];exact Nm.mpr ⟨kv,N1 h',rfl⟩))];exact ih nd.2 h'
end L2
namespace Ord
open PySem L2 Mx
section
def dh (lr dn:D')(H H':Hp):Prop:=∀b o,b≠lr->b≠dn->H b=some o->H' b=some o
theorem dh.refl:dh lr dn H H:=λ_ _ _ _ e=>e
theorem dh.trans (s:dh lr dn H H')(s':dh lr dn H' Qg):dh lr dn H Qg:=λb o h1 h2 e=>s' b o h1 h2 (s b o h1 h2 e)
theorem dh.of (s:ar H H'):dh lr dn H H':=λb o _ _ e=>s b o e
theorem dh.Oq (s:dh lr dn H H')(NG:H lr=some (.lst rx))(N0:H dn=some (fj dn L))(h:MR K H a xs):MR K H' a xs:=by
 rcases h with(h|⟨o,h⟩)|h
 .exact .inl (.inl (s _ _ (by rintro rfl;rw[NG] at h;cases h) (by rintro rfl;rw[N0] at h;cases h) h))
 .exact .inl (.inr ⟨o,s _ _ (by rintro rfl;rw[NG] at h;cases h) (by rintro rfl;rw[N0] at h;cases h) h⟩)
 .exact .inr h
theorem cK.ae7 (s:dh lr dn H H')(NG:H lr=some (.lst rx))(N0:H dn=some (fj dn L))(h:cK K H y d):cK K H' y d:=by
 obtain⟨p,e,q⟩:=h;exact⟨p,e,s.Oq NG N0 q⟩
theorem w4 (s:dh lr dn H H')(NG:H lr=some (.lst rx))(N0:H dn=some (fj dn L))(h:au.rep K H y o):au.rep K H' y o:=by
 obtain⟨p,rfl,q⟩:=cj h;exact cg (s.Oq NG N0 q)
theorem Px.same (s:ar H H')(h:Px K C H x lr dn rs):Px K C H' x lr dn rs:=by
 obtain⟨dx,xs,L,h1,h2,h3,h4,h5,h6⟩:=h.ex;exact⟨dx,xs,L,s _ _ h1,s _ _ h2,aD (λ_ _ z=>z.same s) h3,s _ _ h4,λe he=>bM.mono s (h5 e he),h6⟩
theorem Px.upd (hd:H d=some o)(so:eW o)(n1:x≠d)(n2:lr≠d)(n3:dn≠d)(h:Px K C H x lr dn rs):Px K C (L2.upd H d u) x lr dn rs:=by
 obtain⟨dx,xs,L,h1,h2,h3,h4,h5,h6⟩:=h.ex;exact⟨dx,xs,L,by rw[ao n1];exact h1,by rw[ao n2];exact h2,aD (λ_ _ z=>z.soft hd so) h3,by rw[ao n3];exact h4,λe he=>jr hd so (h5 e he),h6⟩
end
end Ord
namespace L2
open PySem PySem.Spec PyProof.Rows
def fO (base h:Mp)(as:List D'):Mp:=Rx h ((Ox h.objs.size).filter λb=>(base.get? b).isNone&&!as.contains b)
theorem mz (e:(fO base h as).get? b=some o):h.get? b=some o/\((base.get? b).isSome=true\/b∈as):=by
 have e1:=V4 _ e;refine⟨e1,Rt λhn=>?_⟩;have:(fO base h as).get? b=none:=XG _ (O9.mpr ⟨P8.mpr (MS e1),by
  cases q:base.get? b with
  | some o'=>exact Mw (.inl (by rw[q];rfl)) hn
  | none=>
   have:b∉as:=λz=>hn (.inr z);simp[this]⟩)
 rw[this] at e;cases e
theorem kq (e:h.get? b=some o)(hb:(base.get? b).isSome=true\/b∈as):(fO base h as).get? b=some o:=Tc _ e λm=>by
 have:=(O9.mp m).2;rcases hb with q|q
 .cases z:base.get? b with
  | none=>rw[z] at q;cases q
  | some o'=>rw[z] at this;cases this
 .simp[q] at this
theorem Mod.more {K:Mi}(M:Mod K mg base)(k:∀b o,base.get? b=some o->h.get? b=some o):Mod K mg (fO base h as):=by
 have k':∀b o,base.get? b=some o->(fO base h as).get? b=some o:=λb o e=>kq (k b o e) (.inl (by rw[e];rfl));obtain⟨mb,b1,b2⟩:=M.blt;exact⟨M.Us.keeps k',M.glob.keeps k',⟨mb,b1.keeps k',b2⟩,M.nolimit.keeps k'⟩
theorem lT {base h:Mp}:∀{l:List NK},h.FunFrames base l->(∀b∈Nq l,b∉as)->h.FunFrames (fO base h as) l
 | [],_,_=>trivial
 | env::r,⟨hk,⟨L,o,hf,hn,ho,hd⟩,hr⟩,hin=>⟨hk,⟨L,o,hf,by
   cases q:(fO base h as).get? L with
   | none=>rfl
   | some o'=>
    rcases(mz q).2 with z|z
    .rw[hn] at z;cases z
    .exact Mw z (hin L (by unfold Nq;rw[QA,hf];exact MO)),ho,hd⟩,lT hr λb hb=>hin b (by
   unfold Nq at hb ⊢;rw[QA]
   split
   .exact hb
   .exact Na _ hb)⟩
theorem SB.more {K:Mi}(e:SB P w K mg base A outer s H)(hn:∀b∈as,H b=none)(hf:∀b∈Nq outer,b∉as):
  SB P w K mg (fO base s.heap as) A outer s H:=
 ⟨e.frames,e.mod.more λb o q=>(e.bs b o q).1,λb o q=>⟨(mz q).1,(mz q).2.elim (λz=>by
  obtain⟨o',z⟩:=TZ.mp z;exact(e.bs b o' z).2) (hn b)⟩,V5 (W.hideAll_size _ _),lT e.Qd hf,e.Sb,e.My,e.bare⟩
structure YQ (base:Mp)(f:D')(fd:MY)(x:Me)(ys:List Me)(Oc:List V)(qual:Me)(params:Wb)(body:MK)(scope:OE)(cl:List (Me×D'))(c:D'):Prop where
 fn:∃pm Qw,base.get? f=some (Z7 "<lambda>" qual params body scope cl pm c Qw)/\fd=W.kla_fn "<lambda>" qual params body scope cl pm (.ref c) Qw
 kind:scope.kind=.function
 co:scope.isCoroutine=false
 gen:scope.isGenerator=false
 ν:∀y∈scope.names,y.2≠.cell
 par:scope.names.lookup x=some .local
 inj:∀y z a,cl.lookup y=some a->cl.lookup z=some a->y=z
 has:∀y,scope.names.lookup y=some .free->∃a,cl.lookup y=some a
 cell:∀y a,cl.lookup y=some a->∃v,base.IsCell a v
 vals:MC (λy v=>scope.names.lookup y=some .free/\∃a u,cl.lookup y=some a/\base.IsCell a (some u)/\ax v u) ys Oc
def YR (CX:Pd)(P:MD)(w:Mt)(K:Mi)(mg:Me->Option G')(base:Mp)(N:List Me)(env:NK)(A:ML)(outer:List NK)(s:Md)(H:Hp)(E:XK):Cx where
 prog:=P
 w:=w
 K:=K
 mg:=mg
 base:=base
 A:=A.deeper env
 N:=N
 Nv:=s
 U4:=H
 env:=env
 outer:=outer
 stack:=env::outer
 ex:=[]
 calm:=true
 fn:=λ_=>false
 pn:=[]
 xe:=λe s'=>Ml (Mr P w) (A.deeper env) (leaving env e) (λ_ Os=>CX outer H s E e Os) (λe' Os=>CX outer H s E e' Os) s'
theorem uf {h h':Mp}(k:∀b o,h.get? b=some o->h'.get? b=some o)(p:h.IsCell a v):h'.IsCell a v:=let ⟨o,e,d⟩:=p;⟨o,k _ _ e,d⟩
theorem Ey {K:Mi}(L:YQ base f fd x ys Oc qual params body scope cl c)(hxy:x∉ys)(len:∀vs H Q E,sp vs H Q E->vs.length=1)(code:∀vs H Q E,sp vs H Q E->H c=some (.NO oc (.own 0)))(Um:∃vs t,oc.data=.fields vs/\vs[1]?=some (.str qual t))(Tn:∀(A:ML) (outer:List NK) (s:Md) (H:Hp) (v:V) (Q:VK) (E:XK),Mg k (A.deeper (W.envX qual scope s.heap.objs.size f (.ref c) cl))->sp [v] H Q E->
   ∃t,PE (YR CX P w K mg base (x::ys) (W.envX qual scope s.heap.objs.size f (.ref c) cl) A outer s H E) body t/\t (some v::Oc.map some) H Q):
  MU P w K mg base CX (k+1) f fd [x] sp:=by
 refine⟨len,λA outer s H args us vs Q E hr e0 hb r Nj=>?_⟩;obtain⟨v,rfl⟩:∃v,vs=[v]:=by
  have:=len _ _ _ _ Nj
  match vs,this with
  | [v],_=>exact⟨v,rfl⟩
 obtain⟨u,rfl,ru⟩:=dw r;obtain⟨pm,Qw,hf,rfl⟩:=L.fn;have lim:s.heap.NoLimit:=e0.mod.nolimit.keeps λb o e=>(e0.bs b o e).1;have O6:s.heap.CodeRec (.ref c) qual:=by
  obtain⟨ws,t,d1,d2⟩:=Um;have q:=e0.My c _ (code _ _ _ _ Nj);exact⟨c,oc,ws,t,rfl,q.1,d1,d2⟩
 refine W.kla_callFunE hr.depth (e0.bs _ _ hf).1 rfl L.co L.gen rfl O6 (hb _ _ _ _ ?_);refine aaz L.ν (λy hy=>?_) (λOP P1 Pw=>?_) L.kind
 .obtain rfl:y=(x,u):=by simpa using hy
  exact L.par
 have ο:∀b o,s.heap.get? b=some o->OP.get? b=some o:=λb o e=>Pw.extBut b o (M8 (MS e)) (MZ _ e);refine⟨lim.keeps ο,?_⟩;show codeAny _ _ (.expr body (W.envX qual scope s.heap.objs.size f (.ref c) cl)) _ _;obtain⟨t,ht,hq⟩:=Tn A outer s H v Q E (hr.deeper _) Nj;refine W.kla_codeExpr ?_;have adc:∀y a,cl.lookup y=some a->∀v,base.IsCell a v->OP.IsCell a v:=λy a _ v p=>uf (λb o e=>ο b o (e0.bs b o e).1) p;have Vg:∀b:D',b∉(YR CX P w K mg base (x::ys) (W.envX qual scope s.heap.objs.size f (.ref c) cl) A outer s H E).ex:=λb z=>Mw (show b∈([]:List D') from z) (by simp);have I:Inv (YR CX P w K mg base (x::ys) (W.envX qual scope s.heap.objs.size f (.ref c) cl) A outer s H E) [] (some v::Oc.map some) H { s with heap:=OP,toks:=s.toks+([x].zip [u]).length }:=by
  refine⟨⟨e0.mod,L.kind,rfl,rfl,MJ _,L.inj,λy hy=>?_,λy a z _=>(by cases z),λ_=>hr.hd,ael e0.frames,.inr ⟨rfl,rfl⟩,λb z=>Mw z (Vg b),e0.bs,e0.R',λb _ _=>Vg b,λb z=>Mw z (Vg b),e0.Qd,e0.Sb⟩,
   rfl,e0.bare,Un.kept ο,⟨_,P1,λi y v' h1 h2 h3=>?_⟩,λy a e=>?_,e0.My.fresh (MJ _),λy a e=>?_,λp hp=>Mw (show p∈([]:List (D'×Mc)) from hp) (by simp),e0.My.kept ο,?_⟩
  .have hy:scope.names.lookup y=some .cell\/scope.names.lookup y=some .free:=hy;rcases hy with hy|hy
   .exact Mw rfl (L.ν _ (Ru hy))
   .exact L.has y hy
  .cases i with
   | zero=>
    simp only[abZ,Option.some.injEq] at h2;have h1:x=y:=by simpa [YR] using h1
    subst h1 h2;exact⟨u,ru,.inl ⟨L.par,by simp⟩⟩
   | succ i=>
    have h1:ys[i]?=some y:=by simpa [YR] using h1
    have h2:(Oc.map some)[i]?=some (some v'):=by simpa using h2
    rw[O0] at h2;obtain⟨w',e1,e2⟩:=VE.mp h2;cases e2;obtain⟨b,e3,k,a,u',l1,l2,l3⟩:=cp L.vals h1;rw[e1] at e3;cases e3;exact⟨u',l3,.inr ⟨.inr k,a,l1,adc y a l1 _ l2⟩⟩
  .obtain⟨z,p⟩:=L.cell y a e;exact⟨z,adc y a e _ p⟩
  .obtain⟨z,o,p,_⟩:=L.cell y a e;exact(e0.bs a o p).2
  .have:=L.vals.length;show(some v::Oc.map some).length=(x::ys).length;simp[this]
 exact QZ (ht [] _ _ H _ I hq) (λu' s' ⟨v',H',J,rv,q⟩=>⟨v',H',J.os,J.bare,J.base,J.My,rv,q⟩) λe s' hs=>hs
theorem Ba {k i:Nat}(F:MU X.prog X.w X.K X.mg X.base CX k f fd ps sp)(hr:Mg k X.A)(ho:X.base.get? f=some o)(UJ:o.data=.func fd)(hN:X.N[i]?=some x)(hv:Yn X.env.scope x)(hb:∀us:List G',us.length=ps.length->bindArgs fd ⟨us,[]⟩=pure (ps.zip us))(hx:cM CX X E)(ha:PA X (e::es) t)(QL:(x==("__debug__":Me))=false:=by decide)(O6:(x==("__classdict__":Me))=false:=by decide)(he:NM (e::es) X.env=(false,eval e X.env)::NM es X.env:=by rfl)(P0:(backTo pos (NM es X.env)).any (·.1)=false:=by rfl):
  PE X (.Call (.Name x p) (e::es) [] pos) (λσ H Q=>σ[i]?=some (some (.ref f))/\t σ H λvs H1=>sp vs H1 Q (E σ)):=by
 intro aa s σ H Q I ⟨h0,h⟩;refine Xp (ME (xO hN hv QL O6 aa s σ H (λv H'=>v=.ref f/\t σ H' λvs H1=>sp vs H1 Q (E σ)) I ⟨_,h0,rfl,h⟩) λu s1 ⟨v,H1,I1,rv,ev,q1⟩=>?_);subst ev;cases rv;show Ml _ _ (callWith pos (.ref f) [] (backTo pos (NM (e::es) X.env)) []) _ _ _;rw[he];refine W.callWith_of (P:=λh=>h.get? f=some o) (by show((false||(backTo pos (NM es X.env)).any (·.1))||false)=false;rw[P0];rfl) (λh hq=>⟨.frame,.inl rfl,?_⟩) (adU ?_)
 .obtain⟨oc,od,dd,sl⟩:=o;dsimp only at UJ;subst UJ;exact(ac2 (part:=none) hq).andThen .now
 .have ha':=ha pos aa s1 σ H1 _ I1 q1;rw[he] at ha';refine ME ha' λus s2 ⟨vs,H2,I2,r,q2⟩=>⟨I2.bk f o ho,?_⟩
  have q2':sp (vs++[]) H2 Q (E σ):=by rw[QD];exact q2
  exact vp (OJ:=[]) (ds:=[]) F hr (bK.all hb) .nil hx I2 r q2'
structure VKd (prog)(w)(κ:Type)[DecidableEq κ]where
 is:Mp->κ->G'->Prop
 hash:κ->Int
 draws:κ->Nat
 room:ML->Prop
 one:∀{h:Mp}{v:G'}{k k':κ},is h k v->is h k' v->k=k'
 aae:∀{h:Mp}{v:G'}{k:κ},is h k v->(∃i t,v=.int i t)\/∃a,v=.ref a
 keeps:∀{h h':Mp}{k:κ}{v:G'}{d:D'}{o:Mc}{es ep},is h k v->h.get? d=some o->o.data=.dict es ep->QY d h h'->is h' k v
 hashes:∀{A:ML}{E:G'->Md->Prop}{s:Md}{k:κ}{v:G'}{Q:Int->Md->Prop},room A->is s.heap k v->Q (hash k) { s with toks:=s.toks+draws k }->Ml (Mr prog w) A (pyHash v) Q E s
 Wy:∀{A:ML}{E:G'->Md->Prop}{s:Md}{k k':κ}{u v:G'}{Q:Bool->Md->Prop},room A->is s.heap k u->is s.heap k' v->Q (decide (k=k')) s->Ml (Mr prog w) A (eqBool u v) Q E s
 quiet:∀{A:ML}{E:G'->Md->Prop}{s:Md}{k:κ}{v:G'}{Q:Bool->Md->Prop},is s.heap k v->Q true s->Ml (Mr prog w) A (eqIsQuiet 8 v) Q E s
section
variable {prog:MD}{w:Mt}{κ:Type} [DecidableEq κ] (kd:VKd prog w κ)
def hW (x:κ×G'×G'):Op:=⟨kd.hash x.1,x.2.1,x.2.2⟩
structure Sz (h:Mp)(es:Array Op)(xs:List (κ×G'×G')):Prop where
 all:es.toList=xs.map (hW kd)
 keys:∀x∈xs,kd.is h x.1 x.2.1
 nd:(xs.map (·.1)).Nodup
def Qj (xs:List (κ×G'×G'))(k:κ):Option G':=(xs.find? λx=>decide (x.1=k)).map (·.2.2)
variable {kd}{A:ML}{E:G'->Md->Prop}{s:Md}
theorem Sz.get (e:Sz kd h es xs)(i:Nat):es[i]?=(xs[i]?).map (hW kd):=by rw[<-S7,e.all,O0]
theorem Sz.size (e:Sz kd h es xs):es.size=xs.length:=by rw[<-Od,e.all,Ng]
theorem Sz.uniq (e:Sz kd h es xs){i j:Nat}(hi:xs[i]?=some x)(hj:xs[j]?=some y)(q:x.1=y.1):i=j:=by
 have a:(xs.map (·.1))[i]?=some x.1:=by rw[O0,hi];rfl
 have b:(xs.map (·.1))[j]?=some x.1:=by rw[O0,hj,q];rfl
 exact(acu (NP.mp a).1 e.nd).mp (a.trans b.symm)
def i7 (xs:List (κ×G'×G'))(k:κ)(l:List Nat):Prop:=∀i∈l,∀x,xs[i]?=some x->x.1≠k
theorem nU (hu:kd.room A)(O5:kd.is s.heap k v)(ho:s.heap.get? d=some o)(hd:o.data=.dict es ep)(en:Sz kd s.heap es xs)(q0:(∀x∈xs,x.1≠k)->Q none s)(q1:∀j x,xs[j]?=some x->x.1=k->Q (some j) s):Ml (Mr prog w) A (dictFind d v (kd.hash k)) Q E s:=by
 have at_:=en.get;have sz:=en.size;have adp:∀{j x},xs[j]?=some x->x.1=k->j∈placesWithHash es.size (λi=>es[i]?.map (·.hash)) (kd.hash k):=λ{j x} hj e=>by
  unfold placesWithHash;refine O9.mpr ⟨P8.mpr (by rw[sz];exact(NP.mp hj).1),?_⟩;dsimp only;rw[at_ j,hj];simp[hW,e]
 have Wh:∀{j},j∈placesWithHash es.size (λi=>es[i]?.map (·.hash)) (kd.hash k)->∃x,xs[j]?=some x/\kd.hash x.1=kd.hash k:=λ{j} hj=>by
  unfold placesWithHash at hj;obtain⟨h1,h2⟩:=O9.mp hj;have hl:j<xs.length:=by rw[<-sz];exact P8.mp h1
  refine⟨xs[j],Om hl,?_⟩;dsimp only at h2;rw[at_ j,Om hl] at h2;simpa [hW] using h2
 have keyed:∀x∈es,∃k',kd.is s.heap k' x.key/\x.hash=kd.hash k':=λx hx=>by
  have:x∈xs.map (hW kd):=en.all▸aay.mpr hx;obtain⟨y,hy,rfl⟩:=Nm.mp this;exact⟨y.1,en.keys y hy,rfl⟩
 have stored:∀u∈(placesWithHash es.size (λi=>es[i]?.map (·.hash)) (kd.hash k)).filterMap (λi=>es[i]?.map (·.key)),∃k',kd.is s.heap k' u:=λu hu=>by
  obtain⟨i,_,e⟩:=Qm.mp hu;obtain⟨x,hx,rfl⟩:=VE.mp e;obtain⟨k',h,_⟩:=keyed x (Array.mem_of_getElem? hx);exact⟨k',h⟩
 have same:∀e∈es,¬(e.key==v&&e.hash != kd.hash k)=true:=λe he h=>by
  obtain⟨k',h1,h2⟩:=keyed e he;simp only[QW,beq_iff_eq,bne_iff_ne,ne_eq] at h;rw[h.1] at h1;exact h.2 (by rw[h2,kd.one h1 O5])
 generalize P0:placesWithHash es.size (λi=>es[i]?.map (·.hash)) (kd.hash k)=pl at adp Wh stored;have Yi:i7 xs k pl->∀x∈xs,x.1≠k:=λh x hx hk=>by
  obtain⟨j,hj⟩:=UT.mp hx;exact h j (adp hj hk) x hj hk
 have plain:Ml (Mr prog w) A (dictWalkPlain d v (kd.hash k) es pl) Q E s:=by
  unfold dictWalkPlain;refine Mf ?_;refine Rb _ (λrest b s'=>s'=s/\b=(none,())/\∃done,pl=done++rest/\i7 xs k done) _ ?_ ?_ _ _ ⟨rfl,rfl,[],rfl,λi hi=>nomatch hi⟩
  .rintro i rest b s' ⟨rfl,rfl,done,Nj,Tw⟩;obtain⟨x,hx,hh⟩:=Wh (j:=i) (by rw[Nj];simp);rw[at_ i,hx];simp only[ZS,hW];rw[Mu (by rw[hh];simp)];refine Mf (Ss ho hd (Mf (kd.Wy hu (en.keys x (N1 hx)) O5 (Mf (Ss ho hd ?_)))));rw[Mq (by simp)]
   by_cases z:x.1=k
   .rw[M6 z];simp only[if_true]
    first
     | exact Mf (Qa (Mm (Mm (q1 i x hx z))))
     | exact Mf (Mm (Mf (Qa (Mm (Mm (q1 i x hx z))))))
   .rw[M4 z];simp only[NT,if_false]
    first
     | exact Mf (Qa (Mm ⟨rfl,rfl,done++[i],by rw[Nj];simp,λj hj y hy=>(Ny.mp hj).elim (λh=>Tw j h y hy) λh=>by
       obtain rfl:j=i:=by simpa using h
       rw[hx] at hy;cases hy;exact z⟩))
     | skip
  .rintro b s' ⟨rfl,rfl,done,Nj,Tw⟩;rw[QD] at Nj;exact Mm (q0 (Yi (by rw[Nj];exact Tw)))
 have tell:∀{l:List G'}{Q:Bool->Md->Prop},(∀u∈l,∃k',kd.is s.heap k' u)->Q false s->Ml (Mr prog w) A (tableMayTell v l) Q E s:=λ{l Q} hl hq=>by
  unfold tableMayTell
  split
  .exact Mm hq
  .refine Mf (kd.quiet O5 ?_);simp only[QX,NT,if_false];refine Mf (Rb _ (λrest r s'=>s'=s/\r=(none,())/\∀u∈rest,∃k',kd.is s.heap k' u) _ ?_ ?_ _ _ ⟨rfl,rfl,hl⟩)
   .rintro u rest r s' ⟨rfl,rfl,hr⟩;obtain⟨k',RI⟩:=hr u MO;refine Mf (kd.quiet RI ?_);simp only[QX,NT,if_false];exact Mm ⟨rfl,rfl,λz hz=>hr z (Na _ hz)⟩
   .rintro r s' ⟨rfl,rfl,_⟩;exact Mm hq
 have afC:¬(es.any λe=>e.key==v&&e.hash != kd.hash k)=true:=λh=>by
  obtain⟨i,hi,h⟩:=Array.any_eq_true.mp h;exact same es[i] (Array.getElem_mem hi) h
 have UK:pl.Nodup:=by
  rw[<-P0];exact(aaN (n:=es.size)).sublist VL
 rcases kd.aae O5 with⟨i0,t0,rfl⟩|⟨a0,rfl⟩
 .unfold dictFind
  try with_reducible refine O2 ?_
  refine Mf (ZM ho hd ?_);dsimp only;rw[P0]
  by_cases Qe:((Ov i0 t0::pl.filterMap λi=>es[i]?.map (·.key)).all carriedByValue)=true
  .rw[Mu Qe];exact plain
  rw[Mq Qe]
  by_cases Yj:((pl.filterMap λi=>es[i]?.map (·.key))==[Ov i0 t0])=true
  .rw[Mu Yj];refine Mf (Mm ?_);rw[Mq (by simp)];refine Mf (Rb _ (λrest b s'=>s'=s/\∃hit done,b=(none,hit)/\pl=done++rest/\((hit=none/\i7 xs k done)\/∃j x,hit=some j/\j∈done/\xs[j]?=some x/\x.1=k)) _ ?_ ?_ _ _ ⟨rfl,none,[],rfl,rfl,.inl ⟨rfl,λi hi=>nomatch hi⟩⟩)
   .rintro i rest b s' ⟨rfl,hit,done,rfl,Nj,hH⟩;obtain⟨x,hx,hh⟩:=Wh (j:=i) (by rw[Nj];simp);rw[at_ i,hx];simp only[ZS,hW];rw[Mu (by rw[hh];simp)];refine Mf (Ss ho hd (Mf (kd.Wy hu (en.keys x (N1 hx)) O5 (Mf (Ss ho hd ?_)))));rw[Mq (by simp)]
    by_cases z:x.1=k
    .rw[M6 z,Mu rfl];rcases hH with⟨rfl,_⟩|⟨j,y,_,hj,hy,QQ⟩
     .rw[Mq (by simp)];refine Mf (Qa ?_)
      split
      .exact Mm (Mm (q1 i x hx z))
      .exact Mm ⟨rfl,some i,done++[i],rfl,by rw[Nj];simp,.inr ⟨i,x,rfl,by simp,hx,z⟩⟩
     .have e:=en.uniq hy hx (by rw[QQ,z]);subst e;rw[Nj] at UK;exact Mw rfl ((Ub.mp UK).2.2 j hj j MO)
    .rw[M4 z,Mq (by simp)];refine Mf (Qa ?_);rw[Mq (by simp)];refine Mm ⟨rfl,hit,done++[i],rfl,by rw[Nj];simp,hH.imp (λh=>⟨h.1,λj hj y hy=>(Ny.mp hj).elim (λm=>h.2 j m y hy) λm=>?_⟩) λ⟨j,y,h1,h2,h3⟩=>⟨j,y,h1,P6 _ h2,h3⟩⟩;obtain rfl:j=i:=by simpa using m
     rw[hx] at hy;cases hy;exact z
   .rintro b s' ⟨rfl,hit,done,rfl,Nj,hH⟩;rw[QD] at Nj;rcases hH with⟨rfl,h⟩|⟨j,y,rfl,_,hy,QQ⟩
    .exact Mm (q0 (Yi (by rw[Nj];exact h)))
    .exact Mm (q1 j y hy QQ)
  .rw[Mq Yj];refine Mf (tell stored ?_);rw[Mq (by simp)];refine Mf (Rb _ (λrest b s'=>s'=s/\∃hit done,b=(none,hit)/\pl=done++rest/\((hit=none/\i7 xs k done)\/∃j x,hit=some j/\j∈done/\xs[j]?=some x/\x.1=k)) _ ?_ ?_ _ _ ⟨rfl,none,[],rfl,rfl,.inl ⟨rfl,λi hi=>nomatch hi⟩⟩)
   .rintro i rest b s' ⟨rfl,hit,done,rfl,Nj,hH⟩;obtain⟨x,hx,hh⟩:=Wh (j:=i) (by rw[Nj];simp);rw[at_ i,hx];simp only[ZS,hW];rw[Mu (by rw[hh];simp)];refine Mf (Ss ho hd (Mf (kd.Wy hu (en.keys x (N1 hx)) O5 (Mf (Ss ho hd ?_)))));rw[Mq (by simp)]
    by_cases z:x.1=k
    .rw[M6 z,Mu rfl];rcases hH with⟨rfl,_⟩|⟨j,y,_,hj,hy,QQ⟩
     .rw[Mq (by simp)];refine Mf (Qa ?_)
      split
      .exact Mm (Mm (q1 i x hx z))
      .exact Mm ⟨rfl,some i,done++[i],rfl,by rw[Nj];simp,.inr ⟨i,x,rfl,by simp,hx,z⟩⟩
     .have e:=en.uniq hy hx (by rw[QQ,z]);subst e;rw[Nj] at UK;exact Mw rfl ((Ub.mp UK).2.2 j hj j MO)
    .rw[M4 z,Mq (by simp)];refine Mf (Qa ?_);rw[Mq (by simp)];refine Mm ⟨rfl,hit,done++[i],rfl,by rw[Nj];simp,hH.imp (λh=>⟨h.1,λj hj y hy=>(Ny.mp hj).elim (λm=>h.2 j m y hy) λm=>?_⟩) λ⟨j,y,h1,h2,h3⟩=>⟨j,y,h1,P6 _ h2,h3⟩⟩;obtain rfl:j=i:=by simpa using m
     rw[hx] at hy;cases hy;exact z
   .rintro b s' ⟨rfl,hit,done,rfl,Nj,hH⟩;rw[QD] at Nj;rcases hH with⟨rfl,h⟩|⟨j,y,rfl,_,hy,QQ⟩
    .exact Mm (q0 (Yi (by rw[Nj];exact h)))
    .exact Mm (q1 j y hy QQ)
 .unfold dictFind
  try with_reducible refine O2 ?_
  refine Mf (ZM ho hd ?_);dsimp only;rw[P0]
  by_cases Qe:((Nd a0::pl.filterMap λi=>es[i]?.map (·.key)).all carriedByValue)=true
  .rw[Mu Qe];exact plain
  rw[Mq Qe];rw[Mq afC]
  by_cases Yj:((pl.filterMap λi=>es[i]?.map (·.key))==[Nd a0])=true
  .rw[Mu Yj];refine Mf (Mm ?_);rw[Mq (by simp)];refine Mf (Rb _ (λrest b s'=>s'=s/\∃hit done,b=(none,hit)/\pl=done++rest/\((hit=none/\i7 xs k done)\/∃j x,hit=some j/\j∈done/\xs[j]?=some x/\x.1=k)) _ ?_ ?_ _ _ ⟨rfl,none,[],rfl,rfl,.inl ⟨rfl,λi hi=>nomatch hi⟩⟩)
   .rintro i rest b s' ⟨rfl,hit,done,rfl,Nj,hH⟩;obtain⟨x,hx,hh⟩:=Wh (j:=i) (by rw[Nj];simp);rw[at_ i,hx];simp only[ZS,hW];rw[Mu (by rw[hh];simp)];refine Mf (Ss ho hd (Mf (kd.Wy hu (en.keys x (N1 hx)) O5 (Mf (Ss ho hd ?_)))));rw[Mq (by simp)]
    by_cases z:x.1=k
    .rw[M6 z,Mu rfl];rcases hH with⟨rfl,_⟩|⟨j,y,_,hj,hy,QQ⟩
     .rw[Mq (by simp)];refine Mf (Qa ?_)
      split
      .exact Mm (Mm (q1 i x hx z))
      .exact Mm ⟨rfl,some i,done++[i],rfl,by rw[Nj];simp,.inr ⟨i,x,rfl,by simp,hx,z⟩⟩
     .have e:=en.uniq hy hx (by rw[QQ,z]);subst e;rw[Nj] at UK;exact Mw rfl ((Ub.mp UK).2.2 j hj j MO)
    .rw[M4 z,Mq (by simp)];refine Mf (Qa ?_);rw[Mq (by simp)];refine Mm ⟨rfl,hit,done++[i],rfl,by rw[Nj];simp,hH.imp (λh=>⟨h.1,λj hj y hy=>(Ny.mp hj).elim (λm=>h.2 j m y hy) λm=>?_⟩) λ⟨j,y,h1,h2,h3⟩=>⟨j,y,h1,P6 _ h2,h3⟩⟩;obtain rfl:j=i:=by simpa using m
     rw[hx] at hy;cases hy;exact z
   .rintro b s' ⟨rfl,hit,done,rfl,Nj,hH⟩;rw[QD] at Nj;rcases hH with⟨rfl,h⟩|⟨j,y,rfl,_,hy,QQ⟩
    .exact Mm (q0 (Yi (by rw[Nj];exact h)))
    .exact Mm (q1 j y hy QQ)
  .rw[Mq Yj];refine Mf (tell stored ?_);rw[Mq (by simp)];refine Mf (Rb _ (λrest b s'=>s'=s/\∃hit done,b=(none,hit)/\pl=done++rest/\((hit=none/\i7 xs k done)\/∃j x,hit=some j/\j∈done/\xs[j]?=some x/\x.1=k)) _ ?_ ?_ _ _ ⟨rfl,none,[],rfl,rfl,.inl ⟨rfl,λi hi=>nomatch hi⟩⟩)
   .rintro i rest b s' ⟨rfl,hit,done,rfl,Nj,hH⟩;obtain⟨x,hx,hh⟩:=Wh (j:=i) (by rw[Nj];simp);rw[at_ i,hx];simp only[ZS,hW];rw[Mu (by rw[hh];simp)];refine Mf (Ss ho hd (Mf (kd.Wy hu (en.keys x (N1 hx)) O5 (Mf (Ss ho hd ?_)))));rw[Mq (by simp)]
    by_cases z:x.1=k
    .rw[M6 z,Mu rfl];rcases hH with⟨rfl,_⟩|⟨j,y,_,hj,hy,QQ⟩
     .rw[Mq (by simp)];refine Mf (Qa ?_)
      split
      .exact Mm (Mm (q1 i x hx z))
      .exact Mm ⟨rfl,some i,done++[i],rfl,by rw[Nj];simp,.inr ⟨i,x,rfl,by simp,hx,z⟩⟩
     .have e:=en.uniq hy hx (by rw[QQ,z]);subst e;rw[Nj] at UK;exact Mw rfl ((Ub.mp UK).2.2 j hj j MO)
    .rw[M4 z,Mq (by simp)];refine Mf (Qa ?_);rw[Mq (by simp)];refine Mm ⟨rfl,hit,done++[i],rfl,by rw[Nj];simp,hH.imp (λh=>⟨h.1,λj hj y hy=>(Ny.mp hj).elim (λm=>h.2 j m y hy) λm=>?_⟩) λ⟨j,y,h1,h2,h3⟩=>⟨j,y,h1,P6 _ h2,h3⟩⟩;obtain rfl:j=i:=by simpa using m
     rw[hx] at hy;cases hy;exact z
   .rintro b s' ⟨rfl,hit,done,rfl,Nj,hH⟩;rw[QD] at Nj;rcases hH with⟨rfl,h⟩|⟨j,y,rfl,_,hy,QQ⟩
    .exact Mm (q0 (Yi (by rw[Nj];exact h)))
    .exact Mm (q1 j y hy QQ)
theorem Bb {xs:List (κ×G'×G')}(h:∀x∈xs,x.1≠k):Qj xs k=none:=by
 unfold Qj;rw[ZG.mpr λx hx=>by simpa using h x hx];rfl
theorem Sz.Qj (e:Sz kd h es xs){j:Nat}(hj:xs[j]?=some x):L2.Qj xs x.1=some x.2.2:=by
 unfold L2.Qj;cases q:xs.find? λy=>decide (y.1=x.1) with
 | none=>exact Mw (ZG.mp q x (N1 hj)) (by simp)
 | some y=>
  obtain⟨i,hi⟩:=UT.mp (adY q);have hy:y.1=x.1:=by simpa using List.find?_some q
  have:=e.uniq hi hj hy;subst this;rw[hi] at hj;cases hj;rfl
def iB (kd:VKd prog w κ)(h:Mp)(d:D')(xs:List (κ×G'×G')):Prop:=∃o es ep,h.get? d=some o/\o.ExactDict/\o.data=.dict es ep/\Sz kd h es xs
theorem iB.type (m:iB kd s.heap d xs):s.TypeIs (.ref d) "dict":=let ⟨o,_,_,ho,hc,_⟩:=m;⟨o,ho,hc.1⟩
theorem qE (hu:kd.room A)(O5:kd.is s.heap k v)(m:iB kd s.heap d xs)(h:Q (Qj xs k) { s with toks:=s.toks+kd.draws k }):
  Ml (Mr prog w) A (dictGet d v) Q E s:=by
 obtain⟨o,es,ep,ho,_,hd,en⟩:=m;unfold dictGet
 try with_reducible refine O2 ?_
 refine Mf (kd.hashes hu O5 (Mf (nU (s:={ s with toks:=s.toks+kd.draws k }) hu O5 ho hd en (λq=>?_) λj x hj hk=>?_)))
 .rw[Bb q] at h;exact Mm h
 .subst hk;rw[en.Qj hj] at h;refine Mf (ZM (s:={ s with toks:=s.toks+kd.draws x.1 }) ho hd ?_);rw[en.get j,hj];exact Mm h
theorem C6 (hu:kd.room A.in1)(O5:kd.is s.heap k v)(hd:(d==Po)=false)(m:iB kd s.heap d xs)(h:Q (.bool (!(Qj xs k).isSome)) { s with toks:=s.toks+kd.draws k }):Ml (Mr prog w) A (OM .NotIn v (.ref d)) Q E s:=by
 show Ml _ _ (contains (.ref d) v >>= λb=>pure (R0 (!b))) Q E s;refine Mf ?_;unfold contains
 try with_reducible refine O2 ?_
 refine Mf (VW m.type acn.lookup ?_);rw[show(some (V2 "dict.__contains__")==some Sv)=false from rfl];refine Mf (wpAny_callSpecialUnlessNone?_slot (name:=RZ "__contains__") m.type acn (Ra acn m.type entry_dict_contains ?_ (args_dict_contains _ _)));refine Mf (m:=dictGet d v) (qE hu O5 m ?_);cases hf:Qj xs k with
 | some p=>
  rw[hf] at h;exact Mm ⟨.bool true,rfl,Q9 (Mm h)⟩
 | none=>
  rw[hf] at h;exact Mf (m:=PH.Dict.pendingKey? d v) (wpAny_pendingKey_other hd (Mm ⟨.bool false,rfl,Q9 (Mm h)⟩))
theorem y7 (hu:kd.room A.in1)(O5:kd.is s.heap k v)(m:iB kd s.heap d xs)(hp:Qj xs k=some u)(h:Q u { s with toks:=s.toks+kd.draws k }):
  Ml (Mr prog w) A (getItem (.ref d) v) Q E s:=by
 unfold getItem
 try with_reducible refine O2 ?_
 refine Mf (acr m.type (by decide) (Mf (Zy (name:=RZ "__getitem__") m.type slot_dict_getitem (Ra slot_dict_getitem m.type entry_dict_getitem ?_ (args_dict_getitem _ _)))));refine Mf (m:=dictGet d v) (qE hu O5 m ?_);rw[hp];exact Mm ⟨u,rfl,Mm h⟩
theorem y8 (hu:kd.room A.in1)(O5:kd.is s.heap k v)(m:iB kd s.heap d xs)(new:∀x∈xs,x.1≠k)(hsz:xs.length<=Mz)(hQ:∀h',iB kd h' d (xs++[(k,v,u)])->QY d s.heap h'->Q () { s with heap:=h',toks:=s.toks+kd.draws k }):Ml (Mr prog w) A (setItem (.ref d) v u) Q E s:=by
 have ty:=m.type;obtain⟨o,es,ep,ho,hc,hd,en⟩:=m;have sz:=en.size;unfold setItem
 try with_reducible refine O2 ?_
 refine Mf (acr ty (by decide) (Mf (Zy (name:=RZ "__setitem__") ty slot_dict_setitem (Ra slot_dict_setitem ty entry_dict_setitem ?_ (args_dict_setitem _ _ _)))));refine Mf (m:=PH.Dict.notOrdered "__setitem__" ⟨[.ref d,v,u],[]⟩) (wpAny_notOrdered_dict ty ?_);refine Mf (m:=dictSet d v u) ?_;unfold dictSet
 try with_reducible refine O2 ?_
 refine Mf (kd.hashes hu O5 ?_);unfold dictSetHashed
 try with_reducible refine O2 ?_
 refine Mf (nU (s:={ s with toks:=s.toks+kd.draws k }) hu O5 ho hd en (λ_=>?_) λj x hj hk=>Mw hk (new x (N1 hj)));refine Mf (Qa (wpAny_updateDictKeys (hz:=by lia) (s:={ s with toks:=s.toks+kd.draws k }) ho hd (Mm ⟨.none,rfl,Mm (hQ _ ⟨_,_,ep+1,ZB _ ho (Mc.isFreed_of_dict (aen hd _)),hc.mapDictKeys _,aen hd _,?_,?_,?_⟩ (Xn ..))⟩)))
 .simp[en.all,hW]
 .intro x hx;rcases Ny.mp hx with hx|hx
  .exact kd.keeps (en.keys x hx) ho hd (Xn ..)
  .obtain rfl:x=(k,v,u):=by simpa using hx
   exact kd.keeps O5 ho hd (Xn ..)
 .rw[Qn,Ub];refine⟨en.nd,by simp,λa ha b hb e=>?_⟩;obtain⟨x,hx,rfl⟩:=Nm.mp ha;obtain rfl:b=k:=by simpa using hb
  exact new x hx e
end
abbrev SK:=Sum Int (List Int)
def Qx (h:Mp):SK->G'->Prop
 | .inl i,v=>∃t,v=Ov i t
 | .inr l,v=>∃a,v=Nd a/\bI h l a
def lm:SK->Int
 | .inl i=>hashInt i
 | .inr l=>fM l
def BU:SK->Nat
 | .inl _=>1
 | .inr l=>l.length+1
theorem Qx.keeps {es ep}(ho:h.get? d=some o)(hd:o.data=.dict es ep)(hs:QY d h h'):∀{k:SK}{v:G'},Qx h k v->Qx h' k v
 | .inl _,_,p=>p
 | .inr _,_,⟨a,e,q⟩=>⟨a,e,q.keeps ho hd hs⟩
theorem Qx.one:∀{k k':SK},Qx h k v->Qx h k' v->k=k'
 | .inl _,.inl _,⟨_,e⟩,⟨_,e'⟩=>by subst e;cases e';rfl
 | .inl _,.inr _,⟨_,e⟩,⟨_,e',_⟩=>by subst e;cases e'
 | .inr _,.inl _,⟨_,e,_⟩,⟨_,e'⟩=>by subst e;cases e'
 | .inr _,.inr _,⟨_,e,p⟩,⟨_,e',p'⟩=>by subst e;cases e';rw[p.inj p']
theorem Qx.aae:∀{k:SK},Qx h k v->(∃i t,v=.int i t)\/∃a,v=.ref a
 | .inl i,⟨t,e⟩=>.inl ⟨i,t,e⟩
 | .inr _,⟨a,e,_⟩=>.inr ⟨a,e⟩
section
theorem eqK (hu:A.units<MQ):∀{k k':SK},Qx s.heap k u->Qx s.heap k' v->R3 A s u v (decide (k=k'))
 | .inl i,.inl j,⟨_,e⟩,⟨_,e'⟩=>by
  subst e e';have z:decide ((Oy i:SK)=Oy j)=(i==j):=by
   rw[gK]
   by_cases h:i=j
   .subst h;simp
   .simp[h]
  rw[z];exact aaG _ _ _ _
 | .inl i,.inr l,⟨t,e⟩,⟨a,e',p⟩=>by
  subst e e';obtain⟨Mh,tp,_⟩:=p;exact R3.int_tuple i t tp hu
 | .inr l,.inl i,⟨a,e',p⟩,⟨t,e⟩=>by
  subst e e';obtain⟨Mh,tp,_⟩:=p;exact R3.tuple_int i t tp hu
 | .inr l,.inr m,⟨a,e,p⟩,⟨b,e',q⟩=>by
  subst e e';have z:decide ((Tj l:SK)=Tj m)=decide (l=m):=by
   by_cases h:l=m
   .subst h;simp
   .simp[h]
  rw[z];exact wK hu p q
theorem Bc (hu:A.units<MQ):∀{k:SK},Qx s.heap k v->Q (lm k) { s with toks:=s.toks+BU k }->Ml (Mr prog w) A (pyHash v) Q E s
 | .inl _,⟨_,e⟩,h=>by subst e;exact wpAny_pyHash_int h
 | .inr _,⟨_,e,p⟩,h=>by subst e;exact jX hu p h
theorem HW (h:Q true s):∀{k:SK},Qx s.heap k v->Ml (Mr prog w) A (eqIsQuiet 8 v) Q E s
 | .inl _,⟨_,e⟩=>by subst e;rw[eqIsQuiet_byValue 8 rfl];exact Mm h
 | .inr _,⟨_,e,p⟩=>by subst e;exact mh 7 p h
end
def nV (prog)(w):VKd prog w SK where
 is:=Qx
 hash:=lm
 draws:=BU
 room:=λA=>A.units<MQ
 one:=Qx.one
 aae:=Qx.aae
 keeps:=λp ho hd hs=>p.keeps ho hd hs
 hashes:=λhu p h=>Bc hu p h
 Wy:=λhu p q h=>eqK hu p q _ _ _ _ h
 quiet:=λp h=>HW h p
def cF (K:Mi)(H:Hp)(x:V):SK->Prop
 | .inl i=>x=.int i
 | .inr l=>au.rep K H x l
theorem cF.mono {K:Mi}(h:ar H H'):∀{k:SK},cF K H x k->cF K H' x k
 | .inl _,p=>p
 | .inr _,p=>au.mono h p
abbrev KL:=List (SK×V×Int)
def YS (L:KL)(xs:List (SK×G'×G')):Prop:=MC (λ(p:SK×V×Int) (q:SK×G'×G')=>p.1=q.1/\ax p.2.1 q.2.1/\∃t,q.2.2=Ov p.2.2 t) L xs
def Ez (d:D')(L:KL)(h:Mp):Prop:=(d==Po)=false/\∃xs,YS L xs/\∃o es ep,h.get? d=some o/\o.ExactDict/\o.data=.dict es ep/\es.toList=xs.map (λx=>(⟨lm x.1,x.2.1,x.2.2⟩:Op))/\(xs.map (·.1)).Nodup
def O8 (d:D')(L:KL):HO:=.ext (Ez d L)
theorem y9 (x:Ez d L h):bg P w H h d (O8 d L):=by
 refine⟨x,?_,λh1 h2 ⟨y,xs,p,o,es,ep,e,r⟩ k=>⟨y,xs,p,o,es,ep,k _ e,r⟩⟩;obtain⟨_,_,_,o,_,_,e,_⟩:=x;exact⟨o,e⟩
def fz (L:KL)(k:SK):Option Int:=(L.find? λe=>decide (e.1=k)).map (·.2.2)
theorem nW:∀{L:KL}{xs:List (SK×G'×G')},YS L xs->(fz L k=none/\Qj xs k=none)\/∃n t,fz L k=some n/\Qj xs k=some (.int n t)
 | _,_,.nil=>.inl ⟨rfl,rfl⟩
 | e::L,x::xs,.cons r t=>by
  obtain⟨k1,a1,n1⟩:=e;obtain⟨k2,a2,v2⟩:=x;obtain⟨h1,h2,tk,h3⟩:=r;dsimp only at h1 h2 h3;subst h1 h3
  by_cases z:k1=k
  .subst z;exact .inr ⟨n1,tk,by simp[fz],by simp[Qj]⟩
  .have ih:=nW (k:=k) t;have e1:fz ((k1,a1,n1)::L) k=fz L k:=by simp[fz,z]
   have e2:Qj ((k1,a2,Ov n1 tk)::xs) k=Qj xs k:=by simp[Qj,z]
   rw[e1,e2];exact ih
def iC (K:Mi)(H:Hp)(L:KL):Prop:=∀e∈L,cF K H e.2.1 e.1
section
variable {σ:St} in
theorem nX (I:Inv X aa σ H s)(r:ax x u):∀{k:SK},cF X.K H x k->Qx s.heap k u
 | .inl _,p=>by
  have p:x=_:=p;subst p;exact r
 | .inr _,p=>by
  obtain⟨a,xs,e,q⟩:=id p;subst e;cases r;exact⟨a,rfl,nA I p⟩
variable {σ:St} in
theorem w5 (I:Inv X aa σ H s)(e:H d=some (O8 d L))(hk:iC X.K H L):(d==Po)=false/\∃xs,YS L xs/\iB (nV X.prog X.w) s.heap d xs:=by
 obtain⟨⟨y,xs,p,o,es,ep,e1,e2,e3,e4,e5⟩,_⟩:=(show bg X.prog X.w H s.heap d (O8 d L) from I.My d _ e)
 refine⟨y,xs,p,o,es,ep,e1,e2,e3,e4,?_,e5⟩;intro x hx;obtain⟨j,hj⟩:=UT.mp hx;obtain⟨l,hl,r1,r2,_⟩:=dX (F:=λ(p:SK×V×Int) (q:SK×G'×G')=>p.1=q.1/\ax p.2.1 q.2.1/\∃t,q.2.2=Ov p.2.2 t) p hj;have:=nX I r2 (hk l (N1 hl));rw[r1] at this;exact this
def pC (K:Mi):R2:=λx y H Q=>∃d L k,y=.ref d/\H d=some (O8 d L)/\iC K H L/\cF K H x k/\Q (.bl (!(fz L k).isSome)) H
theorem qF (hu:X.A.units+1<MQ):Nr X (OM .NotIn) (pC X.K):=by
 intro aa s σ H x y v u Q I rx ry h;obtain⟨d,L,k,rfl,e,hk,hb,q⟩:=h;cases ry;obtain⟨hd,xs,p,dd⟩:=w5 I e hk;refine C6 (kd:=nV X.prog X.w) (by show X.A.units+1<MQ;lia) (nX I rx hb) hd dd ⟨.bl (!(fz L k).isSome),H,I.tok _,?_,q⟩;show _=R0 _;rcases nW (k:=k) p with⟨z1,z2⟩|⟨n,t,z1,z2⟩
 .rw[z1,z2];rfl
 .rw[z1,z2];rfl
def HX (K:Mi)(td ty:TE):TE:=λσ H Q=>td σ H λx H1=>ty σ H1 λy H2=>∃d L k n,x=.ref d/\H2 d=some (O8 d L)/\iC K H2 L/\cF K H2 y k/\fz L k=some n/\Q (.int n) H2
theorem vQ (hu:X.A.units+1<MQ)(ho:PE X o td)(hi:PE X i ty)(hs:sJ i):PE X (.Subscript o i pos) (HX X.K td ty):=by
 intro aa s σ H Q I h;refine kU aap.lookup hs (ME (ho aa s σ H _ I h) λu s1 ⟨x,H1,I1,rx,q1⟩=>ME (hi aa s1 σ H1 _ I1 q1) λiv s2 ⟨y,H2,I2,ry,d,L,k,n,ex,e,hk,hb,hn,q2⟩=>?_);subst ex;cases rx;obtain⟨hd,xs,p,dd⟩:=w5 I2 e hk;refine⟨dd.type,?_⟩;rcases nW (k:=k) p with⟨z1,z2⟩|⟨n',t,z1,z2⟩
 .rw[z1] at hn;cases hn
 .rw[z1] at hn;cases hn;exact y7 (kd:=nV X.prog X.w) (by show X.A.units+1<MQ;lia) (nX I2 ry hb) dd z2 ⟨.int n,H2,I2.tok _,⟨t,rfl⟩,q2⟩
def HY (K:Mi)(td ty tv:TE):TS:=λD σ H=>tv σ H λv H1=>td σ H1 λx H2=>ty σ H2 λy H3=>∃d L k n,v=.int n/\x=.ref d/\H3 d=some (O8 d L)/\iC K H3 L/\cF K H3 y k/\fz L k=none/\L.length<Mz/\
 D.nx σ (upd H3 d (O8 d (L++[(k,y,n)])))
theorem C7 (hu:X.A.units+1<MQ)(ho:PE X o td)(hi:PE X i ty)(hv:PE X value tv)(hs:swapsWith value (some (.Subscript o i pos')) pos.line X.env=pure false):
  PS X (.Assign [.Subscript o i pos'] value pos) (HY X.K td ty tv):=by
 intro aa s σ H D I h;refine ab3 (ME (hv aa s σ H _ I h) λr s1 ⟨v,H1,I1,rv,q1⟩=>ME (ho aa s1 σ H1 _ I1 q1) λu s2 ⟨x,H2,I2,rx,q2⟩=>ME (hi aa s2 σ H2 _ I2 q2) λiv s3 ⟨y,H3,I3,ry,d,L,k,n,ev,ex,e,hk,hb,hn,hl,q3⟩=>?_) hs;subst ev ex;obtain⟨t,rfl⟩:=rv;cases rx;obtain⟨hd,xs,p,dd⟩:=w5 I3 e hk;have new:∀x∈xs,x.1≠k:=λx hx z=>by
  obtain⟨j,hj⟩:=UT.mp hx;obtain⟨_,_,_,_,_,_,en⟩:=dd;have z2:=en.Qj hj;rw[z] at z2;rcases nW (k:=k) p with⟨_,z3⟩|⟨n',t',z1,_⟩
  .rw[z3] at z2;cases z2
  .rw[z1] at hn;cases hn
 refine y8 (kd:=nV X.prog X.w) (by show X.A.units+1<MQ;lia) (nX I3 ry hb) dd new (by rw[<-VZ p];lia) λh' QN Pw=>⟨σ,_,?_,q3⟩
 obtain⟨o',es,ep,e1,e2,e3,e4,_,e5⟩:=QN;refine I3.write (x:=d) (e:=d) (by rw[e];exact P9) (.inl rfl) (λb q hb z=>(Pw.2 b hb).trans z) ⟨_,e1⟩ (y9 ⟨hd,_,cJ p (.cons ⟨rfl,ry,t,rfl⟩ .nil),o',es,ep,e1,e2,e3,e4,e5⟩)
end
end L2
namespace Bk
open Mx
theorem gh (rs)(r):rs <+: (keep rs r).2:=let ⟨_,_,_,_,h⟩:=fG rs r;h
theorem vR {a b:List Mg}(h:a <+: b)(hr:r∈a):b.idxOf r=a.idxOf r:=by
 obtain⟨c,rfl⟩:=h;rw[act,Mu hr]
theorem w6 (h:(keep rs r).2 <+: Mj):keep Mj r=((keep rs r).1,Mj):=by
 unfold keep at h ⊢
 by_cases m:r∈rs
 .rw[Mu m] at h ⊢;have m2:r∈Mj:=h.subset m;rw[Mu m2,vR h m]
 .rw[Mq m] at h ⊢;have m1:r∈rs++[r]:=by simp
  have m2:r∈Mj:=h.subset m1;rw[Mu m2,vR h m1,act,Mq m];simp
theorem mB (hf:∀os rs,rs <+: (f os rs).2):∀ts rs,rs <+: (aG f os ts rs).2
 | [],_=>P7
 | t::ts,rs=>(hf _ rs).trans (mB hf ts _)
theorem vS:∀(n:Nat) (os:am) (rs:List Mg),rs <+: (lay n os rs).2
 | 0,_,_=>P7
 | n+1,os,rs=>(mB (vS n) (heads os) rs).trans (gh _ _)
theorem nY (hp:∀os rs,rs <+: (f os rs).2)(hf:∀os rs Mj,(f os rs).2 <+: Mj->f os Mj=((f os rs).1,Mj)):
  ∀ts rs Mj,(aG f os ts rs).2 <+: Mj->aG f os ts Mj=((aG f os ts rs).1,Mj)
 | [],_,_,_=>rfl
 | t::ts,rs,Mj,h=>by
  have h1:(aG f os ts (f (rests t os) rs).2).2 <+: Mj:=h;have e1:=hf (rests t os) rs Mj ((mB hp ts _).trans h1);have e2:=nY hp hf ts _ _ h1;unfold aG;rw[e1];dsimp only;rw[e2]
theorem kr:∀(n:Nat) (os:am) (rs Mj:List Mg),(lay n os rs).2 <+: Mj->lay n os Mj=((lay n os rs).1,Mj)
 | 0,_,_,_,_=>rfl
 | n+1,os,rs,Mj,h=>by
  have h1:(keep (aG (lay n) os (heads os) rs).2 (aG (lay n) os (heads os) rs).1).2 <+: Mj:=h;have e:=nY (vS n) (kr n) (heads os) rs Mj ((gh _ _).trans h1);unfold lay;rw[e];exact w6 h1
theorem C8:∀(n:Nat) (os:am) (rs:List Mg),1<=(lay n os rs).1
 | 0,_,_=>MJ _
 | n+1,os,rs=>by
  obtain⟨i,h,_⟩:=fG (aG (lay n) os (heads os) rs).2 (aG (lay n) os (heads os) rs).1;show 1<=(keep _ _).1;lia
section
variable {S:Type} [DecidableEq S]
def cq (kn:List (S×Nat))(s:S):Option Nat:=(kn.find? λe=>decide (e.1=s)).map (·.2)
theorem Bd {a b:List (S×Nat)}(h:a <+: b)(e:cq a s=some k):cq b s=some k:=by
 obtain⟨c,rfl⟩:=h;unfold cq at e ⊢;rw[aaM];cases q:a.find? λe=>decide (e.1=s) with
 | none=>rw[q] at e;cases e
 | some x=>rw[q] at e;exact e
theorem za {a:List (S×Nat)}(e:cq (a++[(s,k)]) s'=some k'):cq a s'=some k'\/(cq a s'=none/\s'=s/\k'=k):=by
 unfold cq at e ⊢;rw[aaM] at e;cases q:a.find? λe=>decide (e.1=s') with
 | some x=>rw[q] at e;exact .inl e
 | none=>
  rw[q] at e
  by_cases z:s=s'
  .subst z;simp at e;exact .inr ⟨rfl,rfl,e.symm⟩
  .simp[z] at e
theorem mD {a:List (S×Nat)}(h:cq a s=none):cq (a++[(s,k)]) s=some k:=by
 unfold cq at h ⊢;rw[aaM];cases q:a.find? λe=>decide (e.1=s) with
 | some x=>rw[q] at h;cases h
 | none=>simp
theorem qG {a b:List (S×Nat)}(h:cq a s=none)(hb:∀e∈b,e.1≠s):cq (a++b) s=none:=by
 unfold cq at h ⊢;rw[aaM];cases q:a.find? λe=>decide (e.1=s) with
 | some x=>rw[q] at h;cases h
 | none=>
  have:b.find? (λe=>decide (e.1=s))=none:=ZG.mpr λe he=>by simpa using hb e he
  rw[this];rfl
abbrev GP (S:Type):=List Mg×List (S×Nat)
def av (g:S->GP S->Nat×GP S):List (Int×S)->GP S->Mg×GP S
 | [],p=>([],p)
 | d::ds,p=>(if (g d.2 p).1=0 then (av g ds (g d.2 p).2).1 else (d.1,((g d.2 p).1:Int))::(av g ds (g d.2 p).2).1,(av g ds (g d.2 p).2).2)
def aB (Ms:S->List (Int×S)):Nat->S->GP S->Nat×GP S
 | 0,s,p=>((cq p.2 s).getD 0,p)
 | n+1,s,p=>match cq p.2 s with
  | some k=>(k,p)
  | none=>if (av (aB Ms n) (Ms s) p).1=[] then (0,((av (aB Ms n) (Ms s) p).2.1,(av (aB Ms n) (Ms s) p).2.2++[(s,0)]))
   else ((keep (av (aB Ms n) (Ms s) p).2.1 (av (aB Ms n) (Ms s) p).1).1,
    ((keep (av (aB Ms n) (Ms s) p).2.1 (av (aB Ms n) (Ms s) p).1).2,(av (aB Ms n) (Ms s) p).2.2++[(s,(keep (av (aB Ms n) (Ms s) p).2.1 (av (aB Ms n) (Ms s) p).1).1)]))
structure Way (Ms:S->List (Int×S))(os:S->am)(Nx:S->Nat)(tm good:S->Prop):Prop where
 pos:∀s,good s->¬tm s->1<=Nx s
 len:∀s,good s->¬tm s->∀o∈os s,o.length=Nx s
 down:∀s,good s->¬tm s->∀d∈Ms s,good d.2/\(tm d.2\/Nx d.2+1=Nx s)
 rise:∀s,good s->¬tm s->((Ms s).map (·.1)).Pairwise (· < ·)
 bnd:∀s,good s->¬tm s->∀d∈Ms s,0<=d.1/\d.1<8
 rest:∀s,good s->¬tm s->∀d∈Ms s,fu (rests d.1 (os s)) (os d.2)
 all:∀s,good s->¬tm s->∀t r,t::r∈os s->∃s',(t,s')∈Ms s
structure Ri (os:S->am)(tm good:S->Prop)(rs)(kn):Prop where
 ends:∀s,good s->tm s->(cq kn s).isSome=true
 so:∀s k,cq kn s=some k->(os s=[]/\k=0)\/(os s≠[]/\∀n,(∀o∈os s,o.length=n)->lay n (os s) rs=(k,rs))
theorem Ri.more {os:S->am}(M:Ri os tm good rs kn)(h:rs <+: Mj):Ri os tm good Mj kn:=
 ⟨M.ends,λs k e=>(M.so s k e).imp id λ⟨h1,h2⟩=>⟨h1,λn hn=>by
  have:=h2 n hn;have q:=kr n (os s) rs Mj (by rw[this];exact h);rw[q,this]⟩⟩
structure π (os:S->am)(Nx:S->Nat)(tm good:S->Prop)(top:Nat)(p:GP S)(q:GP S):Prop where
 pre:p.1 <+: q.1
 memo:Ri os tm good q.1 q.2
 add:∃more,q.2=p.2++more/\∀e∈more,¬tm e.1/\Nx e.1<=top/\good e.1
structure abp (os:S->am)(s:S)(p:GP S)(r:Nat×GP S):Prop where
 val:cq r.2.2 s=some r.1
 MV:os s=[]->r.1=0/\r.2.1=p.1
 some:os s≠[]->∀n,(∀o∈os s,o.length=n)->lay n (os s) p.1=(r.1,r.2.1)
theorem ug (h:fu a b):a=[]↔b=[]:=by
 constructor
 .intro e;subst e;exact aaj.mpr λo ho=>Mw ((h o).mpr ho) (by simp)
 .intro e;subst e;exact aaj.mpr λo ho=>Mw ((h o).mp ho) (by simp)
theorem mE (W:Way Ms os Nx tm good)(hs:good s)(ht:¬tm s)(hm:Nx s=m+1)(hg:∀d∈Ms s,∀p:GP S,Ri os tm good p.1 p.2->π os Nx tm good m p (g d.2 p).2/\abp os d.2 p (g d.2 p)):
  ∀(ds:List (Int×S)) (p:GP S),(∀d∈ds,d∈Ms s)->Ri os tm good p.1 p.2->π os Nx tm good m p (av g ds p).2/\
   ((av g ds p).1,(av g ds p).2.1)=aG (lay m) (os s) ((ds.filter λd=>!(os d.2).isEmpty).map (·.1)) p.1
 | [],p,_,M=>⟨⟨P7,M,[],by simp[av],λe he=>nomatch he⟩,rfl⟩
 | d::ds,p,hd,M=>by
  obtain⟨G1,A1⟩:=hg d (hd d MO) p M;obtain⟨G2,e2⟩:=mE W hs ht hm hg ds (g d.2 p).2 (λd' h'=>hd d' (Na _ h')) G1.memo;have RC:=W.rest s hs ht d (hd d MO);refine⟨⟨G1.pre.trans G2.pre,G2.memo,?_⟩,?_⟩
  .obtain⟨m1,a1,b1⟩:=G1.add;obtain⟨m2,a2,b2⟩:=G2.add;refine⟨m1++m2,?_,λe he=>(Ny.mp he).elim (b1 e) (b2 e)⟩;show(av g ds (g d.2 p).2).2.2=_;rw[a2,a1,VP]
  .unfold av
   by_cases z:os d.2=[]
   .obtain⟨k0,r0⟩:=A1.MV z;have f:(d::ds).filter (λd=>!(os d.2).isEmpty)=ds.filter λd=>!(os d.2).isEmpty:=by
     rw[aaQ,Mq (by simp[z])]
    rw[f,Mu k0];dsimp only;rw[e2,r0]
   .have f:(d::ds).filter (λd=>!(os d.2).isEmpty)=d::ds.filter λd=>!(os d.2).isEmpty:=by
     rw[aaQ,Mu (by simp[z])]
    have ln:∀o∈os d.2,o.length=m:=λo ho=>by
     have:=W.len s hs ht _ (aY.mp ((RC o).mpr ho));rw[hm,N'] at this;lia
    have L:=A1.some z m ln;have L':lay m (rests d.1 (os s)) p.1=((g d.2 p).1,(g d.2 p).2.1):=by rw[hR m p.1 RC];exact L
    have pos:=C8 m (os d.2) p.1;rw[L] at pos;have pos:1<=(g d.2 p).1:=pos;rw[f,Mq (by lia),Nt];unfold aG;rw[L'];dsimp only;rw[<-e2]
variable {Ms:S->List (Int×S)} in
theorem zc (W:Way Ms os Nx tm good)(hs:good s)(ht:¬tm s):heads (os s)=((Ms s).filter λd=>!(os d.2).isEmpty).map (·.1):=by
 have rise:∀{a b:List Int},a.Pairwise (· < ·)->b.Pairwise (· < ·)->(∀x,x∈a↔x∈b)->a=b:=by
  intro a b ha hb h;have nd:∀{l:List Int},l.Pairwise (· < ·)->l.Nodup:=λh=>h.imp λh e=>by lia
  have p:a.Perm b:=(Zw (nd ha) (nd hb)).mpr h;exact p.eq_of_pairwise (le:=(· < ·)) (λx y _ _ h1 h2=>by lia) ha hb
 refine rise (cz _) ?_ λt=>?_
 .exact(W.rise s hs ht).sublist (VL.map _)
 .rw[bz,Nm];constructor
  .rintro⟨hb,r,hr⟩;obtain⟨s',h'⟩:=W.all s hs ht t r hr;refine⟨(t,s'),O9.mpr ⟨h',?_⟩,rfl⟩;have:=(W.rest s hs ht _ h' r).mp (aY.mpr hr);cases e:os s' with
   | nil=>rw[e] at this;cases this
   | cons a b=>simp[e]
  .rintro⟨d,hd,rfl⟩;obtain⟨hd,ne⟩:=O9.mp hd;refine⟨W.bnd s hs ht d hd,?_⟩;cases e:os d.2 with
   | nil=>rw[e] at ne;cases ne
   | cons r l=>exact⟨r,aY.mp ((W.rest s hs ht d hd r).mpr (by rw[e];exact MO))⟩
theorem vT (W:Way Ms os Nx tm good):∀(n:Nat) (s:S) (p:GP S) (top:Nat),good s->(tm s\/Nx s<=n)->(tm s\/Nx s<=top)->Ri os tm good p.1 p.2->π os Nx tm good top p (aB Ms n s p).2/\abp os s p (aB Ms n s p):=by
 have known:∀{s:S}{p:GP S}{k:Nat}{n:Nat},Ri os tm good p.1 p.2->cq p.2 s=some k->π os Nx tm good n p p/\abp os s p (k,p):=λ{s p k n} M e=>
  ⟨⟨P7,M,[],by simp,λe he=>nomatch he⟩,⟨e,λz=>⟨((M.so s k e).resolve_right λq=>q.1 z).2,rfl⟩,λz n hn=>((M.so s k e).resolve_left λq=>z q.1).2 n hn⟩⟩
 intro n
 induction n with
 | zero=>
  intro s p top hs hl _ M;have ht:tm s:=hl.elim id λh=>Rt λht=>by have:=W.pos s hs ht;lia
  obtain⟨k,e⟩:=TZ.mp (M.ends s hs ht);have r:=known (n:=top) M e;unfold aB;rw[e];exact r
 | succ n ih=>
  intro s p top hs hl NC M;unfold aB;cases e:cq p.2 s with
  | some k=>exact known M e
  | none=>
   have ht:¬tm s:=λht=>by
    have:=M.ends s hs ht;rw[e] at this;cases this
   have hle:Nx s<=n+1:=hl.resolve_left ht;have afD:Nx s<=top:=NC.resolve_left ht;have Tq:=W.pos s hs ht;obtain⟨m,hm⟩:∃m,Nx s=m+1:=⟨Nx s-1,by lia⟩
   obtain⟨G,eD⟩:=mE W hs ht hm (g:=aB Ms n) (λd hd p M=>by
    obtain⟨g',l'⟩:=W.down s hs ht d hd;exact ih d.2 p m g' (l'.imp id λh=>by lia) (l'.imp id λh=>by lia) M) (Ms s) p (λd hd=>hd) M
   rw[<-zc W hs ht] at eD;dsimp only;generalize av (aB Ms n) (Ms s) p=q at G eD ⊢;obtain⟨ds,Mo,kn1⟩:=q;dsimp only at G eD ⊢;have hd1:ds=(aG (lay m) (os s) (heads (os s)) p.1).1:=congrArg (·.1) eD;have Vq:Mo=(aG (lay m) (os s) (heads (os s)) p.1).2:=congrArg (·.2) eD;obtain⟨more,ha,hb⟩:=G.add;dsimp only at ha;have kn:cq kn1 s=none:=by
    rw[ha];exact qG e λx hx z=>by
     have:=(hb x hx).2.1;rw[z] at this;lia
   have adq:∀k,∃mo,kn1++[(s,k)]=p.2++mo/\∀x∈mo,¬tm x.1/\Nx x.1<=top/\good x.1:=λk=>
    ⟨more++[(s,k)],by rw[ha,VP],λx hx=>(Ny.mp hx).elim (λh=>⟨(hb x h).1,by have:=(hb x h).2.1;lia,(hb x h).2.2⟩) λh=>by
     obtain rfl:x=(s,k):=by simpa using h
     exact⟨ht,afD,hs⟩⟩
   have ade:∀(k:Nat) (Mj:List Mg),Mo <+: Mj->((os s=[]/\k=0)\/(os s≠[]/\∀n,(∀o∈os s,o.length=n)->lay n (os s) Mj=(k,Mj)))->Ri os tm good Mj (kn1++[(s,k)]):=λk Mj hp so=>by
    have M2:=G.memo.more hp;refine⟨λx hx tx=>?_,λx kx ex=>?_⟩
    .obtain⟨k',e'⟩:=TZ.mp (M2.ends x hx tx);rw[Bd (Xu _ _) e'];rfl
    .rcases za ex with h|⟨_,rfl,rfl⟩
     .exact M2.so x kx h
     .exact so
   have adr:ds=[]↔os s=[]:=by
    have Qi:ds.length=(heads (os s)).length:=by
     rw[hd1];generalize heads (os s)=ts;generalize p.1=rs
     induction ts generalizing rs with
     | nil=>rfl
     | cons t ts ih=>unfold aG;simp[ih]
    constructor
    .intro z;rw[z] at Qi;have hh:heads (os s)=[]:=SY.mp Qi.symm;refine aaj.mpr λo ho=>?_;have Yv:=W.len s hs ht o ho
     match o,ho,Yv with
     | [],_,Yv=>rw[hm] at Yv;simp at Yv
     | t::r,ho,_=>
      obtain⟨s',h'⟩:=W.all s hs ht t r ho;have:t∈heads (os s):=bz.mpr ⟨W.bnd s hs ht _ h',r,ho⟩;rw[hh] at this;cases this
    .intro z;have hh:heads (os s)=[]:=aaj.mpr λt Ww=>by
      obtain⟨_,r,hr⟩:=bz.mp Ww;rw[z] at hr;cases hr
     rw[hh] at Qi;exact SY.mp Qi
   by_cases z:ds=[]
   .have zo:=adr.mp z;have hr:Mo=p.1:=by
     have hh:heads (os s)=[]:=by rw[zo];decide
     rw[Vq,hh];rfl
    rw[Mu z];exact⟨⟨G.pre,ade 0 Mo P7 (.inl ⟨zo,rfl⟩),adq 0⟩,⟨mD kn,λ_=>⟨rfl,hr⟩,λh=>Mw zo h⟩⟩
   .have zo:os s≠[]:=λh=>z (adr.mpr h);rw[Mq z];have L:∀k,(∀o∈os s,o.length=k)->lay k (os s) p.1=keep Mo ds:=λk hk=>by
     obtain⟨o,l,eo⟩:=TY zo;have h1:=hk o (by rw[eo];exact MO);have h2:=W.len s hs ht o (by rw[eo];exact MO);obtain rfl:k=m+1:=by lia
     unfold lay;rw[<-hd1,<-Vq]
    refine⟨⟨G.pre.trans (gh _ _),ade _ _ (gh _ _) (.inr ⟨zo,λk hk=>?_⟩),adq _⟩,⟨mD kn,λh=>Mw h zo,λ_ k hk=>L k hk⟩⟩;have q:=kr k (os s) p.1 (keep Mo ds).2 (by rw[L k hk];exact P7);rw[q,L k hk]
end
abbrev Sk:=Sum Int (List Int)
abbrev Cl:=List (Int×Int)
def bC (rs:List Mg)(k:Int):am:=Ow rs k.toNat
def bf (rs:List Mg)(k:Int):Mg:=if k=0 then [] else aO rs k
def cS (cl:Cl)(a b:Int):Sk:=if (a<=1\/b<=1)/\(min a 1,min b 1)∉cl then .inl 0 else if a<=1/\b<=1 then .inl 1 else .inr [a,b]
def gy (r1 r2:Mg):List Int:=(bj 8).filter λt=>(r1.map (·.1)).contains t||(r2.map (·.1)).contains t
def fP (cl:Cl)(Mo Mj:List Mg)(a b:Int):List (Int×Sk):=(gy (bf Mo a) (bf Mj b)).map λt=>(t,cS cl (bT (bf Mo a) t) (bT (bf Mj b) t))
def bit (rs:List Mg)(k:Int)(o:List Int):Int:=if o∈bC rs k then 1 else 0
def YT (cl:Cl)(Mo Mj:List Mg)(a b:Int):am:=(bC Mo a++bC Mj b).filter λo=>decide ((bit Mo a o,bit Mj b o)∈cl)
def eA (cl:Cl)(Mo Mj:List Mg):Sk->List (Int×Sk)
 | .inr [a,b]=>fP cl Mo Mj a b
 | _=>[]
def osJ (cl:Cl)(Mo Mj:List Mg):Sk->am
 | .inl k=>if k=1 then [[]] else []
 | .inr [a,b]=>YT cl Mo Mj a b
 | _=>[]
def uh (Mo Mj:List Mg):Sk->Nat
 | .inr [a,b]=>((bC Mo a++bC Mj b).headD []).length
 | _=>0
def P4:Sk->Prop
 | .inl _=>True
 | _=>False
def Rn (rs:List Mg)(k:Int):Prop:=k=0\/(1<=k/\k<(rs.length:Int)+2)
structure Pg (Mo Mj)(a b:Int)(n:Nat):Prop where
 ra:Rn Mo a
 rb:Rn Mj b
 la:∀o∈bC Mo a,o.length=n
 lb:∀o∈bC Mj b,o.length=n
def lq (Mo Mj:List Mg):Sk->Prop
 | .inl k=>k=0\/k=1
 | .inr [a,b]=>a≠1/\b≠1/\¬(a=0/\b=0)/\∃n,Pg Mo Mj a b (n+1)
 | _=>False
section
theorem dE (rs):bC rs 0=[]:=tP rs
theorem hZ (rs):bC rs 1=[[]]:=gL rs
theorem gM (wf:WF rs)(h:1<=k)(hk:k<(rs.length:Int)+2):bC rs k≠[]:=tU wf k.toNat k.toNat (MJ _) (by lia) (by lia)
theorem xa (t:Int):bT [] t=0:=rfl
theorem i8 (wf:WF rs)(h:2<=k)(hk:k<(rs.length:Int)+2):Mg.Ok (k.toNat-2) (aO rs k)/\bC rs k=(aO rs k).flatMap λd=>(bC rs d.2).map (d.1::·):=by
 obtain⟨r,e,ok,es⟩:=j7 wf (k:=k.toNat) (by lia) (by lia);have hr:aO rs k=r:=by
  have:=qB e (by lia);rwa[show((k.toNat:Nat):Int)=k by lia] at this
 rw[hr];exact⟨ok,es⟩
theorem ju (ok:((aO rs k).map (·.1)).Pairwise (· < ·)):(bT (aO rs k) t=m/\(∃d∈aO rs k,d.1=t))↔(t,m)∈aO rs k:=by
 constructor
 .rintro⟨h,d,hd,rfl⟩;unfold bT at h;rw[j6 ok hd] at h;dsimp only at h;subst h;exact hd
 .intro h;refine⟨?_,_,h,rfl⟩;unfold bT;rw[j6 ok h]
theorem iJ (h:∀d∈r,d.1≠t):bT r t=0:=by
 unfold bT;rw[ZG.mpr λd hd=>by simpa using h d hd]
theorem ib (wf:WF rs)(hk:Rn rs k)(h1:k≠1):t::r∈bC rs k↔r∈bC rs (bT (bf rs k) t):=by
 unfold bf;rcases hk with rfl|⟨h0,hk⟩
 .rw[Mu rfl,xa,dE];simp
 .rw[Mq (by lia)];obtain⟨ok,es⟩:=i8 wf (k:=k) (by lia) hk;rw[es,Uc]
  by_cases hd:∃d∈aO rs k,d.1=t
  .obtain⟨d,hd,rfl⟩:=hd;have hb:=((ju ok.rise).mpr hd).1;rw[hb];constructor
   .rintro⟨d',Rk,hm⟩;obtain⟨r',hr',e⟩:=Nm.mp hm;injection e with e1 e2
    subst e2;have:=((ju ok.rise).mpr (show(d.1,d'.2)∈_ by rw[<-e1];exact Rk)).1;rw[hb] at this;rw[this];exact hr'
   .intro hr;exact⟨d,hd,Nm.mpr ⟨r,hr,rfl⟩⟩
  .rw[iJ (λd h e=>hd ⟨d,h,e⟩),dE];constructor
   .rintro⟨d',Rk,hm⟩;obtain⟨r',hr',e⟩:=Nm.mp hm;injection e with e1 e2
    exact Mw ⟨d',Rk,e1⟩ hd
   .intro h;cases h
theorem qH (wf:WF rs)(hk:Rn rs k)(h1:k≠1):Rn rs (bT (bf rs k) t):=by
 unfold bf;rcases hk with rfl|⟨h0,hk⟩
 .exact .inl rfl
 .rw[Mq (by lia)];obtain⟨ok,_⟩:=i8 wf (k:=k) (by lia) hk
  by_cases hd:∃d∈aO rs k,d.1=t
  .obtain⟨d,hd,rfl⟩:=hd;rw[((ju ok.rise).mpr hd).1];have:=ok.ahead d hd;exact .inr ⟨this.1,by lia⟩
  .exact .inl (iJ λd h e=>hd ⟨d,h,e⟩)
theorem gN (c0:(0,0)∉cl):o∈YT cl Mo Mj a b↔(bit Mo a o,bit Mj b o)∈cl:=by
 unfold YT;rw[O9,Ny];constructor
 .intro h;simpa using h.2
 .intro h;refine⟨?_,by simpa using h⟩
  by_cases h1:o∈bC Mo a
  .exact .inl h1
  .by_cases h2:o∈bC Mj b
   .exact .inr h2
   .unfold bit at h;rw[Mq h1,Mq h2] at h;exact Mw h c0
theorem jv (w:WF Mj)(hb:Rn Mj b)(h:∀o∈bC Mj b,o.length=0):b=0\/b=1:=by
 rcases hb with h0|⟨h1,h2⟩
 .exact .inl h0
 .by_cases hb:b=1
  .exact .inr hb
  .exfalso;obtain⟨ok,es⟩:=i8 w (k:=b) (by lia) h2;obtain⟨o,ho⟩:=SX _ (gM w h1 h2);have:=h o ho;rw[es] at ho;obtain⟨d,_,hm⟩:=Uc.mp ho;obtain⟨r,_,e⟩:=Nm.mp hm;rw[<-e] at this;simp at this
theorem Pg.ends (w1:WF Mo)(w2:WF Mj)(P:Pg Mo Mj a b n)(h:a=1\/b=1):n=0/\(a=0\/a=1)/\(b=0\/b=1):=by
 have hn:n=0:=by
  rcases h with rfl|rfl
  .exact(P.la [] (by rw[hZ];simp)).symm
  .exact(P.lb [] (by rw[hZ];simp)).symm
 subst hn;exact⟨rfl,jv w1 P.ra P.la,jv w2 P.rb P.lb⟩
theorem ls (w1:WF Mo)(w2:WF Mj)(c0:(0,0)∉cl)(P:Pg Mo Mj a b n):
  lq Mo Mj (cS cl a b)/\fu (YT cl Mo Mj a b) (osJ cl Mo Mj (cS cl a b))/\(P4 (cS cl a b)\/uh Mo Mj (cS cl a b)=n):=by
 by_cases both:a<=1/\b<=1
 .have ha:a=0\/a=1:=by rcases P.ra with h|h <;> lia
  have hb:b=0\/b=1:=by rcases P.rb with h|h <;> lia
  have ba:∀o,bit Mo a o=if a=1/\o=[] then 1 else 0:=λo=>by
   unfold bit;rcases ha with rfl|rfl
   .rw[dE];simp
   .rw[hZ];simp
  have bb:∀o,bit Mj b o=if b=1/\o=[] then 1 else 0:=λo=>by
   unfold bit;rcases hb with rfl|rfl
   .rw[dE];simp
   .rw[hZ];simp
  have mm:(min a 1,min b 1)=(a,b):=by rw[acI both.1,acI both.2]
  have b0:∀o,(bit Mo a o,bit Mj b o)=if o=[] then (a,b) else (0,0):=λo=>by
   rw[ba,bb]
   by_cases ho:o=[]
   .subst ho;rcases ha with rfl|rfl <;> rcases hb with rfl|rfl <;> rfl
   .simp[ho]
  unfold cS;rw[mm]
  by_cases hc:(a,b)∈cl
  .rw[Mq (λh=>h.2 hc),Mu both];refine⟨.inr rfl,λo=>?_,.inl trivial⟩;rw[gN c0,b0];show _↔o∈[[]]
   by_cases ho:o=[]
   .simp[ho,hc]
   .simp[ho,c0]
  .rw[Mu ⟨.inl both.1,hc⟩];refine⟨.inl rfl,λo=>?_,.inl trivial⟩;rw[gN c0,b0];show _↔o∈[]
   by_cases ho:o=[]
   .simp[ho,hc]
   .simp[ho,c0]
 .have a1:a≠1:=λh=>both (by obtain⟨_,h1,h2⟩:=P.ends w1 w2 (.inl h);lia);have b1:b≠1:=λh=>both (by obtain⟨_,h1,h2⟩:=P.ends w1 w2 (.inr h);lia);have a0:0<=a:=by rcases P.ra with h|h <;> lia
  have b0:0<=b:=by rcases P.rb with h|h <;> lia
  have nn:∃m,n=m+1:=by
   cases n with
   | succ m=>exact⟨m,rfl⟩
   | zero=>
    have h1:=jv w1 P.ra P.la;have h2:=jv w2 P.rb P.lb;exact Mw ⟨by lia,by lia⟩ both
  obtain⟨m,rfl⟩:=nn;unfold cS
  by_cases hc:(a<=1\/b<=1)/\(min a 1,min b 1)∉cl
  .rw[Mu hc];refine⟨.inl rfl,λo=>?_,.inl trivial⟩;rw[gN c0];show _↔o∈[];refine⟨λh=>?_,λh=>by cases h⟩;exfalso;have key:∀x y:Int,(bit Mo a o,bit Mj b o)=(x,y)->(x,y)∈cl:=λx y e=>by rw[<-e];exact h
   rcases hc.1 with ha|hb
   .have ha:a=0:=by lia
    subst ha;have e1:bit Mo 0 o=0:=by unfold bit;rw[dE];simp
    have e2:min b 1=1:=acz (by lia);have e3:min (0:Int) 1=0:=rfl;rw[e2,e3] at hc
    by_cases ho:o∈bC Mj b
    .exact hc.2 (key 0 1 (by rw[e1];unfold bit;rw[Mu ho]))
    .exact c0 (key 0 0 (by rw[e1];unfold bit;rw[Mq ho]))
   .have hb:b=0:=by lia
    subst hb;have e1:bit Mj 0 o=0:=by unfold bit;rw[dE];simp
    have e2:min a 1=1:=acz (by lia);have e3:min (0:Int) 1=0:=rfl;rw[e2,e3] at hc
    by_cases ho:o∈bC Mo a
    .exact hc.2 (key 1 0 (by rw[e1];unfold bit;rw[Mu ho]))
    .exact c0 (key 0 0 (by rw[e1];unfold bit;rw[Mq ho]))
  .rw[Mq hc,Mq both];refine⟨⟨a1,b1,λh=>both (by lia),m,P⟩,λo=>Iff.rfl,.inr ?_⟩;show((bC Mo a++bC Mj b).headD []).length=m+1;have ne:bC Mo a++bC Mj b≠[]:=λe=>by
    obtain⟨h1,h2⟩:=aeg.mp e;have z1:a=0:=Rt λz=>gM w1 (k:=a) (by lia) (P.ra.resolve_left z).2 h1;have z2:b=0:=Rt λz=>gM w2 (k:=b) (by lia) (P.rb.resolve_left z).2 h2;exact both (by lia)
   obtain⟨o,l,e⟩:=TY ne;have ho:o∈bC Mo a++bC Mj b:=by rw[e];exact MO
   rw[e];exact(Ny.mp ho).elim (P.la o) (P.lb o)
theorem ku:t∈gy r1 r2↔(0<=t/\t<8)/\((∃d∈r1,d.1=t)\/(∃d∈r2,d.1=t)):=by
 unfold gy;rw[O9,cP];simp
theorem nZ (r1 r2):(gy r1 r2).Pairwise (· < ·):=by
 have:(bj 8).Pairwise (· < ·):=by decide
 exact this.sublist VL
def n6 (rs:List Mg):Prop:=∀r∈rs,∀d∈r,0<=d.1/\d.1<8
theorem ui (h:n6 rs)(hd:d∈bf rs k):0<=d.1/\d.1<8:=by
 unfold bf at hd
 split at hd
 .cases hd
 .unfold aO at hd;cases e:rs[(k-2).toNat]? with
  | none=>rw[e] at hd;cases hd
  | some r=>rw[e] at hd;exact h r (N1 e) d hd
theorem n8 (wf:WF rs)(hk:Rn rs k)(h1:k≠1)(h:t::r∈bC rs k):∃d∈bf rs k,d.1=t:=by
 rw[ib wf hk h1] at h;refine Rt λhn=>?_;rw[iJ (λd hd e=>hn ⟨d,hd,e⟩),dE] at h;cases h
theorem jw (w1:WF Mo)(w2:WF Mj)(s1:n6 Mo)(s2:n6 Mj)(c0:(0,0)∉cl):Way (eA cl Mo Mj) (osJ cl Mo Mj) (uh Mo Mj) P4 (lq Mo Mj):=by
 have cases:∀s,lq Mo Mj s->¬P4 s->∃a b n,s=.inr [a,b]/\a≠1/\b≠1/\¬(a=0/\b=0)/\Pg Mo Mj a b (n+1):=by
  intro s hg ht
  match s,hg,ht with
  | .inl k,_,ht=>exact Mw trivial ht
  | .inr [a,b],⟨h1,h2,h3,n,P⟩,_=>exact⟨a,b,n,rfl,h1,h2,h3,P⟩
 have lv:∀{a b:Int}{n:Nat},¬(a=0/\b=0)->Pg Mo Mj a b (n+1)->uh Mo Mj (.inr [a,b])=n+1:=by
  intro a b n h3 P;show((bC Mo a++bC Mj b).headD []).length=n+1;have ne:bC Mo a++bC Mj b≠[]:=λe=>by
   obtain⟨h1,h2⟩:=aeg.mp e;have z1:a=0:=Rt λz=>gM w1 (k:=a) (by have:=P.ra.resolve_left z;lia) (P.ra.resolve_left z).2 h1;have z2:b=0:=Rt λz=>gM w2 (k:=b) (by have:=P.rb.resolve_left z;lia) (P.rb.resolve_left z).2 h2;exact h3 ⟨z1,z2⟩
  obtain⟨o,l,e⟩:=TY ne;have ho:o∈bC Mo a++bC Mj b:=by rw[e];exact MO
  rw[e];exact(Ny.mp ho).elim (P.la o) (P.lb o)
 have next:∀{a b:Int}{n:Nat}(t:Int),a≠1->b≠1->Pg Mo Mj a b (n+1)->Pg Mo Mj (bT (bf Mo a) t) (bT (bf Mj b) t) n:=λ{a b n} t h1 h2 P=>
  ⟨qH w1 P.ra h1,qH w2 P.rb h2,λo ho=>by have:=P.la _ ((ib w1 P.ra h1).mpr ho);simpa using this,λo ho=>by have:=P.lb _ ((ib w2 P.rb h2).mpr ho);simpa using this⟩
 refine⟨λs hg ht=>?_,λs hg ht o ho=>?_,λs hg ht d hd=>?_,λs hg ht=>?_,λs hg ht d hd=>?_,λs hg ht d hd=>?_,λs hg ht t r hr=>?_⟩
 .obtain⟨a,b,n,rfl,h1,h2,h3,P⟩:=cases s hg ht;rw[lv h3 P];lia
 .obtain⟨a,b,n,rfl,h1,h2,h3,P⟩:=cases s hg ht;rw[lv h3 P];exact(Ny.mp (O9.mp ho).1).elim (P.la o) (P.lb o)
 .obtain⟨a,b,n,rfl,h1,h2,h3,P⟩:=cases s hg ht;obtain⟨t,_,rfl⟩:=Nm.mp hd;obtain⟨g,_,l⟩:=ls w1 w2 c0 (next t h1 h2 P);exact⟨g,l.imp id λe=>by rw[lv h3 P,e]⟩
 .obtain⟨a,b,n,rfl,h1,h2,h3,P⟩:=cases s hg ht;show((fP cl Mo Mj a b).map (·.1)).Pairwise (· < ·);unfold fP;rw[Z3];have:((λx:Int×Sk=>x.1)∘λt=>(t,cS cl (bT (bf Mo a) t) (bT (bf Mj b) t)))=id:=rfl;rw[this,List.map_id];exact nZ _ _
 .obtain⟨a,b,n,rfl,h1,h2,h3,P⟩:=cases s hg ht;obtain⟨t,ht,rfl⟩:=Nm.mp hd;exact(ku.mp ht).1
 .obtain⟨a,b,n,rfl,h1,h2,h3,P⟩:=cases s hg ht;obtain⟨t,ht,rfl⟩:=Nm.mp hd;obtain⟨_,l,_⟩:=ls w1 w2 c0 (next t h1 h2 P);intro r;rw[<-l r,aY];show t::r∈YT cl Mo Mj a b↔_;rw[gN c0,gN c0];have e1:bit Mo a (t::r)=bit Mo (bT (bf Mo a) t) r:=by unfold bit;simp only[ib w1 P.ra h1]
  have e2:bit Mj b (t::r)=bit Mj (bT (bf Mj b) t) r:=by unfold bit;simp only[ib w2 P.rb h2]
  rw[e1,e2]
 .obtain⟨a,b,n,rfl,h1,h2,h3,P⟩:=cases s hg ht;have key:t∈gy (bf Mo a) (bf Mj b):=by
   rw[ku];rcases Ny.mp ((O9.mp hr).1) with h|h
   .have k:=n8 w1 P.ra h1 h;obtain⟨d,hd,rfl⟩:=k;exact⟨ui s1 hd,.inl ⟨d,hd,rfl⟩⟩
   .have k:=n8 w2 P.rb h2 h;obtain⟨d,hd,rfl⟩:=k;exact⟨ui s2 hd,.inr ⟨d,hd,rfl⟩⟩
  exact⟨_,Nm.mpr ⟨t,key,rfl⟩⟩
end
section
variable {S:Type} [DecidableEq S] {Ms:S->List (Int×S)}
theorem iD {g:S->GP S->Nat×GP S}(hg:∀s p,p.1 <+: (g s p).2.1/\p.2 <+: (g s p).2.2):∀ds p,p.1 <+: (av g ds p).2.1/\p.2 <+: (av g ds p).2.2
 | [],_=>⟨P7,P7⟩
 | d::ds,p=>⟨(hg d.2 p).1.trans (iD hg ds _).1,(hg d.2 p).2.trans (iD hg ds _).2⟩
theorem uj:∀(n:Nat) (s:S) (p:GP S),p.1 <+: (aB Ms n s p).2.1/\p.2 <+: (aB Ms n s p).2.2
 | 0,_,_=>⟨P7,P7⟩
 | n+1,s,p=>by
  have h:=iD (uj n) (Ms s) p;unfold aB
  split
  .exact⟨P7,P7⟩
  .split
   .exact⟨h.1,h.2.trans (Xu _ _)⟩
   .exact⟨h.1.trans (gh _ _),h.2.trans (Xu _ _)⟩
theorem Be (rs)(r):(keep rs r).2.length<=rs.length+1:=by
 rcases dg rs r with e|⟨_,e,_⟩
 .rw[e];lia
 .rw[e];simp
theorem qI {g:S->GP S->Nat×GP S}(hg:∀s p,(g s p).2.1.length<=p.1.length+b/\(g s p).2.2.length<=p.2.length+b):∀ds p,(av g ds p).2.1.length<=p.1.length+ds.length*b/\(av g ds p).2.2.length<=p.2.length+ds.length*b
 | [],p=>⟨by show p.1.length<=_;lia,by show p.2.length<=_;lia⟩
 | d::ds,p=>by
  have h1:=hg d.2 p;have h2:=qI hg ds (g d.2 p).2;have e:(d::ds).length*b=ds.length*b+b:=by rw[N',Nat.add_mul];lia
  rw[e];exact⟨by show(av g ds (g d.2 p).2).2.1.length<=_;lia,by show(av g ds (g d.2 p).2).2.2.length<=_;lia⟩
theorem uk (hd:∀s,(Ms s).length<=8):∀(n:Nat) (s:S) (p:GP S),(aB Ms n s p).2.1.length<=p.1.length+9 ^ n/\(aB Ms n s p).2.2.length<=p.2.length+9 ^ n
 | 0,_,p=>⟨by show p.1.length<=_;lia,by show p.2.length<=_;lia⟩
 | n+1,s,p=>by
  have h:=qI (uk hd n) (Ms s) p;have h8:=hd s;have hm:(Ms s).length*9 ^ n<=8*9 ^ n:=VG _ h8;have hp:9 ^ (n+1)=9*9 ^ n:=by rw[Nat.pow_succ,Nat.mul_comm]
  have h1:1<=9 ^ n:=Nat.one_le_pow _ _ (by lia);unfold aB
  split
  .exact⟨by show p.1.length<=_;lia,by show p.2.length<=_;lia⟩
  .split
   .refine⟨by dsimp only;lia,?_⟩;dsimp only;rw[NQ];simp only[N',Ud];lia
   .have k:=Be (av (aB Ms n) (Ms s) p).2.1 (av (aB Ms n) (Ms s) p).1;refine⟨by dsimp only;lia,?_⟩;dsimp only;rw[NQ];simp only[N',Ud];lia
end
theorem zd (cl)(Mo Mj)(a b:Int):(fP cl Mo Mj a b).length<=8:=by
 unfold fP gy;rw[Ng];exact OT (ZC _ _) (by decide)
theorem Bf (cl)(Mo Mj):∀s,(eA cl Mo Mj s).length<=8
 | .inr [a,b]=>zd cl Mo Mj a b
 | .inl _=>by simp[eA]
 | .inr []=>by simp[eA]
 | .inr [_]=>by simp[eA]
 | .inr (_::_::_::_)=>by simp[eA]
def SO:List (Sk×Nat):=[(.inl 0,0),(.inl 1,1)]
theorem BV (h0:os (.inl 0)=[])(h1:os (.inl 1)=[[]])(hg:∀k,good (.inl k)->k=0\/k=1):Ri os P4 good [] SO where
 ends:=λs hs ht=>by
  match s,hs,ht with
  | .inl k,hs,_=>
   rcases hg k hs with rfl|rfl <;> rfl
 so:=λs k e=>by
  unfold cq SO at e
  by_cases z0:s=.inl 0
  .subst z0;simp at e;exact .inl ⟨h0,e.symm⟩
  .by_cases z1:s=.inl 1
   .subst z1;simp at e;subst e;rw[h1];refine .inr ⟨by simp,λn hn=>?_⟩;have:n=0:=(hn [] (by simp)).symm;subst this;rfl
   .have n0:decide ((Oy 0:Sk)=s)=false:=M4 λh=>z0 h.symm;have n1:decide ((Oy 1:Sk)=s)=false:=M4 λh=>z1 h.symm;rw[VF (by simp[n0]),VF (by simp[n1])] at e;cases e
def eP (Ms:Sk->List (Int×Sk))(n:Nat)(s:Sk):List Mg×Nat:=((aB Ms n s ([],SO)).2.1,(aB Ms n s ([],SO)).1)
theorem ze (W:Way Ms os Nx P4 good)(h0:os (.inl 0)=[])(h1:os (.inl 1)=[[]])(hg:∀k,good (.inl k)->k=0\/k=1)(hs:good s)(hl:P4 s\/Nx s<=n)(RC:fu (os s) os')(len:∀o∈os',o.length=many):eP Ms n s=if os'=[] then ([],0) else ((lay many os' []).2,(lay many os' []).1):=by
 obtain⟨_,A⟩:=vT W n s ([],SO) n hs hl hl (BV h0 h1 hg);unfold eP
 by_cases z:os'=[]
 .obtain⟨e1,e2⟩:=A.MV ((ug RC).mpr z);rw[Mu z,e1,e2]
 .have e:=A.some (λq=>z ((ug RC).mp q)) many λo ho=>len o ((RC o).mp ho);have e:lay many (os s) []=_:=e;rw[Mq z,<-hR many [] RC,e]
end Bk
namespace Bk
theorem n9 {S:Type}[DecidableEq S]{g:S->GP S->Nat×GP S}{d:Int×S}:∀(ds:List (Int×S)) (p:GP S),av g (ds++[d]) p=(if (g d.2 (av g ds p).2).1=0 then (av g ds p).1 else (av g ds p).1++[(d.1,((g d.2 (av g ds p).2).1:Int))],(g d.2 (av g ds p).2).2)
 | [],p=>by
  show av g [d] p=_;unfold av av;dsimp only
  by_cases h:(g d.2 p).1=0
  .rw[Mu h];simp[av,h]
  .rw[Mq h];simp[av,h]
 | e::ds,p=>by
  rw[List.cons_append];unfold av;rw[n9 ds];dsimp only
  by_cases h:(g d.2 (av g ds (g e.2 p).2).2).1=0 <;> by_cases h2:(g e.2 p).1=0 <;> simp[h,h2]
theorem qK {S:Type}[DecidableEq S]{g:S->GP S->Nat×GP S}:∀(a b:List (Int×S)) (p:GP S),(av g (a++b) p).2=(av g b (av g a p).2).2
 | [],_,_=>rfl
 | d::a,b,p=>qK a b (g d.2 p).2
theorem xf {S:Type}[DecidableEq S]{Ms:S->List (Int×S)}{n:Nat}{ds:List (Int×S)}{p:GP S}(i:Nat):(av (aB Ms n) (ds.take i) p).2.1.length<=(av (aB Ms n) ds p).2.1.length/\(av (aB Ms n) (ds.take i) p).2.2.length<=(av (aB Ms n) ds p).2.2.length:=by
 have e:=qK (g:=aB Ms n) (ds.take i) (ds.drop i) p;rw[T9] at e;rw[e];have h:=iD (uj (Ms:=Ms) n) (ds.drop i) (av (aB Ms n) (ds.take i) p).2;exact⟨h.1.length_le,h.2.length_le⟩
theorem qL {S:Type}[DecidableEq S]{g:S->GP S->Nat×GP S}:∀(ds:List (Int×S)) (p:GP S),(av g ds p).1.length<=ds.length
 | [],_=>MJ _
 | d::ds,p=>by
  have:=qL (g:=g) ds (g d.2 p).2;unfold av;dsimp only
  split
  .simp;lia
  .simp;lia
end Bk
namespace Ord
open PySem L2 Mx
abbrev lu:Mv:=top 33
abbrev oh:Mv:=top 32
def bv (as:List D')(H H':Hp):Prop:=∀b o,b∉as->H b=some o->H' b=some o
def dm (H:Hp)(as:List D'):Prop:=∀a∈as,∃o,H a=some o/\eW o
section
theorem bv.refl:bv as H H:=λ_ _ _ e=>e
theorem bv.trans (s:bv as H H')(s':bv as H' Qg):bv as H Qg:=λb o h e=>s' b o h (s b o h e)
theorem bv.wide (s:bv as H H')(h:∀a∈as,a∈bs):bv bs H H':=λb o n e=>s b o (λz=>n (h b z)) e
theorem bv.ofS (s:dh lr dn H H'):bv [lr,dn] H H':=λb o n e=>s b o (λz=>n (by simp[z])) (λz=>n (by simp[z])) e
theorem bv.OG (s:bv as H H')(so:dm H as)(h:MR K H a xs):MR K H' a xs:=by
 rcases h with(h|⟨o,h⟩)|h
 .exact .inl (.inl (s _ _ (λz=>by obtain⟨u,e,f⟩:=so _ z;rw[h] at e;cases e;exact f) h))
 .exact .inl (.inr ⟨o,s _ _ (λz=>by obtain⟨u,e,f⟩:=so _ z;rw[h] at e;cases e;exact f) h⟩)
 .exact .inr h
theorem bv.sk (s:bv as H H')(so:dm H as):∀{k:SK},cF K H y k->cF K H' y k
 | .inl _,h=>h
 | .inr _,h=>by
  obtain⟨p,rfl,q⟩:=cj h;exact cg (s.OG so q)
theorem bv.door (s:bv as H H')(so:dm H as)(h:cK K H y d):cK K H' y d:=let ⟨p,e,q⟩:=h;⟨p,e,s.OG so q⟩
theorem bv.base (s:bv as H H')(s0:ar H0 H)(h:∀a∈as,H0 a=none):ar H0 H':=λb o e=>s b o (λz=>by rw[h b z] at e;cases e) (s0 b o e)
structure Q6 (K)(H)(dk)(kn):Prop where
 ex:∃L:KL,H dk=some (O8 dk L)/\iC K H L/\MC (λ(e:SK×V×Int) (p:SK×Nat)=>e.1=p.1/\e.2.2=(p.2:Int)) L kn
theorem ky:∀{L:KL}{kn:List (SK×Nat)},MC (λ(e:SK×V×Int) (p:SK×Nat)=>e.1=p.1/\e.2.2=(p.2:Int)) L kn->fz L s=(Bk.cq kn s).map λn=>(n:Int)
 | _,_,.nil=>rfl
 | e::L,p::kn,.cons r t=>by
  obtain⟨k1,v1,n1⟩:=e;obtain⟨k2,n2⟩:=p;obtain⟨h1,h2⟩:=r;dsimp only at h1 h2;subst h1 h2
  by_cases z:k1=s
  .subst z;simp[fz,Bk.cq]
  .have ih:=ky (s:=s) t;simp only[fz,Bk.cq] at ih ⊢;rw[VF (by simpa using z),VF (by simpa using z)];exact ih
def i9 (K:Mi)(H:Hp)(y:V)(d:Int×SK):Prop:=∃p lv,y=.ref p/\MR K H p [.int d.1,lv]/\cF K H lv d.2
theorem i9.same (s:ar H H')(h:i9 K H y d):i9 K H' y d:=let ⟨p,lv,e,q,r⟩:=h;⟨p,lv,e,s.Oq q,r.mono s⟩
theorem Q6.same (s:ar H H')(h:Q6 K H dk kn):Q6 K H' dk kn:=let ⟨L,e,k,p⟩:=h.ex;⟨L,s _ _ e,λx hx=>(k x hx).mono s,p⟩
theorem Q6.adf (s:bv as H H')(so:dm H as)(n:dk∉as)(h:Q6 K H dk kn):Q6 K H' dk kn:=let ⟨L,e,k,p⟩:=h.ex;⟨L,s _ _ n e,λx hx=>s.sk so (k x hx),p⟩
theorem Px.aby (h:Px K C H x lr dn rs):dm H [lr,dn]:=by
 obtain⟨dx,xs,L,h1,h2,h3,h4,h5,h6⟩:=h.ex;intro a ha;rcases M0.mp ha with rfl|ha
 .exact⟨_,h2,trivial⟩
 .obtain rfl:a=dn:=by simpa using ha
  exact⟨_,h4,trivial⟩
theorem Q6.ae8 (h:Q6 K H dk kn):∃o,H dk=some o/\eW o:=let ⟨_,e,_⟩:=h.ex;⟨_,e,trivial⟩
end
section
def lx (K:Mi)(H0:Hp)(Ms:SK->List (Int×SK))(good:SK->Prop):Sp:=λvs H Q _=>∃(v:V) (s:SK),vs=[v]/\ar H0 H/\cF K H v s/\good s/\¬Bk.P4 s/\∀(l:D') (ys:List V) (H':Hp),ar H H'->H l=none->H' l=some (.lst ys)->MC (i9 K H') ys (Ms s)->Q (.ref l) H'
def oj (K:Mi)(C:D')(H0:Hp)(fl:D')(Ms:SK->List (Int×SK))(os:SK->Bk.am)(Nx:SK->Nat)(good:SK->Prop)(n:Nat):Sp:=λvs H Q _=>∃(x lr dn dk:D') (v:V) (s:SK) (rs:List Bk.Mg) (kn:List (SK×Nat)),
 vs=[.ref x,v,.ref fl,.ref dk]/\Px K C H x lr dn rs/\Q6 K H dk kn/\cF K H v s/\ar H0 H/\H0 lr=none/\H0 dn=none/\H0 dk=none/\dk≠dn/\good s/\(Bk.P4 s\/Nx s<=n)/\Bk.Ri os Bk.P4 good rs kn/\
 (Bk.aB Ms n s (rs,kn)).2.1.length<1000/\(Bk.aB Ms n s (rs,kn)).2.2.length<100000/\
 ∀H',bv [lr,dn,dk] H H'->Px K C H' x lr dn (Bk.aB Ms n s (rs,kn)).2.1->Q6 K H' dk (Bk.aB Ms n s (rs,kn)).2.2->Q (.int ((Bk.aB Ms n s (rs,kn)).1:Nat)) H'
abbrev BW:List Me:=["shelf","state","doors_from","known","doors","thing","later","number"]
theorem kz:NE BW ["shelf","state","doors_from","known"] (ak lu):=⟨rfl,rfl,rfl,by decide +kernel,rfl,by decide +kernel,by decide +kernel⟩
variable {os:SK->Bk.am} in
theorem qM (W:Bk.Way Ms os Nx Bk.P4 good)(hs:good s)(ht:¬Bk.P4 s)(hl:Nx s<=n+1)(M:Bk.Ri os Bk.P4 good p.1 p.2)(ds:List (Int×SK))(hd:∀d∈ds,d∈Ms s):
  Bk.Ri os Bk.P4 good (Bk.av (Bk.aB Ms n) ds p).2.1 (Bk.av (Bk.aB Ms n) ds p).2.2/\(Bk.cq p.2 s=none->Bk.cq (Bk.av (Bk.aB Ms n) ds p).2.2 s=none):=by
 have Tq:=W.pos s hs ht;obtain⟨m,hm⟩:∃m,Nx s=m+1:=⟨Nx s-1,by lia⟩
 obtain⟨G,_⟩:=Bk.mE W hs ht hm (g:=Bk.aB Ms n) (λd hd p M=>by
  obtain⟨g',l'⟩:=W.down s hs ht d hd;exact Bk.vT W n d.2 p m g' (l'.imp id λh=>by lia) (l'.imp id λh=>by lia) M) ds p hd M
 refine⟨G.memo,λe=>?_⟩;obtain⟨more,ha,hb⟩:=G.add;rw[ha];exact Bk.qG e λx hx z=>by
  have:=(hb x hx).2.1;rw[z] at this;lia
variable {P:MD}{w:Mt}{K:Mi}{mg:Me->Option G'}{base:Mp}{CO:D'}{C:D'}{Ms:SK->List (Int×SK)}{os:SK->Bk.am}{Nx:SK->Nat}{good:SK->Prop} in
theorem um {f fk fl:D'}{fd Q7 RK:MY}{ol:Mc}{H0:Hp}{kl:Nat}{xl:Me}(W:Bk.Way Ms os Nx Bk.P4 good)(SE:∀s,(Ms s).length<=8)(F:Nh K "grow" "grow" lu f fd)(T:N9 K mg CO)(c:SM K C)(mk:Up K C "keep" fk)(Fk:MU P w K mg base MM 1 fk Q7 ["self","room"] (i6 K C))(bk:bK K Q7 ["self","room"] [])(FL:MU P w K mg base MM kl fl RK [xl] (lx K H0 Ms good))(UG:base.get? fl=some ol)(UJ:ol.data=.func RK)(bl:∀us:List G',us.length=[xl].length->bindArgs RK ⟨us,[]⟩=pure ([xl].zip us))(n:Nat)(WS:∀m,n=m+1->Df P w K mg base MM (m+kl+2) "grow" ["shelf","state","doors_from","known"] (oj K C H0 fl Ms os Nx good m)):MU P w K mg base MM (n+kl+2) f fd ["shelf","state","doors_from","known"] (oj K C H0 fl Ms os Nx good n):=by
 refine F.ok kz (λvs H Q E h=>?_) (λMB A outer s H vs Q E hr h=>?_)
 .obtain⟨x,lr,dn,dk,v,st,rs,kn,rfl,_⟩:=h;rfl
 obtain⟨x,lr,dn,dk,v,st,rs,kn,rfl,S,KA,rv,s0,f1,f2,f3,kdn,gd,lv,M,Yk,U8,z⟩:=h;obtain⟨t0,m0⟩:=T.no;obtain⟨L,QR,Wz,pk⟩:=KA.ex;have vk:=ky (s:=st) pk;have hu:(cH MM P w K mg base BW "grow" (ak lu) f MB A outer s H E).Qt.A.units+1<MQ:=by have:=hr.un;show(A.deeper _).units+1<MQ;lia
 cases ek:Bk.cq kn st with
 | some k=>
  have eg:Bk.aB Ms n st (rs,kn)=(k,(rs,kn)):=by
   cases n with
   | zero=>unfold Bk.aB;dsimp only;rw[ek];rfl
   | succ n=>unfold Bk.aB;dsimp only;rw[ek]
  rw[eg] at z;refine⟨_,af (aQ (ay (show Nr _ _ (pC K) from qF hu) (pv 1) (pv 3) rfl) (af aZ (af aZ (al aZ))) az) (al (aM (vQ hu (pv 3) (pv 1) (λ_ _=>rfl)))),?_⟩;refine⟨_,rfl,_,rfl,dk,L,st,rfl,QR,Wz,rv,_,rfl,?_⟩;rw[vk,ek];exact aK ⟨_,rfl,_,rfl,dk,L,st,_,rfl,QR,Wz,rv,by rw[vk,ek];rfl,z H bv.refl S KA⟩
 | none=>
  have ht:¬Bk.P4 st:=λt=>by
   have:=M.ends st gd t;rw[ek] at this;cases this
  have hle:=lv.resolve_left ht;have Tq:=W.pos st gd ht;cases n with
  | zero=>lia
  | succ n=>
  have D:=WS n rfl;have eg:Bk.aB Ms (n+1) st (rs,kn)=if (Bk.av (Bk.aB Ms n) (Ms st) (rs,kn)).1=[] then (0,((Bk.av (Bk.aB Ms n) (Ms st) (rs,kn)).2.1,(Bk.av (Bk.aB Ms n) (Ms st) (rs,kn)).2.2++[(st,0)]))
    else ((Bk.keep (Bk.av (Bk.aB Ms n) (Ms st) (rs,kn)).2.1 (Bk.av (Bk.aB Ms n) (Ms st) (rs,kn)).1).1,((Bk.keep (Bk.av (Bk.aB Ms n) (Ms st) (rs,kn)).2.1 (Bk.av (Bk.aB Ms n) (Ms st) (rs,kn)).1).2,(Bk.av (Bk.aB Ms n) (Ms st) (rs,kn)).2.2++[(st,(Bk.keep (Bk.av (Bk.aB Ms n) (Ms st) (rs,kn)).2.1 (Bk.av (Bk.aB Ms n) (Ms st) (rs,kn)).1).1)])):=by
   rw[Bk.aB];dsimp only;rw[ek]
  have b12:(Bk.av (Bk.aB Ms n) (Ms st) (rs,kn)).2.1.length<1000/\(Bk.av (Bk.aB Ms n) (Ms st) (rs,kn)).2.2.length<100000:=by
   rw[eg] at Yk U8
   split at Yk
   .rename_i hz;rw[Mu hz] at U8;dsimp only at Yk U8;rw[NQ] at U8;exact⟨Yk,by lia⟩
   .rename_i hz;rw[Mq hz] at U8;dsimp only at Yk U8;rw[NQ] at U8;have:=(Bk.gh (Bk.av (Bk.aB Ms n) (Ms st) (rs,kn)).2.1 (Bk.av (Bk.aB Ms n) (Ms st) (rs,kn)).1).length_le;exact⟨by lia,by lia⟩
  refine⟨_,af (aQ (ay (show Nr _ _ (pC K) from qF hu) (pv 1) (pv 3) rfl)
   (af (aA (i:=4) kz.nd rfl (by first|exact MX rfl|exact NR rfl) (bt ae))
   (af (ed Tb rfl (cu (Ba (i:=2) FL (hr.mono (by lia)) UG UJ rfl (by first|exact MX rfl|exact NR (MX rfl)) bl (aX (E:=λ_ _ _ _=>False)) (ac (pv 1) ae)))
     (xR rfl (je (cB (i:=5) kz.nd rfl (by first|exact MX rfl|exact NR rfl)) (je (cB (i:=6) kz.nd rfl (by first|exact MX rfl|exact NR rfl)) vd)))
    (af (aA (i:=7) kz.nd rfl (by first|exact MX rfl|exact NR rfl) (aF D (hr.mono (by lia)) rfl (aX (E:=λ_ _ _ _=>False)) (ac (pv 0) (ac (pv 6) (ac (pv 2) (ac (pv 3) ae))))))
    (al (aQ (ay dW (pv 7) (aH (v:=.int 0) rfl m0 ⟨t0,rfl⟩) (aI _))
     (al (bA (eG RW T7 T8 cZ (pv 4) (ac (cb (ac (pv 5) (ac (pv 7) ae))) ae)))) az))))
   (al (C7 hu (pv 3) (pv 1) (jd (ay Hx (aE bh rfl T.t.len dc (ac (pv 4) ae)) ap (aI _))
    (vi (pv 0) c.cls mk Fk (hr.mono (by lia)) bk .nil nh (ac (bp cU rfl T.t.tuple dM (ac (pv 4) ae)) ae)) (aH (v:=.int 0) rfl m0 ⟨t0,rfl⟩)) rfl)))) az)
   (al (aM (vQ hu (pv 3) (pv 1) (λ_ _=>rfl)))),?_⟩
  refine⟨_,rfl,_,rfl,dk,L,st,rfl,QR,Wz,rv,_,rfl,?_⟩;rw[vk,ek];refine aV ⟨by show 0<=Mz;decide,λg hg=>?_⟩;have s1:=ai hg (.lst []);refine⟨rfl,_,rfl,v,st,rfl,s0.trans s1,rv.mono s1,gd,ht,λl ys Hd sd hl hly pd=>?_⟩;have Sm:=s1.trans sd;obtain⟨dx,rx,NL,hx,NG,prs,N0,age,nl⟩:=S.ex;have ng:∀a o,H a=some o->a≠g:=λa o e=>aq e hg;have Wx:∀a o,H a=some o->a≠l:=λa o e=>aq (s1 _ _ e) hl;have gl:g≠l:=aq ag hl;have YU:Hd g=some (.lst []):=sd _ _ ag;have dl:=pd.length;have d8:=SE st;refine⟨l,rfl,⟨_,MA.of hly⟩,e9 (K:=K) (a:=l) (xs:=ys) (λi σ H2=>∃v5 v6 v7 ds,σ=[some (.ref x),some v,some (.ref fl),some (.ref dk),some (.ref g),v5,v6,v7]/\bv [lr,dn,dk,g] Hd H2/\H2 g=some (.lst ds)/\MC (cK K H2) ds (Bk.av (Bk.aB Ms n) ((Ms st).take i) (rs,kn)).1/\
   Px K C H2 x lr dn (Bk.av (Bk.aB Ms n) ((Ms st).take i) (rs,kn)).2.1/\Q6 K H2 dk (Bk.av (Bk.aB Ms n) ((Ms st).take i) (rs,kn)).2.2) ⟨none,none,none,[],rfl,bv.refl,YU,.nil,S.same Sm,KA.same Sm⟩ ?_ ?_ ?_⟩
  .rintro i σ H2 _ ⟨v5,v6,v7,ds,rfl,s2,_⟩;refine MA.of (s2 _ _ ?_ hly);intro z;simp only[M0,QC,or_false] at z;rcases z with z|z|z|z
   .exact Wx lr _ NG z.symm
   .exact Wx dn _ N0 z.symm
   .exact Wx dk _ QR z.symm
   .exact gl z.symm
  .rintro i y σ H2 hy ⟨v5,v6,v7,ds,rfl,s2,hg2,WE,S2,K2⟩;obtain⟨⟨t,s'⟩,hd,p,lvv,rfl,qd,rl⟩:=cp pd hy;have mem:=N1 hd;obtain⟨g',l'⟩:=W.down st gd ht _ mem;have aaf:dm Hd [lr,dn,dk,g]:=λa ha=>by
    simp only[M0,QC,or_false] at ha;rcases ha with rfl|rfl|rfl|rfl
    .exact⟨_,Sm _ _ NG,trivial⟩
    .exact⟨_,Sm _ _ N0,trivial⟩
    .exact⟨_,Sm _ _ QR,trivial⟩
    .exact⟨_,YU,trivial⟩
   have qd2:MR K H2 p [.int t,lvv]:=s2.OG aaf qd;have rl2:cF K H2 lvv s':=s2.sk aaf rl;obtain⟨M2,_⟩:=qM W (n:=n) (p:=(rs,kn)) gd ht hle M ((Ms st).take i) (λd hd=>aaD hd);have sn:=Bk.n9 (g:=Bk.aB Ms n) (d:=(t,s')) ((Ms st).take i) (rs,kn);rw[<-bU hd] at sn;have tk:=Bk.xf (Ms:=Ms) (n:=n) (ds:=Ms st) (p:=(rs,kn)) (i+1);rw[sn] at tk;dsimp only at tk;have s02:ar H0 H2:=s2.base (s0.trans Sm) λa ha=>by
    simp only[M0,QC,or_false] at ha;rcases ha with rfl|rfl|rfl|rfl
    .exact f1
    .exact f2
    .exact f3
    .exact s0.free hg
   refine⟨p,_,rfl,qd2,rfl,_,_,rfl,_,_,rfl,rfl,?_⟩;refine⟨_,rfl,_,rfl,_,rfl,_,rfl,x,lr,dn,dk,lvv,s',_,_,rfl,S2,K2,rl2,s02,f1,f2,f3,kdn,g',l'.imp id (λh=>by dsimp only at h;lia),M2,(show(Bk.aB Ms n s' (Bk.av (Bk.aB Ms n) ((Ms st).take i) (rs,kn)).2).2.1.length<1000 by lia),(show(Bk.aB Ms n s' (Bk.av (Bk.aB Ms n) ((Ms st).take i) (rs,kn)).2).2.2.length<100000 by lia),λH5 s5 S5 K5=>?_⟩;have so2:dm H2 [lr,dn,dk]:=λa ha=>by
    simp only[M0,QC,or_false] at ha;rcases ha with rfl|rfl|rfl
    .exact S2.aby _ (by simp)
    .exact S2.aby _ (by simp)
    .exact K2.ae8
   have ngs:g∉[lr,dn,dk]:=λz=>by
    simp only[M0,QC,or_false] at z;rcases z with z|z|z
    .exact ng lr _ NG z.symm
    .exact ng dn _ N0 z.symm
    .exact ng dk _ QR z.symm
   have WG:H5 g=some (.lst ds):=s5 _ _ ngs hg2;have ads:=aD (λ_ _ z=>s5.door so2 z) WE;refine⟨_,rfl,rfl,_,rfl,?_⟩
   by_cases zr:(Bk.aB Ms n s' (Bk.av (Bk.aB Ms n) ((Ms st).take i) (rs,kn)).2).1=0
   .rw[zr];refine aK ⟨_,_,_,ds,rfl,s2.trans (s5.wide (by simp)),WG,?_,?_,?_⟩
    .rw[sn,Mu zr];exact ads
    .rw[sn];exact S5
    .rw[sn];exact K5
   .rw[M4 (λh=>zr (by have e:((Bk.aB Ms n s' (Bk.av (Bk.aB Ms n) ((Ms st).take i) (rs,kn)).2).1:Int)=0:=V.int.inj h;lia))];refine aV ⟨_,rfl,.inl ⟨rfl,_,.inl (.inl WG)⟩,_,rfl,_,rfl,by show 2<=Mz;decide,λtq UL=>?_⟩;have s6:=ai UL (.tup [V.int t,V.int ((Bk.aB Ms n s' (Bk.av (Bk.aB Ms n) ((Ms st).take i) (rs,kn)).2).1:Nat)]);have lds:ds.length<=8:=by
     have h1:=WE.length;have h2:=Bk.qL (g:=Bk.aB Ms n) ((Ms st).take i) (rs,kn);rw[Ph] at h2;lia
    refine⟨g,ds,.ref tq,rfl,rfl,s6 _ _ WG,by rw[Nf];lia,_,_,_,ds++[.ref tq],rfl,?_,ag,?_,?_,?_⟩
    .intro b o hb e;rw[ao (λz=>hb (by simp[z]))];exact s6 _ _ (s5 _ _ (λz=>hb (by simp only[M0] at z ⊢;rcases z with z|z|z|z <;> simp_all)) (s2 b o hb e))
    .have s7:bv [g] (upd H5 tq (.tup [V.int t,V.int ((Bk.aB Ms n s' (Bk.av (Bk.aB Ms n) ((Ms st).take i) (rs,kn)).2).1:Nat)])) (upd (upd H5 tq (.tup [V.int t,V.int ((Bk.aB Ms n s' (Bk.av (Bk.aB Ms n) ((Ms st).take i) (rs,kn)).2).1:Nat)])) g (.lst (ds++[.ref tq]))):=λb o hb e=>by
      rw[ao (λz=>hb (by simp[z]))];exact e
     have WH:dm (upd H5 tq (.tup [V.int t,V.int ((Bk.aB Ms n s' (Bk.av (Bk.aB Ms n) ((Ms st).take i) (rs,kn)).2).1:Nat)])) [g]:=λa ha=>by
      obtain rfl:a=g:=by simpa using ha
      exact⟨_,s6 _ _ WG,trivial⟩
     rw[sn,Mq zr];exact cJ (aD (λ_ _ z=>s7.door WH (z.same s6)) ads) (.cons ⟨tq,rfl,s7.OG WH MR.up⟩ .nil)
    .rw[sn];exact(S5.same s6).upd (s6 _ _ WG) trivial (ng x _ hx) (ng lr _ NG) (ng dn _ N0)
    .rw[sn];refine(K5.same s6).adf (as:=[g]) (λb o hb e=>?_) (λa ha=>?_) (λz=>ng dk _ QR (by simpa using z))
     .rw[ao (λz=>hb (by simp[z]))];exact e
     .obtain rfl:a=g:=by simpa using ha
      exact⟨_,s6 _ _ WG,trivial⟩
  .rintro σ H2 ⟨v5,v6,v7,ds,rfl,s2,hg2,WE,S2,K2⟩;rw[dl,QB] at WE S2 K2;obtain⟨_,YV⟩:=qM W (n:=n) (p:=(rs,kn)) gd ht hle M (Ms st) (λd hd=>hd);have YV:=YV ek;obtain⟨L2',agf,af6,pk2⟩:=K2.ex;have aaf:dm Hd [lr,dn,dk,g]:=λa ha=>by
    simp only[M0,QC,or_false] at ha;rcases ha with rfl|rfl|rfl|rfl
    .exact⟨_,Sm _ _ NG,trivial⟩
    .exact⟨_,Sm _ _ N0,trivial⟩
    .exact⟨_,Sm _ _ QR,trivial⟩
    .exact⟨_,YU,trivial⟩
   have rv2:cF K H2 v st:=s2.sk aaf (rv.mono Sm);have kl:L2'.length<Mz:=by have:=pk2.length;rw[Nf];lia
   have v2:=ky (s:=st) pk2;rw[YV] at v2;have sH2:∀b o,b∉[lr,dn,dk]->H b=some o->H2 b=some o:=λb o hb e=>s2 b o (λz=>by
    simp only[M0,QC,or_false] at z hb;rcases z with z|z|z|z
    .exact hb (.inl z)
    .exact hb (.inr (.inl z))
    .exact hb (.inr (.inr z))
    .exact ng b o e z) (Sm b o e)
   have dkl:dk≠lr:=iq QR NG (by intro h;cases h);have fin:∀(H6:Hp) (k:Nat) (rs6:List Bk.Mg),(∀b o,b∉[lr,dn,dk]->H b=some o->H6 b=some o)->Px K C H6 x lr dn rs6->Q6 K H6 dk (Bk.av (Bk.aB Ms n) (Ms st) (rs,kn)).2.2->cF K H6 v st->
     (∀H',bv [lr,dn,dk] H H'->Px K C H' x lr dn rs6->Q6 K H' dk ((Bk.av (Bk.aB Ms n) (Ms st) (rs,kn)).2.2++[(st,k)])->Q (.int (k:Nat)) H')->
     ∃d L k' n',V.int (k:Int)=V.int n'/\V.ref dk=V.ref d/\H6 d=some (O8 d L)/\iC K H6 L/\cF K H6 v k'/\fz L k'=none/\L.length<Mz/\
      ∃d2 L2 k2 n2,V.ref dk=V.ref d2/\(upd H6 d (O8 d (L++[(k',v,n')]))) d2=some (O8 d2 L2)/\iC K (upd H6 d (O8 d (L++[(k',v,n')]))) L2/\cF K (upd H6 d (O8 d (L++[(k',v,n')]))) v k2/\fz L2 k2=some n2/\Q (.int n2) (upd H6 d (O8 d (L++[(k',v,n')]))):=by
    intro H6 k rs6 s6 S6 K6 r6 hz;obtain⟨L6,h1,h2,h3⟩:=K6.ex;have v6:=ky (s:=st) h3;rw[YV] at v6;have s7:bv [dk] H6 (upd H6 dk (O8 dk (L6++[(st,v,(k:Int))]))):=λb o hb e=>by
     rw[ao (λz=>hb (by simp[z]))];exact e
    have WH:dm H6 [dk]:=λa ha=>by
     obtain rfl:a=dk:=by simpa using ha
     exact⟨_,h1,trivial⟩
    have keys:iC K (upd H6 dk (O8 dk (L6++[(st,v,(k:Int))]))) (L6++[(st,v,(k:Int))]):=λe he=>by
     rcases Ny.mp he with he|he
     .exact s7.sk WH (h2 e he)
     .obtain rfl:e=(st,v,(k:Int)):=by simpa using he
      exact s7.sk WH r6
    have p7:=cJ h3 (.cons (F:=λ(e:SK×V×Int) (p:SK×Nat)=>e.1=p.1/\e.2.2=(p.2:Int)) (a:=(st,v,(k:Int))) (b:=(st,k)) ⟨rfl,rfl⟩ .nil);have v7:=ky (s:=st) p7;rw[Bk.mD YV] at v7;obtain⟨dx6,x6,N6,g1,g2,g3,g4,g5,g6⟩:=S6.ex;refine⟨dk,L6,st,k,rfl,rfl,h1,h2,r6,v6,by have:=h3.length;rw[Nf];lia,dk,_,st,k,rfl,ag,keys,s7.sk WH r6,v7,hz _ (λb o hb e=>?_) ?_ ⟨_,ag,keys,p7⟩⟩
    .rw[ao (λz=>hb (by simp[z]))];exact s6 b o hb e
    .exact S6.upd h1 trivial (iq g1 h1 (by intro h;cases h)) (M' dkl) (M' kdn)
   refine⟨_,rfl,g,ds,rfl,.inl (MA.of hg2),_,0,rfl,rfl,_,rfl,?_⟩;have dl2:=WE.length
   by_cases hz:(Bk.av (Bk.aB Ms n) (Ms st) (rs,kn)).1=[]
   .rw[eg,Mu hz] at z;rw[hz] at dl2;rw[M4 (by rw[dl2];decide)];refine aK ?_;obtain⟨d,L,k',n',e1,e2,r1,r2,r3,r4,r5,q⟩:=fin H2 0 _ sH2 S2 K2 rv2 z;exact⟨_,rfl,_,rfl,d,L,k',n',e1,e2,r1,r2,r3,r4,r5,_,rfl,_,rfl,q⟩
   .rw[eg,Mq hz] at z;have agg:0<ds.length:=by rw[dl2];exact ZD.mpr hz
    rw[M6 (by lia)];obtain⟨dx2,x2,N2,Wp,adt,_,Yh,_⟩:=S2.ex;refine aV ⟨_,rfl,x,dx2,_,rfl,Wp,rfl,_,rfl,g,ds,rfl,.inl ⟨MA.of hg2,λr0 OY=>?_⟩⟩;have s3:=ai OY (.tup ds);refine⟨x,lr,dn,_,.ref r0,_,rfl,S2.same s3,⟨r0,ds,rfl,MR.up,aD (λ_ _ z=>z.same s3) WE⟩,by lia,λH6 s6 S6=>?_⟩;have so3:dm (upd H2 r0 (.tup ds)) [lr,dn]:=(S2.same s3).aby
    obtain⟨d,L,k',n',e1,e2,r1,r2,r3,r4,r5,q⟩:=fin H6 _ _ (λb o hb e=>s6 b o (λz=>hb (by simp[z])) (λz=>hb (by simp[z])) (s3 b o (sH2 b o hb e))) S6 ((K2.same s3).adf (bv.ofS s6) so3 (λz=>by
     simp only[M0,QC,or_false] at z;exact z.elim dkl kdn)) ((bv.ofS s6).sk so3 (rv2.mono s3)) z
    exact⟨_,rfl,_,rfl,d,L,k',n',e1,e2,r1,r2,r3,r4,r5,_,rfl,_,rfl,q⟩
variable {os:SK->Bk.am} in
theorem vU (W:Bk.Way Ms os Nx Bk.P4 good)(SE:∀s,(Ms s).length<=8)(F:Nh K "grow" "grow" lu f fd)(T:N9 K mg CO)(c:SM K C)(mk:Up K C "keep" fk)(Fk:MU P w K mg base MM 1 fk Q7 ["self","room"] (i6 K C))(bk:bK K Q7 ["self","room"] [])(FL:MU P w K mg base MM kl fl RK [xl] (lx K H0 Ms good))(UG:base.get? fl=some ol)(UJ:ol.data=.func RK)(bl:∀us:List G',us.length=[xl].length->bindArgs RK ⟨us,[]⟩=pure ([xl].zip us))(b:bK K fd ["shelf","state","doors_from","known"] [])(m:mg "grow"=some (.ref f)):∀n,MU P w K mg base MM (n+kl+2) f fd ["shelf","state","doors_from","known"] (oj K C H0 fl Ms os Nx good n)
 | 0=>um W SE F T c mk Fk bk FL UG UJ bl 0 λm h=>nomatch h
 | n+1=>um W SE F T c mk Fk bk FL UG UJ bl (n+1) λk h=>by
  cases h;exact⟨f,fd,vU W SE F T c mk Fk bk FL UG UJ bl b m n,b,F.kp,m⟩
end
end Ord
namespace L2
open PySem PySem.Spec PyProof.Rows
abbrev NU (l:List (Int×Int)):List (Key×V):=l.map λp=>(.inl p.1,.int p.2)
abbrev Rp (l:List (Int×Int)):KL:=l.map λp=>(.inl p.1,.int p.1,p.2)
theorem mF:∀{l:List (Int×Int)}{vs:List (Key×G')}{es:List Op},KV (NU l) vs->Pairs (aL P w) es vs->(∀e∈es,∃k,ip k e.key=true/\e.hash=Dx w k)->
  ∃xs,YS (Rp l) xs/\es=xs.map (λx=>(⟨lm x.1,x.2.1,x.2.2⟩:Op))/\xs.map (·.1)=l.map λp=>Oy p.1
 | [],vs,es,r,p,h=>by
  rw[show NU []=[] from rfl] at r;cases r;cases p;exact⟨[],.nil,rfl,rfl⟩
 | (i,j)::l,vs,es,r,p,h=>by
  rw[show NU ((i,j)::l)=(.inl i,.int j)::NU l from rfl] at r;cases r with
  | @cons _ b _ bs r1 r2=>
   obtain⟨k0,v0⟩:=b;obtain⟨e1,t,e2⟩:=r1;dsimp only at e1 e2;subst e1 e2;cases p with
   | @cons e _ es _ q1 q2 q3=>
    obtain⟨xs,x1,x2,x3⟩:=mF r2 q3 λe he=>h e (Na _ he);obtain⟨k,hk,hh⟩:=h e MO;have Wz:k=.inl i:=(aL P w).inj e.key k (.inl i) hk q1;subst Wz;obtain⟨t',Ww⟩:=aco (k:=i) (v:=e.key) q1;refine⟨(.inl i,e.key,e.val)::xs,.cons ⟨rfl,⟨t',Ww⟩,t,q2⟩ x1,?_,by rw[Nt,x3,Nt]⟩;rw[Nt,<-x2]
    congr 1
    obtain⟨e1,e2,e3⟩:=e;dsimp only at hh;subst hh;rfl
section
variable {σ:St} in
theorem Inv.toK (I:Inv X aa σ H s)(e:H a=some (.dK (NU l))):Inv X aa σ (upd H a (O8 a (Rp l))) s:=by
 obtain⟨z,hd,vs,rel,o,es,ep,h1,h2,h3,h4,h5,h6⟩:=jk I.My e;obtain⟨xs,x1,x2,x3⟩:=mF (P:=X.prog) (w:=X.w) rel h5 λe he=>h4 e (aay.mp he);have nd:(xs.map (·.1)).Nodup:=by
  rw[x3];have:vs.map (·.1)=(l.map λp=>Oy p.1):=by
   have:∀{l:List (Int×Int)}{vs:List (Key×G')},KV (NU l) vs->vs.map (·.1)=l.map λp=>Oy p.1:=by
    intro l
    induction l with
    | nil=>intro vs r;rw[show NU []=[] from rfl] at r;cases r;rfl
    | cons p l ih=>
     intro vs r;rw[show NU (p::l)=(.inl p.1,.int p.2)::NU l from rfl] at r;cases r with
     | cons r1 r2=>rw[Nt,ih r2,Nt,<-r1.1]
   exact this rel
  rw[this] at h6;unfold V' at h6 ⊢;rw[Sn] at h6 ⊢;exact h6.imp λh q=>h (by injection q with q;rw[q])
 exact I.write (x:=a) (e:=a) (h':=s.heap) (t':=s.toks) (o:=O8 a (Rp l)) (by rw[e];exact P9) (.inl rfl) (λb u _ q=>q) ⟨o,h1⟩ (y9 ⟨hd,xs,x1,o,es,ep,h1,h2,h3,x2,nd⟩)
theorem EA (h:PE X e t):PE X e (λσ H Q=>t σ H λv H2=>∃p l,v=.ref p/\H2 p=some (.dK (NU l))/\Q v (upd H2 p (O8 p (Rp l)))):=by
 intro aa s σ H Q I hq;refine ME (h aa s σ H _ I hq) λu s1 ⟨v,H1,I1,r,p,l,ev,e1,q⟩=>?_;exact⟨v,_,I1.toK e1,r,q⟩
end
end L2
namespace Ord
open PySem L2 Mx
abbrev ja:Mv:=top 31
section
def jx (K:Mi)(C:D')(n:Nat):Sp:=λvs H Q _=>∃(x lr dn l:D') (rs:List Bk.Mg) (p:Nat) (ys:List V) (os:Bk.am),vs=[.ref x,.ref l,.int (p:Int)]/\Px K C H x lr dn rs/\MA K H l ys/\MC (au.rep K H) ys os/\Bk.Ul p n os/\os.length<=1000/\rs.length+os.length*n<1000/\
 ∀H',dh lr dn H H'->Px K C H' x lr dn (Bk.lay n (os.map (PD p)) rs).2->Q (.int ((Bk.lay n (os.map (PD p)) rs).1:Nat)) H'
theorem jy:NE ["shelf","orders","place","parted","order","doors"] ["shelf","orders","place"] (ak ja):=⟨rfl,rfl,rfl,by decide +kernel,rfl,by decide +kernel,by decide +kernel⟩
theorem om (F:Nh K "shelve" "shelve" ja f fd)(T:N9 K mg CO)(c:SM K C)(mk:Up K C "keep" fk)(Fk:MU P w K mg base MM 1 fk Q7 ["self","room"] (i6 K C))(bk:bK K Q7 ["self","room"] [])(n:Nat)(WS:∀m,n=m+1->Df P w K mg base MM (m+2) "shelve" ["shelf","orders","place"] (jx K C m)):MU P w K mg base MM (n+2) f fd ["shelf","orders","place"] (jx K C n):=by
 refine F.ok jy (λvs H Q E h=>?_) (λMB A outer s H vs Q E hr h=>?_)
 .obtain⟨x,lr,dn,l,rs,p,ys,os,rfl,_⟩:=h;rfl
 obtain⟨x,lr,dn,l,rs,p,ys,os,rfl,S,ql,po,ok,MW,afE,z⟩:=h;obtain⟨t1,m1⟩:=T.en;cases n with
 | zero=>
  refine⟨_,af (aQ (ay dU (pv 2) (aE bh rfl T.t.len dc (ac (aJ (show Nl _ (dG K) from bE) (pv 1) ap (λ_ _=>rfl)) ae)) (aI _)) (al (aM (aH (v:=.int 1) rfl m1 ⟨t1,rfl⟩))) az) (af aZ (af aZ (af aZ (al aZ)))),?_⟩;obtain⟨o,ho⟩:=SX os ok.ne;have hp:0<os.length:=Zz ho;obtain⟨y,hy,ro⟩:=dX po (Om hp);obtain⟨a,rfl,qa⟩:=cj ro;have la:=ok.len _ (VQ hp);refine⟨_,rfl,_,rfl,l,_,0,.ref a,rfl,rfl,ql,ck (j:=0) hy,a,_,rfl,.inr qa,rfl,_,rfl,?_⟩;rw[M6 (by rw[Ng,la];rfl)];exact aV (z H (λb o _ _ e=>e) S)
 | succ n=>
  have D:=WS n rfl;refine⟨_,af (aQ (ay dU (pv 2) (aE bh rfl T.t.len dc (ac (aJ (show Nl _ (dG K) from bE) (pv 1) ap (λ_ _=>rfl)) ae)) (aI _)) (al aZ) az)
   (af (aA (i:=3) jy.nd rfl (NR rfl) sL)
   (af (PS.Qt (ed Tb rfl (cu (pv 1)) (cB (i:=4) jy.nd rfl (MX rfl))
    (al (bA (eG RW T7 T8 cZ
     (eG ad6 adG PySem.F.type_dict_setdefault rg (pv 3) (ac (aJ (show Nl _ (bF K) from bc) (pv 4) (pv 2) (λ_ _=>rfl)) (ac (bt ae) ae))) (ac (pv 4) ae))))))
   (af (lh (i0:=5) jy.nd rfl (MX rfl) rfl (show Qb (ak ja) ["shelf","orders","place","parted","order","doors"] _ _ from by constructor <;> decide +kernel) (CJ (pv 3)) (λ_ _ _ _ _ _=>kO)
     (λcl C' M1 NF fp aa=>cb (ac (pv 0) (ac (aF D hr rfl (aX (E:=λ_ _ _ _=>False)) (ac (pv 1) (ac (iX (rq hr) (pv 4) (pv 0) (λ_ _=>rfl)) (ac (aR cN (pv 3) ap) ae)))) ae))) rfl)
   (al (aM (vi (pv 0) c.cls mk Fk (hr.mono (by lia)) bk .nil nh (ac (bp cU rfl T.t.tuple dM (ac (pv 5) ae)) ae))))))),?_⟩
  obtain⟨o,ho⟩:=SX os ok.ne;have hp:0<os.length:=Zz ho;obtain⟨y,hy,ro⟩:=dX po (Om hp);obtain⟨a,rfl,qa⟩:=cj ro;have la:=ok.len _ (VQ hp);have hlen:=po.length;refine⟨_,rfl,_,rfl,l,_,0,.ref a,rfl,rfl,ql,ck (j:=0) hy,a,_,rfl,.inr qa,rfl,_,rfl,?_⟩;rw[M4 (λh=>by have:=V.int.inj h;rw[Ng,la] at this;lia)];refine aK ?_;intro dP TB;have s1:ar H (upd H dP (.dK [])):=ai TB _;refine⟨_,rfl,l,rfl,⟨_,s1.OH ql⟩,e9 (K:=K) (a:=l) (xs:=ys) (λi σ H2=>∃v4 kvs,σ=[some (.ref x),some (.ref l),some (.int (p:Int)),some (.ref dP),v4,none]/\ar H H2/\U3 K H dP H2 kvs (Bk.bR p (os.take i))) ⟨none,[],rfl,s1,ag,.nil,Ue⟩ ?_ ?_ ?_⟩
  .rintro i σ H2 _ ⟨v4,kvs,rfl,s2,_⟩;exact s2.OH ql
  .rintro i y σ H2 hy ⟨v4,kvs,rfl,s2,PA⟩;obtain⟨o,ho,ro⟩:=cp po hy;obtain⟨a,rfl,qa⟩:=cj ro;have lo:=ok.len o (N1 ho);have il:=(NP.mp ho).1;have at_:PP (o.map V.int) (p:Int)=some (.int (Bk.Nu p o)):=ck (by
    unfold Bk.Nu;rw[O0,Om (show p<o.length by lia)];rfl)
   have gl:kvs.length<=i:=by
    have h1:=PA.SN.length;have h2:=nQ p (os.take i);rw[Ph] at h2;lia
   refine⟨_,rfl,.inr (.inr (.inl ⟨rfl,.inl ⟨_,PA.at_⟩⟩)),_,rfl,_,rfl,a,_,(p:Int),.int (Bk.Nu p o),rfl,rfl,s2.Oq qa,at_,by show 0<=Mz;decide,λe0 Oz=>?_⟩;have s3:ar H2 (upd H2 e0 (.lst [])):=ai Oz _;refine⟨dP,kvs,.inl (Bk.Nu p o),.ref e0,rfl,rfl,s3 _ _ PA.at_,by rw[Nf];lia,λy' hv=>?_,λhv=>?_⟩
   .rcases pA (k:=Bk.Nu p o) PA.SN with⟨b1,_⟩|⟨ga,vs,b1,b2,b3,b4,b5,b6,e,b7,b8⟩
    .rw[b1] at hv;cases hv
    rw[b1] at hv;cases hv;have vl:vs.length<=os.length:=by
     rw[b8,(Bk.fK p (os.take i)).each e b7];refine OT (ZC _ _) ?_;rw[Ph];lia
    refine⟨.inl ⟨rfl,_,.inl (.inl (s3 _ _ b6))⟩,_,rfl,ga,vs,.ref a,rfl,rfl,s3 _ _ b6,by rw[Nf];lia,_,kvs,rfl,λb u q=>?_,?_⟩
    .rw[ao (aq q b4)];exact s3 b u (s2 b u q)
    .rw[bU ho];exact PA.more Oz (cg (s2.Oq qa)) b1 b2 b6 b5
   .rcases pA (k:=Bk.Nu p o) PA.SN with⟨b1,b2⟩|⟨ga,vs,b1,_⟩
    .have YO:dP≠e0:=aq PA.at_ Oz;have Vp:(upd (upd H2 e0 (.lst [])) dP (.dK (bP kvs (.inl (Bk.Nu p o)) (.ref e0)))) e0=some (.lst []):=by rw[ao (M' YO),ag]
     refine⟨.inl ⟨rfl,_,.inl (.inl Vp)⟩,_,rfl,e0,[],.ref a,rfl,rfl,Vp,by decide,_,kvs++[(.inl (Bk.Nu p o),.ref e0)],rfl,λb u q=>?_,?_⟩
     .rw[ao (aq q (s2.free Oz)),ao (aq q TB)];exact s3 b u (s2 b u q)
     .rw[bU ho];exact PA.fresh Oz (s2.free Oz) (cg (s2.Oq qa)) b1 b2
    .rw[b1] at hv;cases hv
  .rintro σ H2 ⟨v4,kvs,rfl,s2,PA⟩;rw[hlen,QB] at PA;have S':=S;obtain⟨dx,rx,L,hx,NG,prs,N0,Wz,nl⟩:=S.ex;have ldP:lr≠dP:=aq NG TB;have Vh:dn≠dP:=aq N0 TB;have keys:=ok.keys;have gl:kvs.length=(Bk.bR p os).length:=PA.SN.length;have gk:(Bk.bR p os).length=(Bk.heads (os.map (PD p))).length:=by rw[<-keys,Ng]
   have afF:=nQ p os;refine⟨_,rfl,dP,kvs,rfl,PA.at_,λob=>?_⟩;have dPs:eW (.dK kvs):=trivial;have xdP:x≠dP:=aq hx TB;have S2:Px K C (upd H2 dP (.NO ob (.dK kvs))) x lr dn rs:=(S.same s2).upd PA.at_ dPs xdP ldP Vh;have kn:(kvs.map (·.1)).Nodup:=by
    have e:∀{kvs:List (Key×V)}{g:List (Int×Bk.am)},MC (eX K H dP H2) kvs g->kvs.map (·.1)=g.map λe=>Oy e.1:=by
     intro kvs g t
     induction t with
     | nil=>rfl
     | cons h _ ih=>
      obtain⟨a,vs,rfl,_⟩:=h;rw[Nt,Nt,ih]
    rw[e PA.SN];have:=(Bk.fK p os).nd;unfold V' at this ⊢;rw[Sn] at this ⊢;exact this.imp λh z=>h (XQ z)
   refine yz (a:=dP) (ob:=ob) (kvs:=kvs) (λi ds H3=>dh lr dn (upd H2 dP (.NO ob (.dK kvs))) H3/\Px K C H3 x lr dn (Bk.aG (Bk.lay n) (os.map (PD p)) ((Bk.heads (os.map (PD p))).take i) rs).2/\MC (cK K H3) ds (Bk.aG (Bk.lay n) (os.map (PD p)) ((Bk.heads (os.map (PD p))).take i) rs).1/\ds.length=i) ⟨dh.refl,S2,.nil,rfl⟩ ?_ (by rw[Nf];lia) ?_ ?_
   .rintro i ds H3 hi ⟨s3,_,_,hl⟩;exact⟨s3 _ _ (M' ldP) (M' Vh) ag,by lia⟩
   .rintro i kv ds H3 UI ⟨s3,S3,p3,hl⟩;obtain⟨e,he,ga,vs,rfl,g1,g2,g3,g4⟩:=cp PA.SN UI;have mem:=N1 he;obtain⟨oke,rst,ele⟩:=ok.group mem;have ht:(Bk.heads (os.map (PD p)))[i]?=some e.1:=by rw[<-keys,O0,he];rfl
    obtain⟨bd1,bd2⟩:=Bk.nS (n:=n) (rs:=rs) ht;have lr2:e.2.length=(Bk.rests e.1 (os.map (PD p))).length:=by rw[<-rst,Ng]
    rw[Ng,<-lr2] at bd1;have mul:Rw os*(n+1)=Rw os*n+Rw os:=aa9 _ _;have afG:=s3 _ _ (M' ldP) (M' Vh) (ag (H:=H2) (a:=dP) (o:=.NO ob (.dK kvs)));have nga:ga≠lr/\ga≠dn:=⟨(λz=>by rw[z,NG] at g1;cases g1),(λz=>by rw[z,N0] at g1;cases g1)⟩
    have hg3:H3 ga=some (.lst vs):=s3 _ _ nga.1 nga.2 (by rw[ao g2];exact g3);have adt:(upd H2 dP (.NO ob (.dK kvs))) lr=some (.lst rx):=by rw[ao ldP];exact s2 _ _ NG
    have Yh:(upd H2 dP (.NO ob (.dK kvs))) dn=some (fj dn L):=by rw[ao Vh];exact s2 _ _ N0
    have rv:MC (au.rep K H3) vs e.2:=aD (λ_ _ z=>w4 s3 adt Yh (ez PA.at_ dPs z)) g4;refine goT (aV ?_);refine⟨_,rfl,_,rfl,_,rfl,_,rfl,dP,.ref ga,rfl,.inl ⟨kvs,.inl e.1,.inr ⟨ob,afG⟩,rfl,(Ex kn UI).symm⟩,_,rfl,(p:Int),1,rfl,rfl,x,lr,dn,ga,_,p+1,vs,e.2,rfl,S3,.inl (.inl hg3),rv,oke,by lia,by lia,λH4 s4 S4=>?_⟩;rw[rst] at S4 ⊢;refine⟨by show 2<=Mz;decide,λtq UL=>?_⟩;obtain⟨dx3,rx3,L3,_,adu,_,abE,_⟩:=S3.ex;have s5:=ai UL (.tup [V.int e.1,V.int ((Bk.lay n (Bk.rests e.1 (os.map (PD p))) (Bk.aG (Bk.lay n) (os.map (PD p)) ((Bk.heads (os.map (PD p))).take i) rs).2).1:Nat)]);rw[bU ht,Bk.iA];refine⟨s3.trans (s4.trans (dh.of s5)),S4.same s5,cJ (aD (λ_ _ z=>(z.ae7 s4 adu abE).same s5) p3) (.cons ⟨tq,rfl,MR.up⟩ .nil),by simp;lia⟩
   .rintro ds H3 c0 ⟨s3,S3,p3,hl⟩ Vr;rw[gl,gk,QB] at S3 p3;have s4:ar H3 (upd H3 c0 (.lst ds)):=ai Vr _;have S4:=S3.same s4;obtain⟨dx4,_,_,hx4,_⟩:=S4.ex;refine⟨_,rfl,x,dx4,_,rfl,hx4,rfl,_,rfl,c0,ds,rfl,.inl ⟨MA.up,λr0 OY=>?_⟩⟩;have s5:=ai OY (.tup ds);have db:=Bk.lS (n:=n) (os:=os.map (PD p)) (rs:=rs);rw[Ng] at db;have mul:Rw os*(n+1)=Rw os*n+Rw os:=aa9 _ _;refine⟨x,lr,dn,_,.ref r0,_,rfl,S4.same s5,⟨r0,ds,rfl,MR.up,aD (λ_ _ z=>z.same (s4.trans s5)) p3⟩,by lia,λH6 s6 S6=>?_⟩;refine z H6 (λb u h1 h2 q=>?_) S6;refine s6 b u h1 h2 (s5 b u (s4 b u (s3 b u h1 h2 ?_)));rw[ao (aq q TB)];exact s2 b u q
theorem qN (F:Nh K "shelve" "shelve" ja f fd)(T:N9 K mg CO)(c:SM K C)(mk:Up K C "keep" fk)(Fk:MU P w K mg base MM 1 fk Q7 ["self","room"] (i6 K C))(bk:bK K Q7 ["self","room"] [])(b:bK K fd ["shelf","orders","place"] [])(m:mg "shelve"=some (.ref f)):∀n,MU P w K mg base MM (n+2) f fd ["shelf","orders","place"] (jx K C n)
 | 0=>om F T c mk Fk bk 0 λm h=>nomatch h
 | n+1=>om F T c mk Fk bk (n+1) λk h=>by
  cases h;exact⟨f,fd,qN F T c mk Fk bk b m n,b,F.kp,m⟩
end
abbrev pD:Mv:=top 30
theorem kA:∀{a b:List Int},Bk.lt a b->HT.bS a b=true
 | [],[],h=>h.elim
 | [],_::_,_=>rfl
 | _::_,[],h=>h.elim
 | x::a,y::b,h=>by
  rcases h with h|⟨rfl,h⟩
  .rw[HT.eF,Mq (by lia)];exact M6 h
  .rw[HT.eF,Mu rfl];exact kA h
section
def aW (many:Nat)(os:Bk.am):List Bk.Mg×Nat:=if os=[] then ([],0) else ((Bk.lay many os []).2,(Bk.lay many os []).1)
structure Uo (K:Mi)(H0 H:Hp)(t lr:D')(many:Int)(rs:List Bk.Mg)(first:Int):Prop where
 ft:H0 t=none
 fl:H0 lr=none
 at_:H t=some (.tup [.int many,.ref lr,.int first])
 rooms:∃xs,H lr=some (.lst xs)/\MC (bu K H) xs rs
def jz (K:Mi):Sp:=λvs H Q _=>∃(many:Nat) (l:D') (ys:List V) (os:Bk.am),vs=[.int (many:Int),.ref l]/\MA K H l ys/\MC (au.rep K H) ys os/\(∀o∈os,sF many o)/\1<=many/\many<=8/\os.length<64/\
 ∀(t lr:D') (H':Hp),ar H H'->Uo K H H' t lr many (aW many os).1 (aW many os).2->Q (.ref t) H'
theorem jA:NE ["many","orders","order","shelf","first"] ["many","orders"] (ak pD):=⟨rfl,rfl,rfl,by decide +kernel,rfl,by decide +kernel,by decide +kernel⟩
theorem zf (F:Nh K "book_of" "book_of" pD f fd)(T:N9 K mg CO)(c:SM K C)(M:Mk K C fi)(Fi:MU P w K mg base MM 1 fi UM ["self"] (nO K C))(bi:bK K UM ["self"] [])(mC:mg "Shelf"=some (.ref C))(WC:Df P w K mg base (Nb P w) 3 "look_count" ["many"] (oW CO))(WL:Df P w K mg base (Nb P w) 4 "look_order" ["many","order"] (ym K CO))(WS:∀n,Df P w K mg base MM (n+2) "shelve" ["shelf","orders","place"] (jx K C n)):
  MU P w K mg base (Nb P w) 12 f fd ["many","orders"] (jz K):=by
 refine F.QM jA (λvs H Q E h=>?_) (λX MB A outer s H vs Q E hX hp Ot hr h=>?_)
 .obtain⟨many,l,ys,os,rfl,_⟩:=h;rfl
 obtain⟨many,l,ys,os,rfl,ql,po,good,m1,m8,MW,z⟩:=h;obtain⟨t0,m0⟩:=T.no;have hlen:=po.length;subst hX;refine⟨_,af (bA (aF WC (hr.mono (by decide)) rfl hp (ac (pv 0) ae)))
  (af (PS.Qt (ed Tb rfl (cu (pv 1)) (cB (i:=2) jA.nd rfl (MX rfl)) (al (bA (aF WL (hr.mono (by decide)) rfl gv (ac (pv 0) (ac (pv 2) ae)))))))
  (af (aQ (ay dU (aE bh rfl T.t.len dc (ac (pv 1) ae)) ap (aI _)) (al (aM (cb (ac (pv 0) (ac (bt ae) (ac (aH (v:=.int 0) rfl m0 ⟨t0,rfl⟩) ae)))))) az)
  (af (aA (i:=3) jA.nd rfl (MX rfl) (rW M Fi (hr.mono (by decide)) rfl mC bi .nil nh))
  (af (aA (i:=4) jA.nd rfl (MX rfl) (aF (WS many) (hr.mono (by lia)) rfl (aX (E:=λ_ _ _ _=>False)) (ac (pv 3) (ac (aE j2 rfl T.t.sorted gZ (ac (pv 1) ae)) (ac ap ae)))))
  (al (aM (cb (ac (pv 0) (ac (gR (pv 3) rfl) (ac (pv 4) ae)))))))))),?_⟩
 refine⟨_,rfl,(many:Int),rfl,iu (by lia) (by lia),?_⟩;rw[Mu (by lia)];refine⟨_,rfl,l,rfl,⟨_,ql⟩,e9 (K:=K) (a:=l) (xs:=ys) (λi σ H2=>∃v2,σ=[some (.int (many:Int)),some (.ref l),v2,none,none]/\ar H H2) ⟨none,rfl,ar.refl H⟩ ?_ ?_ ?_⟩
 .rintro i σ H2 _ ⟨v2,rfl,s2⟩;exact s2.OH ql
 .rintro i y σ H2 hy ⟨v2,rfl,s2⟩;obtain⟨o,ho,ro⟩:=cp po hy;obtain⟨a,rfl,qa⟩:=cj ro;have g:=good o (N1 ho);have gl:(o.length:Int)=many:=g.2.2.1;refine⟨_,rfl,_,rfl,(many:Int),a,o,rfl,iu (by lia) (by lia),⟨s2.Oq qa,by lia,λx hx=>?_⟩,λ_ H3 s3=>⟨_,rfl,s2.trans s3⟩,λng=>Mw g ng⟩;have:=g.2.2.2.mem hx;exact iu (by lia) (by lia)
 .rintro σ H2 ⟨v2,rfl,s2⟩;refine⟨_,rfl,l,_,rfl,.inl (s2.OH ql),rfl,_,rfl,?_⟩
  by_cases e0:os=[]
  .subst e0;have y0:ys.length=0:=hlen;rw[y0,M6 (by rfl)];refine aV ⟨_,rfl,by show 0<=Mz;decide,λlr NG=>?_⟩;have s3:=s2.trans (ai NG (.lst []));refine⟨by show 3<=Mz;decide,λt ht=>?_⟩;have s4:=ai ht (.tup [V.int (many:Int),V.ref lr,V.int 0]);exact z t lr _ (s3.trans s4) ⟨s3.free ht,s2.free NG,ag,[],s4 _ _ ag,.nil⟩
  .have Tq:0<os.length:=ZD.mpr e0;rw[M4 (λh=>by have:=V.int.inj h;lia)];refine aK ?_;intro x dx YW abF ndx;have u1:=ai abF (.own x);have Vl:(upd H2 dx (.own x)) x=none:=by rw[ao (M' ndx)];exact YW
   have u2:=ai Vl (.ins C dx []);have s3:=s2.trans (u1.trans u2);refine⟨x,dx,rfl,ag,λlr dn H3 NG N0 keep SA=>⟨rfl,?_⟩⟩;have s4:ar H H3:=λb u q=>keep b u (aq q (s2.free YW)) (s3 b u q);have WI:H lr=none:=s3.free NG;have fdn:H dn=none:=s3.free N0;refine⟨_,rfl,_,rfl,.ref l,os,rfl,⟨l,ys,rfl,s4.OH ql,aD (λ_ _ z=>au.mono s4 z) po⟩,λks hk=>?_,MW,λl2 RJ OB NC YX perm QS=>?_⟩
   .have g:=good ks hk;have:(ks.length:Int)=many:=g.2.2.1;intro e;subst e;simp at this;lia
   have s5:=ai NC (.lst RJ);have mem:∀o∈OB,sF many o:=λo ho=>good o (perm.mem_iff.mp ho);have kl:OB.length=os.length:=perm.length_eq;have d0:OB.map (PD 0)=OB:=(Xm λo _=>(aaW:o.drop 0=o)).trans (List.map_id _);have RC:Bk.lay many (OB.map (PD 0)) []=Bk.lay many os []:=by
    rw[d0];exact Bk.hR many [] λo=>perm.mem_iff
   have lb:aW many os=((Bk.lay many os []).2,(Bk.lay many os []).1):=by unfold aW;rw[Mq e0]
   refine⟨x,lr,dn,l2,[],0,RJ,OB,rfl,SA.same s5,MA.up,aD (λ_ _ z=>au.mono s5 z) YX,⟨λe=>?_,λo ho=>?_,λo ho y hy=>?_,?_⟩,by lia,?_,λH5 s6 S5=>?_⟩
   .rw[e] at kl;simp at kl;lia
   .have:(o.length:Int)=many:=(mem o ho).2.2.1;lia
   .have g:=mem o ho;have gl:(o.length:Int)=many:=g.2.2.1;have:=g.2.2.2.mem hy;lia
   .exact QS.imp λh z=>by
     have:=kA z;rw[aaW,aaW,h] at this;cases this
   .show 0+OB.length*many<1000;have:OB.length*many<=63*8:=acM (by lia) m8;lia
   .rw[RC] at S5 ⊢;obtain⟨dx5,xs5,L5,hx5,afH,pr5,_⟩:=S5.ex;refine⟨_,rfl,_,rfl,x,C,dx5,_,.ref lr,rfl,hx5,c.cls,c.rooms,rfl,_,rfl,by show 3<=Mz;decide,λt ht=>?_⟩;have s7:=ai ht (.tup [V.int (many:Int),V.ref lr,V.int (((Bk.lay many os []).1:Nat):Int)]);have s8:ar H H5:=λb u q=>s6 b u (aq q WI) (aq q fdn) (s5 b u (s4 b u q));rw[lb] at z;exact z t lr _ (s8.trans s7) ⟨s8.free ht,WI,ag,xs5,s7 _ _ afH,aD (λ_ _ z=>z.same s7) pr5⟩
end
section
def ly (K:Mi)(H0:Hp)(fl:D')(Ms:SK->List (Int×SK))(Nx:SK->Nat)(good:SK->Prop)(n:Nat):Sp:=λvs H Q _=>∃(many:Int) (v:V) (s:SK),vs=[.int many,v,.ref fl]/\cF K H v s/\ar H0 H/\good s/\(Bk.P4 s\/Nx s<=n)/\(Bk.eP Ms n s).1.length<1000/\
 ∀(t lr:D') (H':Hp),ar H H'->Uo K H H' t lr many (Bk.eP Ms n s).1 (Bk.eP Ms n s).2->Q (.ref t) H'
theorem pE:NE ["many","state","doors_from","shelf","first"] ["many","state","doors_from"] (ak oh):=⟨rfl,rfl,rfl,by decide +kernel,rfl,by decide +kernel,by decide +kernel⟩
variable {P:MD}{w:Mt}{K:Mi}{mg:Me->Option G'}{base:Mp}{CO:D'}{C:D'}{Ms:SK->List (Int×SK)}{os:SK->Bk.am}{Nx:SK->Nat}{good:SK->Prop} in
theorem Bg {f fi fl:D'}{fd UM:MY}{H0:Hp}{kl n:Nat}(n5:n<=5)(h0:os (.inl 0)=[])(h1:os (.inl 1)=[[]])(YU:∀k,good (.inl k)->k=0\/k=1)(SE:∀s,(Ms s).length<=8)(F:Nh K "grown" "grown" oh f fd)(T:N9 K mg CO)(c:SM K C)(M:Mk K C fi)(Fi:MU P w K mg base MM 1 fi UM ["self"] (nO K C))(bi:bK K UM ["self"] [])(mC:mg "Shelf"=some (.ref C))(WS:Df P w K mg base MM (n+kl+2) "grow" ["shelf","state","doors_from","known"] (oj K C H0 fl Ms os Nx good n)):MU P w K mg base MM (n+kl+3) f fd ["many","state","doors_from"] (ly K H0 fl Ms Nx good n):=by
 refine F.ok pE (λvs H Q E h=>?_) (λMB A outer s H vs Q E hr h=>?_)
 .obtain⟨many,v,st,rfl,_⟩:=h;rfl
 obtain⟨many,v,st,rfl,rv,s0,gd,lv,MW,z⟩:=h;obtain⟨t0,m0⟩:=T.no;obtain⟨t1,m1⟩:=T.en;refine⟨_,af (aA (i:=3) pE.nd rfl (MX rfl) (rW M Fi (hr.mono (by lia)) rfl mC bi .nil nh))
  (af (aA (i:=4) pE.nd rfl (MX rfl) (aF WS (hr.mono (by lia)) rfl (aX (E:=λ_ _ _ _=>False)) (ac (pv 3) (ac (pv 1) (ac (pv 2) (ac (EA (o0 (fY (aH (v:=.int 0) rfl m0 ⟨t0,rfl⟩) (aH (v:=.int 0) rfl m0 ⟨t0,rfl⟩) (fY (aH (v:=.int 1) rfl m1 ⟨t1,rfl⟩) (aH (v:=.int 1) rfl m1 ⟨t1,rfl⟩) oZ)) rfl rfl (by decide) (by decide))) ae))))))
  (al (aM (cb (ac (pv 0) (ac (gR (pv 3) rfl) (ac (pv 4) ae))))))),?_⟩
 intro x dx YW abF ndx;have u1:=ai abF (.own x);have Vl:(upd H dx (.own x)) x=none:=by rw[ao (M' ndx)];exact YW
 have u2:=ai Vl (.ins C dx []);have s3:=u1.trans u2;refine⟨x,dx,rfl,ag,λlr dn H3 NG N0 keep SA=>⟨rfl,?_⟩⟩;have s4:ar H H3:=λb u q=>keep b u (aq q YW) (s3 b u q);have WI:H lr=none:=s3.free NG;have fdn:H dn=none:=s3.free N0;refine⟨_,rfl,_,rfl,_,rfl,λdk QR=>?_⟩;refine⟨ag,[(.inl 0,.int 0),(.inl 1,.int 1)],rfl,by decide,dk,[(0,0),(1,1)],rfl,?_,?_⟩
 .rw[ag];rfl
 have u5:upd (upd (upd H3 dk (.dK [])) dk (.dK (dL [] [(.inl 0,.int 0),(.inl 1,.int 1)]))) dk (O8 dk (Rp [(0,0),(1,1)]))=upd H3 dk (O8 dk (Rp [(0,0),(1,1)])):=by rw[vb,vb]
 rw[u5];have s5:=ai QR (O8 dk (Rp [(0,0),(1,1)]));have KA:Q6 K (upd H3 dk (O8 dk (Rp [(0,0),(1,1)]))) dk Bk.SO:=⟨Rp [(0,0),(1,1)],ag,λe he=>by
  rcases M0.mp he with rfl|he
  .rfl
  .obtain rfl:=N3.mp he;rfl,.cons ⟨rfl,rfl⟩ (.cons ⟨rfl,rfl⟩ .nil)⟩
 have fw:=(Bk.uk SE n st ([],Bk.SO)).2;have p9:9 ^ n<=9 ^ 5:=aem (by lia) n5;have UN:=s4.trans s5;obtain⟨_,_,NL,_,adu,_,abE,_⟩:=SA.ex;refine⟨x,lr,dn,dk,v,st,[],Bk.SO,rfl,SA.same s5,KA,rv.mono UN,s0.trans UN,s0.free WI,s0.free fdn,s0.free (s4.free QR),(λe=>by rw[e,abE] at QR;cases QR),gd,lv,Bk.BV h0 h1 YU,MW,?_,λH6 s6 S6 _=>?_⟩
 .have:(Bk.SO).length=2:=rfl;dsimp only at fw;lia
 obtain⟨dx6,xs6,L6,hx6,afI,pr6,_⟩:=S6.ex;refine⟨_,rfl,_,rfl,x,C,dx6,_,.ref lr,rfl,hx6,c.cls,c.rooms,rfl,_,rfl,by show 3<=Mz;decide,λt ht=>?_⟩;have s7:=ai ht (.tup [V.int many,V.ref lr,V.int (((Bk.aB Ms n st ([],Bk.SO)).1:Nat):Int)]);have s8:ar H H6:=s6.base UN λa ha=>by
  simp only[M0,QC,or_false] at ha;rcases ha with rfl|rfl|rfl
  .exact WI
  .exact fdn
  .exact s4.free QR
 exact z t lr _ (s8.trans s7) ⟨s8.free ht,WI,ag,xs6,s7 _ _ afI,aD (λ_ _ z=>z.same s7) pr6⟩
end
end Ord
namespace L2
open PySem PySem.Spec PyProof.Rows PySem.SetTable
def ElI (e:Sa.Oa)(k:Int):Prop:=e.1=hashInt k/\∃t,e.2=Ov k t
structure NY (h:Mp)(a:D')(o:Mc)(es:Array Sa.Oa)(ep:Nat)(t:NJ)(ks:List Int):Prop where
 ob:h.get? a=some o
 ex:o.ExactSet
 dt:o.data=.set es ep t
 full:Sa.Full t es
 MW:t.place.size*5<t.mask*3
 pl:t.plain=true
 el:MC ElI es.toList ks
 nd:ks.Nodup
theorem zh (F:Sa.Full t es)(h:Int)(MW:t.place.size*5<t.mask*3):∃N,t.freeSlot h=some ((Sa.MT t h N).j,false)/\(Sa.MT t h N).j∉t.place.toList/\∀m,m<N->(Sa.MT t h m).j∈t.place.toList:=by
 obtain⟨N,n1,n2,n3⟩:=Sa.meets F.tab h (by lia);refine⟨N,?_,n2,n3⟩;obtain⟨m',_,_,c,_⟩:=o8 (H:=λ_=>h+1) F.tab n2 n3 (10*turns t.mask) 0 (NX _) (by unfold turns;lia);unfold NJ.freeSlot NJ.probe;rcases c with⟨_,e⟩|⟨_,i,_,z,_⟩
 .have e:probe.go t (λ_=>h+1) h (10*turns t.mask) (t.probeStart h)=_:=e;rw[e];rfl
 .exact Mw z (by lia)
section
theorem NY.fits (S:NY h a o es ep t ks):t.fits es.size=true:=by
 unfold aa0 RY;rw[S.full.tab.Sj,S.full.size];have:=S.MW;rw[S.full.size] at this;simp;lia
theorem NY.elems (S:NY h a o es ep t ks):ElemsOf (intKind prog w) es.toList:=λe he=>by
 obtain⟨k,_,h1,tk,h2⟩:=eT S.el e he;refine⟨⟨k,by rw[h2];simp[intKind,XO],h1⟩,?_⟩;rw[h2];rfl
theorem NY.len (S:NY h a o es ep t ks):es.size=ks.length:=by rw[<-Od];exact S.el.length
theorem NY.keep (S:NY h a o es ep t ks)(k:∀u,h.get? a=some u->h'.get? a=some u):NY h' a o es ep t ks:=⟨k _ S.ob,S.ex,S.dt,S.full,S.MW,S.pl,S.el,S.nd⟩
theorem add_int (S:NY s.heap a o es ep t ks)(room:k∉ks->(ks.length+1)*5<t.mask*3)(MW:ks.length<70)(h:∀h' f,(∀b u,b≠a->s.heap.get? b=some u->h'.get? b=some u)->(∃o es ep t' N8,NY h' a o es ep t' N8/\t'.led=t.led/\t'.mask=t.mask/\(∀x,x∈N8↔x=k\/x∈ks))->Q f { s with heap:=h' }):
  Ml (Mr prog w) A (setAddHashed a (.int k tk) (hashInt k)) Q E s:=by
 have YN:=S.elems (prog:=prog) (w:=w);have len:=S.len;unfold setAddHashed;refine O2 ?_;show Ml _ _ (setAddHashedIn a (.int k tk) (hashInt k) (99999+1)) _ _ _;rw[tz];refine Mf (Pm S.ob S.dt S.fits ?_);dsimp only;rw[byScan_of rfl (by unfold scanBound;lia) YN];simp only[↓reduceIte];unfold setAddByScan;refine Mf (Mf (Qa (Mf (wpAny_setScan_of (knd:=intKind prog w) (k:=k) (by simp[intKind,XO]) S.ob S.dt S.fits YN ?_))));have isK:∀e∈es.toList,((intKind prog w).is k e.2=true↔∃tk,e.2=Ov k tk):=λe _=>by
  constructor
  .intro q;exact aco q
  .rintro⟨tk,q⟩;rw[q];simp[intKind,XO]
 cases hr:List.findIdx? (λe=>(intKind prog w).is k e.2) es.toList with
 | some j=>
  dsimp only;obtain⟨hj,hpj,_⟩:=List.findIdx?_eq_some_iff_getElem.mp hr;obtain⟨UO,e1⟩:=(isK _ (VQ hj)).mp hpj;obtain⟨k',RI,_,tk2,e2⟩:=cp S.el (Om hj);rw[e1] at e2;cases e2;exact Mm (Mm (h s.heap false (λ_ _ _ q=>q) ⟨o,es,ep,t,ks,S,rfl,rfl,λx=>⟨.inr,λz=>z.elim (λz=>by rw[z];exact N1 RI) id⟩⟩))
 | none=>
  dsimp only;have hk:k∉ks:=λz=>by
   obtain⟨j,hj⟩:=UT.mp z;obtain⟨e,he,_,tk2,e2⟩:=dX S.el hj;have:=List.findIdx?_eq_none_iff.mp hr e (N1 he);rw[(isK e (N1 he)).mpr ⟨tk2,e2⟩] at this;cases this
  obtain⟨N,f1,n1,n2⟩:=zh S.full (hashInt k) S.MW;have rm:=room hk;obtain⟨p1,p2,p3,p4,p5,p6,p7⟩:=Sa.abl S.full.tab (Sa.MT t (hashInt k) N).j;have F':=Sa.ac3 S.full (e:=(hashInt k,.int k tk)) n1 n2;dsimp only at F';obtain⟨bl,_,_⟩:=Sa.Tg S.full.tab.rise (Sa.MT t (hashInt k) N).j;have sz:=F'.size;have fs:=S.full.size;have Q5:(insertAt es (t.put (Sa.MT t (hashInt k) N).j).2 (hashInt k,Ov k tk)).size=es.size+1:=Sa.δ _ _ (by rw[p1];lia);have lay:layNew t es (hashInt k) (.int k tk)=(insertAt es (t.put (Sa.MT t (hashInt k) N).j).2 (hashInt k,Ov k tk),(t.put (Sa.MT t (hashInt k) N).j).1,false,false):=by
   have ft:(t.put (Sa.MT t (hashInt k) N).j).1.fits (insertAt es (t.put (Sa.MT t (hashInt k) N).j).2 (hashInt k,Ov k tk)).size=true:=by
    unfold aa0 RY;rw[p4,sz,Q5,p2];simp;lia
   unfold layNew;rw[f1];dsimp only;unfold NJ.orStandIn;rw[Mu ft,ft];rfl
  rw[lay];dsimp only;refine Mf (Mm ?_);rw[p5,S.pl];simp only[if_true];refine Mf (Mm ?_);simp only[if_true];generalize (t.put (Sa.MT t (hashInt k) N).j).1=t' at *;generalize (t.put (Sa.MT t (hashInt k) N).j).2=p at *;refine Mf (ZL S.ob S.dt ?_ (by rw[Q5,Nf];lia));obtain⟨g1,g2,g3⟩:=gB S.ob S.ex S.dt (insertAt es p (hashInt k,Ov k tk)) t';have el':MC ElI (insertAt es p (hashInt k,Ov k tk)).toList (ks.take p++k::ks.drop p):=by
   rw[Sa.Uj];exact cJ (rB p S.el) (.cons ⟨rfl,tk,rfl⟩ (rC p S.el))
  have pm:(ks.take p++k::ks.drop p).Perm (k::ks):=by
   refine List.perm_middle.trans ?_;rw[T9]
  have UF:(ks.take p++k::ks.drop p).Nodup:=pm.nodup_iff.mpr (Py.mpr ⟨hk,S.nd⟩);have nf:t'.tooFull=false:=by
   unfold acx RY;rw[p4,sz,Q5,p2];simp;lia
  rw[nf];simp only[Bool.not_false,aaU,NT,if_false];refine Mm (Mm (h _ true g2 ⟨_,_,_,t',_,⟨g1,S.ex,rfl,F',by rw[sz,Q5,p2,len];exact rm,by rw[p5,S.pl],el',UF⟩,p6,p2,λx=>?_⟩));rw[pm.mem_iff,M0]
theorem qO {led:Bool}(e:h.get? S=some (bH led)):NY h S (bH led) #[] 0 (.fresh 0 0 led) []:=
 ⟨e,⟨rfl,rfl,rfl⟩,rfl,⟨⟨.inl rfl,T',λj hj=>(QC hj).elim,rfl⟩,rfl,λx hx=>(QC hx).elim⟩,(by show 0*5<7*3;decide),rfl,.nil,Ue⟩
theorem uo:isSubtype (.type "dict") (.type "set")=pure false:=by rw[ZV];kernel_rfl
theorem uq:isSubtype (.type "dict") (.type "frozenset")=pure false:=by rw[ZV];kernel_rfl
theorem uZ (hd:(d==Po)=false)(ho:s.heap.get? d=some o)(hx:o.ExactDict)(hdt:o.data=.dict ds ep)(p:MC (λ(e:Op) k=>e.hash=hashInt k/\∃t,e.key=.int k t) ds.toList l)(nd:l.Nodup)(MW:l.length<=4)(h:∀h' tk,(∀b o,s.heap.get? b=some o->h'.get? b=some o)->(∃o es ep t ks,NY h' s.heap.objs.size o es ep t ks/\t.led=bL w/\t.mask=7/\∀x,x∈ks↔x∈l)->Q (.ref s.heap.objs.size) { s with heap:=h',toks:=tk }):Ml (Mr prog w) A (call (.type "set") [.ref d]) Q E s:=by
 refine yK ?_;generalize aaa:bL w=led at h ⊢;obtain⟨oc,od,odt,PN⟩:=o;obtain⟨x1,x2,x3⟩:=hx;simp only at x1 x2 x3 hdt;subst x1 x2 x3 hdt;have lt:d<s.heap.objs.size:=MS ho;have hS:(s.heap.push (bH led)).get? s.heap.objs.size=some (bH led):=NV _ rfl;have hT:XJ { s with heap:=s.heap.push (bH led) } (.ref s.heap.objs.size) "set":=⟨_,hS,rfl⟩
 have OC:(s.heap.push (bH led)).get? d=some { cls:=.type "dict",dict:=none,data:=.dict ds ep,slots:=#[] }:=MZ _ ho;have YY:XJ { s with heap:=s.heap.push (bH led) } (.ref d) "dict":=⟨_,OC,rfl⟩
 have n1:=uo;have n2:=uq;have n3:(QE "dict"==QE "dict")=true:=by decide
 unfold PH.«set.__init__» noKeywords aal;generalize hPI:setRoomFor=PI;wp_walk;subst hPI;have dl:ds.size=l.length:=by rw[<-Od];exact p.length
 have Z:=qO hS;unfold setRoomFor;refine Mf (Pm (s:={ s with heap:=s.heap.push (bH led) }) Z.ob Z.dt Z.fits ?_);have nr:(NJ.fresh 0 0 led).roomFor ds.size=none:=by
  unfold acA RY;rw[Mq (by show ¬(0+0+ds.size)*5 >= 7*3;lia)]
 dsimp only;rw[nr];refine Mm ?_;refine Mf (m:=dictEntries d) (ZM (s:={ s with heap:=s.heap.push (bH led) }) OC rfl (Mf ?_));rw[Std.Legacy.Range.forIn_eq_forIn_range'];refine Rb _ (λrest _ s'=>∃i h1 o es QK t ks,i+rest.length=ds.size/\rest=List.range' i (ds.size-i)/\s'={ s with heap:=h1 }/\(∀b o,s.heap.get? b=some o->h1.get? b=some o)/\NY h1 s.heap.objs.size o es QK t ks/\t.led=led/\t.mask=7/\∀x,x∈ks↔x∈l.take i) _ ?_ ?_ _ _
  ⟨0,_,_,_,_,_,_,by simp,by simp,rfl,λb o e=>MZ _ e,Z,rfl,rfl,λx=>by simp⟩
 .rintro j rest b s' ⟨i,h1,o,es,QK,t,ks,hi,hr,rfl,k1,S,l1,m1,mem⟩;have il:i<ds.size:=by rw[N'] at hi;lia
  obtain⟨n,hn⟩:∃n,ds.size-i=n+1:=⟨ds.size-i-1,by lia⟩
  rw[hn,List.range'_succ] at hr;injection hr with e1 e2
  subst e1;have od:=k1 _ _ ho;refine Mf (ZM (s:={ s with heap:=h1 }) od rfl ?_);obtain⟨k,hk,q1,tk,q2⟩:=cp p (show ds.toList[j]?=some ds[j] by simp[il]);rw[RV il];dsimp only;rw[q1,q2];have kl:k∉ks:=λz=>by
   obtain⟨q,hq⟩:=UT.mp ((mem k).mp z);have ql:q<j:=by
    have:=(NP.mp hq).1;rw[Ph] at this;lia
   rw[abS ql] at hq;have:=(acu (NP.mp hq).1 nd).mp (hq.trans hk.symm);lia
  have ksl:ks.length<=j:=by
   have h1:=cx ks (l.take j) S.nd λx hx=>(mem x).mp hx;rw[Ph] at h1;lia
  refine Mf (O2 (add_int (s:={ s with heap:=h1 }) S (λ_=>by rw[m1];lia) (by lia) λh2 f k2 ⟨o2,PR,Qh,t2,P3,S2,l2,m2,afJ⟩=>?_));have od2:=k2 d _ (M8 lt) od;refine Mf (Ss (s:={ s with heap:=h2 }) od2 rfl ?_);rw[Mq (by simp)];refine Mm ⟨j+1,h2,o2,PR,Qh,t2,P3,by rw[N'] at hi;lia,by rw[e2];congr 1;lia,rfl,λb u e=>k2 b u (M8 (MS e)) (k1 b u e),S2,l2.trans l1,m2.trans m1,λx=>?_⟩;rw[afJ,mem,So,hk,VN,Ny,N3];exact or_comm
 .rintro b s' ⟨i,h1,o,es,QK,t,ks,hi,hr,rfl,k1,S,l1,m1,mem⟩;refine Mm (Mm ⟨_,rfl,rfl,h h1 _ k1 ⟨o,es,QK,t,ks,S,l1,m1,λx=>?_⟩⟩);rw[mem];have:l.take i=l:=Xk (by simp at hi;lia);rw[this]
theorem zi (S:NY s.heap a o es ep t ks)(hM:Sa.Mk M)(hz:sizeAbove n=M+1)(hs:es.size*5<M*3)(h:∀h',(∀b u,b≠a->s.heap.get? b=some u->h'.get? b=some u)->(∃o es ep t' N8,NY h' a o es ep t' N8/\t'.led=t.led/\t'.mask=M/\N8.Perm ks)->Q () { s with heap:=h' }):Ml (Mr prog w) A (setRelay a n) Q E s:=by
 rw[tD];refine Mf (Pm S.ob S.dt S.fits ?_);dsimp only;have hM':M<=255:=by rcases hM with e|e|e|e|e|e <;> lia
 rw[Mq (by rw[hz,Nf];lia)];obtain⟨t',order,e1,e2,e3,e4,e5,e6,e7⟩:=Sa.ac4 (mask:=M) (finger:=t.finger) (moves:=t.movedTo M) (led:=t.led) (plain:=t.plain) hM es (by lia);have er:t.relaid (es.map (·.1)) n=some (t',order):=by
  unfold relaid;rw[hz];exact e1
 rw[er];dsimp only;have ne:((order.filterMap (es[·]?)).size != es.size)=false:=by rw[e5];simp
 rw[ne];simp only[NT,if_false];refine Mf (Mm (ZL S.ob S.dt ?_ (by rw[e5,Nf];lia)));obtain⟨g1,g2,g3⟩:=gB S.ob S.ex S.dt (order.filterMap (es[·]?)) t';obtain⟨N8,q1,q2⟩:=gx e6 S.el;refine h _ g2 ⟨_,_,_,t',N8,⟨g1,S.ex,rfl,e7,?_,by rw[e3];exact S.pl,q1,q2.nodup_iff.mpr S.nd⟩,e4,e2,q2⟩;rw[e7.size,e2,e5];exact hs
theorem Bh (S:NY s.heap a o es ep t ks)(m7:t.mask=7)(h4:ks.length<=4)(m4:more<=4)(h:∀h',(∀b u,b≠a->s.heap.get? b=some u->h'.get? b=some u)->(∃o es ep t' N8,NY h' a o es ep t' N8/\t'.led=t.led/\7<=t'.mask/\(ks=[]->t'=t)/\N8.Perm ks)->Q () { s with heap:=h' }):Ml (Mr prog w) A (setRoomFor a more) Q E s:=by
 have len:=S.len;unfold setRoomFor;refine Mf (Pm S.ob S.dt S.fits ?_);dsimp only
 by_cases c:(es.size+more)*5 >= 21
 .have rf:t.roomFor more=some ((es.size+more)*2):=by
   unfold acA RY;rw[S.full.tab.Sj,S.full.size,m7,Mu (by simp;lia)]
  rw[rf];have key:∃M,Sa.Mk M/\sizeAbove ((es.size+more)*2)=M+1/\es.size*5<M*3/\7<=M:=by
   have hb:es.size+more=5\/es.size+more=6\/es.size+more=7\/es.size+more=8:=by lia
   rcases hb with e|e|e|e <;> rw[e]
   .exact⟨15,.inr (.inr (.inr (.inl rfl))),by decide,by lia,by decide⟩
   .exact⟨15,.inr (.inr (.inr (.inl rfl))),by decide,by lia,by decide⟩
   .exact⟨15,.inr (.inr (.inr (.inl rfl))),by decide,by lia,by decide⟩
   .exact⟨31,.inr (.inl rfl),by decide,by lia,by decide⟩
  obtain⟨M,k1,k2,k3,k4⟩:=key;dsimp only;refine zi S k1 k2 k3 λh' q ⟨o',OI,QK,t',N8,S',l',m',pm⟩=>h h' q ⟨o',OI,QK,t',N8,S',l',by rw[m'];exact k4,λz=>?_,pm⟩;rw[z] at len;have:es.size=0:=len;lia
 .have rf:t.roomFor more=none:=by
   unfold acA RY;rw[S.full.tab.Sj,S.full.size,m7,Mq (by simp;lia)]
  rw[rf];exact Mm (h s.heap (λ_ _ _ q=>q) ⟨o,es,ep,t,ks,S,rfl,by lia,λ_=>rfl,ZU _⟩)
end
section
theorem Bi (S:NY s.heap a o es ep t ks)(hl:t.led=bL w)(h:Q (wo w a ep es) s):Ml (Mr prog w) A (setWalkUnseen a others f) Q E s:=by
 have ld:(cG w||(t.led&&t.plain))=true:=by
  rw[hl,S.pl];show(cG w||(!cG w&&true))=true;cases cG w <;> rfl
 unfold setWalkUnseen;refine Mf (Pm S.ob S.dt S.fits (Mf (dB ?_)));dsimp only;rw[Mu (by rw[ld];rfl),jo];refine Mf (Pm S.ob S.dt S.fits (Mf (dB ?_)));cases b:cG w with
 | true=>
  simp only[if_true];refine Mf (ZP (Mm ?_));unfold wo at h;rw[b] at h;exact h
 | false=>
  have lt:t.led=true:=by rw[hl];show(!cG w)=true;rw[b];rfl
  simp only[NT,if_false,S.pl,QX,ZT,lt];unfold wo at h;rw[b] at h;exact Mm h
theorem pF {ks:List Int}(nd:ks.Nodup)(h:∀x∈ks,0<=x/\x<4):ks.length<=4:=cx ks [0,1,2,3] nd λx hx=>by
 have:=h x hx;have:x=0\/x=1\/x=2\/x=3:=by lia
 rcases this with rfl|rfl|rfl|rfl <;> simp
theorem qP (S1:NY s.heap r o1 WK WN t1 Q8)(S2:NY s.heap a o2 PR Qh t2 P3)(ne:r≠a)(m1:t1.mask=7)(m2:t2.mask=7)(l1:t1.led=bL w)(l2:t2.led=bL w)(small:∀x,x∈Q8\/x∈P3->0<=x/\x<4)(he:∀(s':Md) (Q:Unit->Md->Prop),s'.heap.get? a=some o2->Q () s'->Ml (Mr prog w) A each Q E s')(h:∀h',(∀b u,b≠r->s.heap.get? b=some u->h'.get? b=some u)->(∃o es ep t ks,NY h' r o es ep t ks/\t.led=bL w/\(Q8=[]->t.mask=7)/\∀x,x∈ks↔x∈Q8\/x∈P3)->Q () { s with heap:=h' }):Ml (Mr prog w) A (setMerge r a each) Q E s:=by
 have f1:=pF S1.nd λx hx=>small x (.inl hx);have f2:=pF S2.nd λx hx=>small x (.inr hx);have n2:=S2.len;unfold setMerge;rw[Mq (by simpa using ne)];refine Mf (Pm S2.ob S2.dt S2.fits ?_);dsimp only
 by_cases z:PR.isEmpty=true
 .rw[Mu z];have:P3=[]:=SY.mp (by rw[<-n2];simpa using z);exact Mm (h s.heap (λ_ _ _ q=>q) ⟨o1,WK,WN,t1,Q8,S1,l1,λ_=>m1,λx=>by rw[this];simp⟩)
 rw[Mq z];refine Mf (Bh S1 m1 f1 (by lia) λh1 k1 ⟨o,es,ep,t,ks,S,l,m,e0,pm⟩=>?_);have WQ:NY h1 a o2 PR Qh t2 P3:=S2.keep λu e=>k1 a u (M' ne) e;refine Mf (Pm (s:={ s with heap:=h1 }) S.ob S.dt S.fits ?_);dsimp only
 by_cases z1:Q8=[]
 .have et:=e0 z1;subst et;have e1:es.size=0:=by
   have:=S.len;rw[this,pm.length_eq,z1];rfl
  have rd:t.road t2=.slotForSlot:=by
   unfold NJ.road RY;rw[S.full.tab.Sj,S.full.size,e1,m1,m2,S2.full.tab.Sj];rfl
  rw[rd];dsimp only;refine ZL (s:={ s with heap:=h1 }) S.ob S.dt ?_ (by rw[Nf];lia);obtain⟨g1,g2,g3⟩:=gB S.ob S.ex S.dt PR { t2 with finger:=t.finger,led:=t.led&&t2.led,moves:=t.moves,plain:=t.plain&&t2.plain };refine h _ (λb u hb e=>g2 b u hb (k1 b u hb e)) ⟨_,_,_,_,P3,⟨g1,S.ex,rfl,⟨⟨S2.full.tab.Oj,S2.full.tab.rise,S2.full.tab.le,S2.full.tab.Sj⟩,S2.full.size,S2.full.reach⟩,S2.MW,by show(t.plain&&t2.plain)=true;rw[S.pl,S2.pl];rfl,S2.el,S2.nd⟩,?_,λ_=>m2,λx=>by rw[z1];simp⟩;show(t.led&&t2.led)=bL w;rw[l1,l2,Bool.and_self]
 .have e1:es.size≠0:=by
   have:=S.len;rw[this,pm.length_eq];intro q;exact z1 (SY.mp q)
  have rd:t.road t2=.oneByOne:=by
   unfold NJ.road RY;rw[S.full.tab.Sj,S.full.size,Mu (by simpa using e1)]
  rw[rd];dsimp only;refine Mf (Bi (s:={ s with heap:=h1 }) WQ l2 ?_);rw[<-ZF];have pw:=pe w a Qh PR;obtain⟨ksw,pk,pkp⟩:=gx pw S2.el;refine Mf (Rb _ (λrest _ s'=>∃i h2 o es ep t ks,(wo w a Qh PR).toList.drop i=rest/\s'={ s with heap:=h2 }/\(∀b u,b≠r->h1.get? b=some u->h2.get? b=some u)/\NY h2 r o es ep t ks/\t.led=bL w/\7<=t.mask/\∀x,x∈ks↔x∈Q8\/x∈ksw.take i) _ ?_ ?_ (wo w a Qh PR).toList _
   ⟨0,h1,o,es,ep,t,ks,by simp,rfl,λ_ _ _ q=>q,S,l.trans l1,m,λx=>by simp[pm.mem_iff]⟩)
  .rintro⟨hh,x⟩ rest b s' ⟨i,h2,o,es,ep,t,ks,hr,rfl,k2,S,lt,mt,mem⟩;have hi:(wo w a Qh PR).toList[i]?=some (hh,x):=by
    have:=congrArg List.head? hr;rw[List.head?_drop] at this;exact this
   obtain⟨k,hk,q1,tk,q2⟩:=cp pk hi;dsimp only at q1 q2;subst q1 q2;have Us:k∈P3:=pkp.mem_iff.mp (N1 hk);have sm:∀x∈k::ks,0<=x/\x<4:=λx hx=>by
    rcases M0.mp hx with rfl|hx
    .exact small _ (.inr Us)
    .rcases(mem x).mp hx with q|q
     .exact small x (.inl q)
     .exact small x (.inr (pkp.mem_iff.mp (aaD q)))
   refine Mf (O2 (add_int (s:={ s with heap:=h2 }) S (λRI=>?_) ?_ λh3 f k3 ⟨o3,es3,ep3,t3,ks3,S3,l3,m3,abG⟩=>?_))
   .have:=pF (Py.mpr ⟨RI,S.nd⟩) sm;rw[N'] at this;have:(ks.length+1)*5<=20:=by lia
    have:21<=t.mask*3:=by lia
    lia
   .have:=pF S.nd λx hx=>sm x (Na _ hx);lia
   .have ha3:h3.get? a=some o2:=k3 a _ (M' ne) (k2 a _ (M' ne) WQ.ob);refine Mf (he { s with heap:=h3 } _ ha3 ?_);refine Mf (Pm (s:={ s with heap:=h3 }) ha3 S2.dt S2.fits ?_);dsimp only;rw[Mq (by simp)];refine Mm ⟨i+1,h3,o3,es3,ep3,t3,ks3,?_,rfl,λb u hb e=>k3 b u hb (k2 b u hb e),S3,l3.trans lt,by rw[m3];exact mt,λx=>?_⟩
    .have:=congrArg List.tail hr;rw[List.tail_drop] at this;exact this
    .rw[abG,mem,So,hk,VN,Ny,N3];constructor
     .rintro(q|q|q)
      .exact .inr (.inr q)
      .exact .inl q
      .exact .inr (.inl q)
     .rintro(q|q|q)
      .exact .inr (.inl q)
      .exact .inr (.inr q)
      .exact .inl q
  .rintro b s' ⟨i,h2,o,es,ep,t,ks,hr,rfl,k2,S,lt,mt,mem⟩;have il:(wo w a Qh PR).toList.length<=i:=List.drop_eq_nil_iff.mp hr;have kl:=pk.length;refine Mm (h h2 (λb u hb e=>k2 b u hb (k1 b u hb e)) ⟨o,es,ep,t,ks,S,lt,λq=>Mw q z1,λx=>?_⟩);rw[mem,Xk (by lia),pkp.mem_iff]
end
theorem HZ (args):PH.«frozenset.__or__» args=(do
  let (self,other) <-PH.Frozenset.slot1 "__or__" args
  if !(<-(abQ self <&&> abQ other)) then
   rule s!"frozenset.{"__or__"}.declined"
   return <-ret .notImplemented
  ret (<-(λ(l:D')=>(do
   let result <-aat l
   if other != .ref l then holding [result] (aal s!"frozenset.{"__or__"}" (<-abW result) other)
   return result:Pb G')) (<-abW self))):=rfl
theorem ur:entryFor table "set.__or__"=some PH.«frozenset.__or__»:=
 acL (id':="frozenset.__or__") (by kernel_rfl) rfl (by decide +kernel) (by kernel_rfl)
section
theorem Bj (S:NY s.heap a o1 WK WN t1 Q8)(m1:t1.mask=7)(l1:t1.led=bL w)(small:∀x∈Q8,0<=x/\x<4)(h:∀h',(∀b u,s.heap.get? b=some u->h'.get? b=some u)->(∃o es ep t ks,NY h' s.heap.objs.size o es ep t ks/\t.led=bL w/\t.mask=7/\∀x,x∈ks↔x∈Q8)->Q (.ref s.heap.objs.size) { s with heap:=h' }):Ml (Mr prog w) A (aat a) Q E s:=by
 have lt:a<s.heap.objs.size:=MS S.ob;have hT:s.TypeIs (.ref a) "set":=⟨_,S.ob,S.ex.1⟩
 have n1:=sub_set_self;unfold aat PH.Frozenset.baseOf;refine Mf (Mf (aaO hT n1 (Mm ?_)));simp only[if_true];have new:∀{Q:G'->Md->Prop},Q (.ref s.heap.objs.size) { s with heap:=s.heap.push (bH (bL w)) }->Ml (Mr prog w) A (newSet (.type "set")) Q E s:=λ{Q} hq=>by
  unfold newSet;refine Mf (dB ?_);simp only[newObj];exact Mf (wpAny_alloc (Mm hq))
 refine Mf (new ?_);have hS:(s.heap.push (bH (bL w))).get? s.heap.objs.size=some (bH (bL w)):=NV _ rfl;have Z:=qO hS;refine Mf (Mm (Mf (qP (s:={ s with heap:=s.heap.push (bH (bL w)) }) Z (S.keep λu e=>MZ _ e) (Su lt) rfl m1 rfl l1 (λx hx=>small x (hx.resolve_left (by simp))) (λs' Q _ hq=>Mm hq) λh' k ⟨o,es,ep,t,ks,S',l',m',mem⟩=>?_)));exact Mm (h h' (λb u e=>k b u (M8 (MS e)) (MZ _ e)) ⟨o,es,ep,t,ks,S',l',m' rfl,λx=>by rw[mem];simp⟩)
theorem or_int (S1:NY s.heap a o1 WK WN t1 Q8)(S2:NY s.heap b o2 PR Qh t2 P3)(ne:a≠b)(m1:t1.mask=7)(m2:t2.mask=7)(l1:t1.led=bL w)(l2:t2.led=bL w)(small:∀x,x∈Q8\/x∈P3->0<=x/\x<4)(h:∀h',(∀b u,s.heap.get? b=some u->h'.get? b=some u)->(∃o es ep t ks,NY h' s.heap.objs.size o es ep t ks/\t.led=bL w/\∀x,x∈ks↔x∈Q8\/x∈P3)->Q (.ref s.heap.objs.size) { s with heap:=h' }):Ml (Mr prog w) A (binaryOp .BitOr (.ref a) (.ref b)) Q E s:=by
 have hT1:s.TypeIs (.ref a) "set":=⟨_,S1.ob,S1.ex.1⟩
 have YY:s.TypeIs (.ref b) "set":=⟨_,S2.ob,S2.ex.1⟩
 have lt:b<s.heap.objs.size:=MS S2.ob;have n1:=sub_set_self;refine wpAny_binaryOp_same (op:=.BitOr) hT1 YY PySem.F.fills_set_or aeu (Ra aeu hT1 ur ?_ (PySem.F.args_set_or_2 _ _));rw[HZ];generalize hC:aat=C;wp_walk;subst hC;refine Bj S1 m1 l1 (λx hx=>small x (.inl hx)) λh1 k1 ⟨o,es,ep,t,ks,S,l,m,mem⟩=>?_;have WQ:NY h1 b o2 PR Qh t2 P3:=S2.keep λu e=>k1 b u e;have hT3:XJ { s with heap:=h1 } (.ref b) "set":=⟨_,WQ.ob,S2.ex.1⟩
 dsimp only;rw[Mu (by simp only[bne_iff_ne,ne_eq,Nd.injEq];exact M' ne)];refine Mf (Mm (Mf (O2 ?_)));unfold aal abQ;generalize hM:ad9=MG;wp_walk;subst hM;unfold ad9 setEpoch;refine Mf (Mf (Pm (s:={ s with heap:=h1 }) WQ.ob S2.dt S2.fits (Mm ?_)));refine qP (s:={ s with heap:=h1 }) S WQ (Su lt) m m2 l l2 (λx hx=>small x (hx.imp (mem x).mp id)) (λs' Q' ha hq=>?_) λh2 k2 ⟨o3,es3,ep3,t3,ks3,S3,l3,_,abG⟩=>?_
 .unfold PH.Frozenset.unchanged setEpoch;refine Mf (Mf (Pm ha S2.dt S2.fits (Mm ?_)));rw[Mq (by simp)];exact Mm hq
 .refine Mm (Mm ⟨_,rfl,(by intro z;cases z),h h2 (λc u e=>k2 c u (M8 (MS e)) (k1 c u e)) ⟨o3,es3,ep3,t3,ks3,S3,l3,λx=>by rw[abG,mem]⟩⟩)
end
section
theorem NY.wk (S:NY h a o es ep t ks)(l:t.led=bL w):Wk w h a es ep t:=⟨⟨o,S.ob,S.ex,S.dt⟩,S.full.tab.rise,S.full.size,S.fits,S.pl,l⟩
theorem oq:∀{l:List Sa.Oa}{ks:List Int},MC ElI l ks->Ry (l.map (·.2)) ks
 | _,_,.nil=>.nil
 | _,_,.cons ⟨_,t,e⟩ r=>by
  rw[Nt,e];exact .cons _ _ (oq r)
theorem zj (p:vs.Perm us):∀{ks:List Int},Ry us ks->∃N8,Ry vs N8/\N8.Perm ks:=by
 induction p with
 | nil=>intro ks h;cases h;exact⟨[],.nil,.nil⟩
 | cons x _ ih=>
  intro ks h;cases h with
  | cons n tk r=>
   obtain⟨k',a,b⟩:=ih r;exact⟨_,.cons _ _ a,b.cons _⟩
 | swap x y l=>
  intro ks h;cases h with
  | cons n tk r=>
   cases r with
   | cons n' UO r=>exact⟨_,.cons _ _ (.cons _ _ r),.swap _ _ _⟩
 | trans _ _ ih1 ih2=>
  intro ks h;obtain⟨k1,a1,b1⟩:=ih2 h;obtain⟨k2,a2,b2⟩:=ih1 a1;exact⟨k2,a2,b2.trans b1⟩
theorem xg (hh:A.handled=none)(S:NY s.heap a o es ep t ks)(l:t.led=bL w)(hn:ks.length<64)(h:∀h' tk l (out:Array G') (Ob:List Int) c,(∀b o,s.heap.get? b=some o->h'.get? b=some o)->s.heap.objs.size<=l->h'.get? l=some (M5 "list" out c)->Ry out.toList Ob->Ob.Perm ks->Ob.Pairwise (·<=·)->Q (.ref l) { s with heap:=h',toks:=tk }):
  Ml (Mr prog w) A (call (.builtin "sorted") [.ref a]) Q E s:=by
 have len:=S.len;refine aao abb aa4 aa5 (aa6 _) ?_;unfold PH.«sorted»;refine Mf (m:=checkCount "sorted" 1 1 _) (Mm (Mf (lO (by simp[hh]) (S.wk l) (by lia) λh1 tk vs k1 lt pm=>Mf (V1 ?_ (by rw[Nf,pm.length_eq,Ng,Od];lia)))));obtain⟨ns,hI,pn⟩:=zj pm (oq S.el);have vl:vs.length=es.size:=by rw[pm.length_eq,Ng,Od]
 have hL:(h1.push (M5 "list" vs.toArray 0)).get? h1.objs.size=some (M5 "list" vs.toArray 0):=NV _ rfl;refine Mf (O2 (Ra aam ⟨_,hL,rfl⟩ aak (list_sort_tree (s:={ s with heap:=h1.push (M5 "list" vs.toArray 0),toks:=tk }) hL hI (by lia) λout Ob a1 a2 a3=>⟨_,rfl,Mm ⟨_,rfl,?_⟩⟩) (aaT _)));obtain⟨e1,o1⟩:∃e1,((h1.push (M5 "list" vs.toArray 0)).update h1.objs.size (OU λ_=>#[])).get? h1.objs.size=some (M5 "list" #[] e1):=⟨_,XE hL _⟩
 have o2:((((h1.push (M5 "list" vs.toArray 0)).update h1.objs.size (OU λ_=>#[])).push (M5 "tuple" vs.toArray 0)).push (M5 "list" #[] 0)).get? h1.objs.size=some (M5 "list" #[] e1):=MZ _ (MZ _ o1);refine h _ _ h1.objs.size out Ob _ (λb o e=>?_) lt (XE o2 _) a1 (a2.trans pn) a3;have ne:b≠h1.objs.size:=M8 (MS (k1 b o e));exact(S0 _ _ (M' ne)).trans (MZ _ (MZ _ ((S0 _ _ (M' ne)).trans (MZ _ (k1 b o e)))))
end
def ut (w:Mt)(a:D')(m:Bool)(ks:List Int)(h:Mp):Prop:=∃o es ep t,NY h a o es ep t ks/\t.led=bL w/\(m=true->t.mask=7)
def gj (w:Mt)(a:D')(m:Bool)(ks:List Int):HO:=.ext (ut w a m ks)
theorem vV (x:ut w a m ks h):bg P w H h a (gj w a m ks):=by
 refine⟨x,?_,λh1 h2 ⟨o,es,ep,t,S,r⟩ k=>⟨o,es,ep,t,S.keep k,r⟩⟩;obtain⟨o,_,_,_,S,_⟩:=x;exact⟨o,S.ob⟩
section
theorem qQ:cC X (.type "set") (λxs H Q=>∃p l,xs=[.ref p]/\H p=some (.dK (NU l))/\l.length<=4/\∀q ks,H q=none->ks.Nodup->(∀x,x∈ks↔x∈l.map (·.1))->Q (.ref q) (upd H q (gj X.w q true ks))):=by
 intro aa s σ H xs us Q I r h;obtain⟨p,l,rfl,hp,MW,q⟩:=h;obtain⟨u,rfl,ru⟩:=dw r;cases ru;obtain⟨z,hd,vs,rel,o,es,ep,h1,h2,h3,h4,h5,h6⟩:=jk I.My hp;obtain⟨xs,x1,x2,x3⟩:=mF (P:=X.prog) (w:=X.w) rel h5 λe he=>h4 e (aay.mp he);have keys:∀{l:List (Int×Int)}{xs:List (SK×G'×G')},YS (Rp l) xs->MC (λ(e:Op) k=>e.hash=hashInt k/\∃t,e.key=.int k t) (xs.map λx=>(⟨lm x.1,x.2.1,x.2.2⟩:Op)) (l.map (·.1)):=by
  intro l
  induction l with
  | nil=>intro xs p;rw[show Rp []=[] from rfl] at p;cases p;exact .nil
  | cons a l ih=>
   intro xs p;rw[show Rp (a::l)=(.inl a.1,.int a.1,a.2)::Rp l from rfl] at p;cases p with
   | @cons _ b _ bs r1 r2=>
    obtain⟨e1,⟨tk,e2⟩,_⟩:=r1;refine .cons ⟨?_,tk,e2⟩ (ih r2);show lm b.1=_;rw[<-e1];rfl
 have nd:(l.map (·.1)).Nodup:=by
  have e:vs.map (·.1)=(l.map λp=>Oy p.1):=by
   have:∀{l:List (Int×Int)}{vs:List (Key×G')},KV (NU l) vs->vs.map (·.1)=l.map λp=>Oy p.1:=by
    intro l
    induction l with
    | nil=>intro vs r;rw[show NU []=[] from rfl] at r;cases r;rfl
    | cons p l ih=>
     intro vs r;rw[show NU (p::l)=(.inl p.1,.int p.2)::NU l from rfl] at r;cases r with
     | cons r1 r2=>rw[Nt,ih r2,Nt,<-r1.1]
   exact this rel
  rw[e] at h6;unfold V' at h6 ⊢;rw[Sn] at h6 ⊢;exact h6.imp λh q=>h (by rw[q])
 refine uZ hd h1 h2 h3 (by rw[x2];exact keys x1) nd (by rw[Ng];exact MW) λh' tk k ⟨o',OI,QK,t',ks,S,hl,hm,mem⟩=>?_;exact⟨.ref s.heap.objs.size,_,I.laid (o:=gj X.w s.heap.objs.size true ks) k (MJ _) (vV ⟨o',OI,QK,t',S,hl,λ_=>hm⟩),rfl,q _ ks (I.My.fresh (MJ _)) S.nd mem⟩
theorem pG {σ:St}(I:Inv X aa σ H s)(e:H a=some (gj X.w a m ks)):ut X.w a m ks s.heap:=
 (show bg X.prog X.w H s.heap a (gj X.w a m ks) from I.My a _ e).1
theorem EB:Nr X (binaryOp .BitOr) (λx y H Q=>∃a b ka kb,x=.ref a/\y=.ref b/\a≠b/\H a=some (gj X.w a true ka)/\H b=some (gj X.w b true kb)/\(∀x,x∈ka\/x∈kb->0<=x/\x<4)/\∀q ks,H q=none->ks.Nodup->(∀x,x∈ks↔x∈ka\/x∈kb)->Q (.ref q) (upd H q (gj X.w q false ks))):=by
 intro aa s σ H x y v u Q I rx ry h;obtain⟨a,b,ka,kb,rfl,rfl,ne,ha,hb,small,q⟩:=h;cases rx;cases ry;obtain⟨o1,WK,WN,t1,S1,l1,m1⟩:=pG I ha;obtain⟨o2,PR,Qh,t2,S2,l2,m2⟩:=pG I hb;refine or_int S1 S2 ne (m1 rfl) (m2 rfl) l1 l2 small λh' k ⟨o',OI,QK,t',ks,S,hl,mem⟩=>?_;exact⟨.ref s.heap.objs.size,_,I.laid (t':=s.toks) (o:=gj X.w s.heap.objs.size false ks) k (MJ _) (vV ⟨o',OI,QK,t',S,hl,λz=>by cases z⟩),rfl,q _ ks (I.My.fresh (MJ _)) S.nd mem⟩
theorem uu (hc:X.calm=true):cC X (.builtin "sorted") (λxs H Q=>∃p m ks,xs=[.ref p]/\H p=some (gj X.w p m ks)/\ks.length<64/\∀(l:D') (Ob:List Int),H l=none->Ob.Perm ks->Ob.Pairwise (·<=·)->Q (.ref l) (upd H l (.lst (Ob.map V.int)))):=by
 intro aa s σ H xs us Q I r h;obtain⟨p,m,ks,rfl,hp,MW,q⟩:=h;obtain⟨u,rfl,ru⟩:=dw r;cases ru;obtain⟨o,es,ep,t,S,hl,_⟩:=pG I hp;refine xg (I.ok.hd hc) S hl MW λh' tk l out Ob c k le e1 a1 a2 a3=>?_;have hv:aw (Ob.map V.int) out.toList:=ir a1;have hlen:=a2.length_eq;exact⟨.ref l,_,I.laid (o:=.lst (Ob.map V.int)) k le ⟨by rw[Ng,Nf];lia,out.toList,c,hv,by simpa [M5] using e1⟩,rfl,q l Ob (I.My.fresh le) a2 a3⟩
end
theorem zm:typeLookup (.type "tuple") "keys"=pure none:=by rw[acG,acb];kernel_rfl
section
theorem zn (hx:s.heap.get? a=some { cls:=.type "tuple",dict:=none,data:=.seq xs k,slots:=sl })(hA:A.handled=none)(h:∀h' tk,(∀b o,s.heap.get? b=some o->h'.get? b=some o)->Q none { s with heap:=h',toks:=tk }):Ml (Mr prog w) A (getAttr? (.ref a) "keys") Q E s:=by
 obtain⟨hp,g,d,tk,os⟩:=s;have hT:∀UO,(⟨hp,g,d,UO,os⟩:Md).TypeIs (.ref a) "tuple":=λ_=>⟨_,hx,rfl⟩
 have f1:=sub_AttributeError;have f3:=abO.lookup;have f4:=abO.bind (.ref a);have f5:=am_tuple_getattr_none;unfold getAttr? getAttrBy? getAttrBy
 repeat (any_goals (first|assumption|exact hT _|((with_reducible show Ml _ _ (call (V2 "tuple.__getattribute__") _ _) _ _ _);refine V9 abO (hT _) am_entry_tuple_getattribute (PySem.F.args_tuple_getattribute_2 _ _) (meets_getattribute_miss_tuple a xs k sl "keys" _ zm (by decide +kernel) (by decide +kernel)) ⟨hx,hA,λh' UO e hx'=>?_⟩)|wp_step))
 obtain⟨t',u',he⟩:=hx'.there;have hE:(⟨h',g,d,UO,os⟩:Md).TypeIs (.ref e) "AttributeError":=⟨_,he,rfl⟩
 show Ml _ _ (getattributeRaised _ _ _ _ _ _ _) _ _ _;unfold getattributeRaised
 repeat (any_goals (first|assumption|wp_step))
 exact h h' UO hx'.keeps
theorem iE:entryFor table "dict.update.loop"=some PH.«dict.update.loop»:=entryFor_of_tree (by kernel_rfl)
theorem dY:plainId "dict.update.loop"=true:=by decide +kernel
def jB (h:Mp)(v:G')(p:Int×Int):Prop:=∃b t u,v=.ref b/\h.IsTuple b #[.int p.1 t,.int p.2 u]
theorem jB.keep (x:jB h v p)(k:∀b o,o.cls=.type "tuple"->h.get? b=some o->h'.get? b=some o):jB h' v p:=by
 obtain⟨b,t,u,rfl,o,e,c,n,d⟩:=x;exact⟨b,t,u,rfl,o,k _ _ c e,c,n,d⟩
theorem uv {kvs:List (Key×G')}(h:k∉kvs.map (·.1)):stored kvs k v=kvs++[(k,v)]:=by
 unfold stored;rw[Mq];intro z;obtain⟨kv,h1,h2⟩:=List.any_eq_true.mp z;exact h (Nm.mpr ⟨kv,h1,by simpa using h2⟩)
theorem zp (hh:A.in1.handled=none)(hI:I≠t)(hDI:D≠I)(hDt:D≠t)(p:MC (jB h0) items.toList l)(nd:(l.map (·.1)).Nodup)(MW:l.length<=100):
  ∀(n i:Nat) (s:Md) (tk0:Tok),items.size-i=n->i<=items.size->(s.heap.IsTupleIter I t i/\s.heap.IsTuple t items)->(∀b o,b≠D->b≠I->h0.get? b=some o->s.heap.get? b=some o)->(∀b o,h0.get? b=some o->b≠D/\b≠I)->
   (∃kvs,KV (NU (l.take i)) kvs/\s.heap.DictOf (aL prog w) D kvs)->
   (∀h' tk,(∀b o,b≠D->b≠I->s.heap.get? b=some o->h'.get? b=some o)->(∃kvs,KV (NU l) kvs/\h'.DictOf (aL prog w) D kvs)->R (.ok (.ret .none)) { s with heap:=h',toks:=tk })->
   codeAny (Mr prog w) A (.builtin "dict.update.loop" ⟨[.ref D,.ref I,.int i tk0,.none],[]⟩) R s:=by
 have W:=Walks.tuple (prog:=prog) (w:=w) hh I t (M' hI) items;have kl:items.size=l.length:=by rw[<-Od];exact p.length
 intro n
 induction n with
 | zero=>
  intro i s tk0 hd hi st kp nw F h;obtain rfl:i=items.size:=by lia
  refine Sr iE ?_;rw[VI dY _];show Ml _ A.in1 (pyNext (.ref I) >>= _) _ _ s;refine Mf (W.done s _ _ st λh' tk k1=>?_);have up:∀b o,b≠I->s.heap.get? b=some o->h'.get? b=some o:=λb o hb e=>k1 b o (by simpa using hb) e;show Ml _ A.in1 (PH.Dict.addKeywords D [] >>= λ_=>ret Sv) _ _ _;refine Mf (Mm (Mm (h h' tk (λb o _ hb e=>up b o hb e) ?_)));obtain⟨kvs,r,o,es,ep,e1,e2⟩:=F;rw[kl,QB] at r;exact⟨kvs,r,o,es,ep,up _ _ hDI e1,e2⟩
 | succ n ih=>
  intro i s tk0 hd hi st kp nw F h;have Nw:i<items.size:=by lia
  refine Sr iE ?_;rw[VI dY _];show Ml _ A.in1 (pyNext (.ref I) >>= _) _ _ s;refine Mf (W.item i s _ _ Nw st λv h1 tk hv st1 k1=>?_);have up:∀b o,b≠I->s.heap.get? b=some o->h1.get? b=some o:=λb o hb e=>k1 b o (by simpa using hb) e;obtain⟨q,hq,pr⟩:=cp (i:=i) (a:=v) p (by rw[S7];exact hv);have pr1:jB h1 v q:=pr.keep λb' o' _ z=>up b' o' (nw b' o' z).2 (kp b' o' (nw b' o' z).1 (nw b' o' z).2 z);obtain⟨b,t1,t2,rfl,ob,Si,hcb,nb,QL⟩:=pr1;obtain⟨kvs,r,o,es,ep,e1,e2⟩:=F;have D1:h1.DictOf (aL prog w) D kvs:=⟨o,es,ep,up _ _ hDI e1,e2⟩
  have hT:XJ { s with heap:=h1,toks:=tk } (.ref b) "tuple":=⟨ob,Si,hcb⟩
  dsimp only;refine Mf (O2 ?_);refine Mf (wpAny_tryCatch ?_);unfold PH.Dict.pairItems;refine Mf (V6 hT ?_);rw[Mu (by decide)];refine Mf (aaV (s:={ s with heap:=h1,toks:=tk }) Si QL (Mm ?_));show Ml _ A.in1 (holding [Ov q.1 t1,Ov q.2 t2] (dictSet D (Ov q.1 t1) (Ov q.2 t2))) _ _ _;have kvl:kvs.length=(l.take i).length:=by have:=VZ r;rw[Ng] at this;exact this.symm
  have fresh:(Oy q.1:Key)∉kvs.map (·.1):=λz=>by
   have e:∀{l:List (Int×Int)}{vs:List (Key×G')},KV (NU l) vs->vs.map (·.1)=l.map λp=>Oy p.1:=by
    intro l
    induction l with
    | nil=>intro vs r;rw[show NU []=[] from rfl] at r;cases r;rfl
    | cons p l ih=>
     intro vs r;rw[show NU (p::l)=(.inl p.1,.int p.2)::NU l from rfl] at r;cases r with
     | cons r1 r2=>rw[Nt,ih r2,Nt,<-r1.1]
   rw[e r] at z;obtain⟨x,hx,ex⟩:=Nm.mp z;obtain⟨j,hj⟩:=UT.mp hx;have jl:j<i:=by
    have:=(NP.mp hj).1;rw[Ph] at this;lia
   rw[abS jl] at hj;have a1:(l.map (·.1))[j]?=some q.1:=by rw[O0,hj];injection ex with ex;rw[<-ex];rfl
   have a2:(l.map (·.1))[i]?=some q.1:=by rw[O0,hq];rfl
   have:=(acu (NP.mp a1).1 nd).mp (a1.trans a2.symm);lia
  refine O2 (wpAny_dictSet_pairs (s:={ s with heap:=h1,toks:=tk }) (knd:=aL prog w) (k:=.inl q.1) (pQ q.1 t1) D1 (λh2 D2 sb=>?_) (by rw[kvl,Ph,Nf];lia));rw[uv fresh] at D2;have nI:∀b o,b≠D->h1.get? b=some o->h2.get? b=some o:=λb o hb e=>(sb.2 b hb).trans e;refine Mm ⟨ZZ dY _,ih (i+1) { s with heap:=h2,toks:=tk+1 } 0 (by lia) Nw ?_ (λb' o' z1 z2 z=>nI b' o' z1 (up b' o' z2 (kp b' o' z1 z2 z))) nw ⟨_,?_,D2⟩ λh' UO k' F'=>h h' UO (λb' o' z1 z2 z=>k' b' o' z1 z2 (nI b' o' z1 (up b' o' z2 z))) F'⟩
  .exact W.frame (i+1) h1 h2 st1 λb' O7 o' z=>nI b' o' (by
    simp only[M0,QC,or_false] at O7;rcases O7 with rfl|rfl
    .exact M' hDI
    .exact M' hDt) z
  .have e:l.take (i+1)=l.take i++[q]:=by rw[So,hq];rfl
   rw[e];show KV (NU (l.take i++[q])) _;rw[show NU (l.take i++[q])=NU (l.take i)++[(.inl q.1,.int q.2)] from by simp[NU]];exact cJ r (.cons ⟨rfl,t2,rfl⟩ .nil)
theorem rh (hh:A.handled=none)(ht:eY s.heap t items)(p:MC (jB s.heap) items.toList l)(nd:(l.map (·.1)).Nodup)(MW:l.length<=100)(h:∀h' tk,(∀b o,s.heap.get? b=some o->h'.get? b=some o)->(∃kvs,KV (NU l) kvs/\h'.DictOf (aL prog w) s.heap.objs.size kvs)->Q (.ref s.heap.objs.size) { s with heap:=h',toks:=tk }):Ml (Mr prog w) A (call (.type "dict") [.ref t]) Q E s:=by
 refine callType_codes (Q₁:=λobj MN=>obj=.ref s.heap.objs.size/\MN={ s with heap:=s.heap.push { cls:=.type "dict",data:=.dict #[] } }) PySem.F.kt_called_dict (PySem.F.kt_typeCall_dict_1 _) PySem.F.entry_dict_init (kt_code_dict_new _ ⟨rfl,rfl⟩) ?_;rintro obj MN ⟨rfl,rfl⟩;have X3:(s.heap.push { cls:=.type "dict",data:=.dict #[] }).DictOf (aL prog w) s.heap.objs.size []:=aeI s.heap;refine⟨X3.typeIs,PySem.F.args_dict_init_2 _ _,?_⟩;unfold PH.«dict.__init__»;refine Mf ?_;unfold PH.Dict.selfAndRest;refine Mf (wpAny_notOrdered_dict X3.typeIs ?_);show Ml _ _ (pure (s.heap.objs.size,[Nd t])) _ _ _;refine Mm ?_;show Ml _ _ (aea "dict.__init__" s.heap.objs.size (.ref t) [] .none) _ _ _;unfold aea;obtain⟨⟨oc,od,odt,PN⟩,ho,c1,n,c2,c3⟩:=ht;dsimp only at c1 c2 c3;subst c1 c2 c3;have Ty:(s.heap.push { cls:=.type "dict",data:=.dict #[] }).get? t=some { cls:=.type "tuple",dict:=none,data:=.seq items n,slots:=PN }:=MZ _ ho;have lt:t<s.heap.objs.size:=MS ho;refine Mf (V6 (T:="tuple") ⟨_,Ty,rfl⟩ ?_);dsimp only;rw[Mu (by decide)];refine Mf (zn (s:={ s with heap:=s.heap.push { cls:=.type "dict",data:=.dict #[] } }) Ty (by simp[hh]) λh1 tk1 k1=>?_);simp only[Option.isNone_none,if_true];have WU:h1.IsTuple t items:=⟨_,k1 _ _ Ty,rfl,n,rfl⟩
 have hD:(s.heap.push { cls:=.type "dict",data:=.dict #[] }).get? s.heap.objs.size=some { cls:=.type "dict",data:=.dict #[] }:=NV _ rfl;have lt1:s.heap.objs.size<h1.objs.size:=MS (k1 _ _ hD);refine Mf (Qa (Mf (wpAny_pyIter_tuple (s:={ s with heap:=h1,toks:=tk1 }) WU ?_)));have up:∀b o,s.heap.get? b=some o->(h1.push { cls:=.type "tuple_iterator",data:=.fields #[.ref t,.int 0 0] }).get? b=some o:=λb o e=>MZ _ (k1 b o (MZ _ e));refine Mm ⟨ZZ dY _,zp (h0:=s.heap) (D:=s.heap.objs.size) (I:=h1.objs.size) (t:=t) (items:=items) (l:=l) (by simp[hh]) (Su (Z2 lt lt1)) (M8 lt1) (Su lt) p nd MW (items.size-0) 0 _ 0 rfl (NX _)
  ⟨⟨_,NV _ rfl,rfl,rfl⟩,WU.push _⟩ (λb o _ _ e=>up b o e) (λb o e=>⟨M8 (MS e),M8 (Z2 (MS e) lt1)⟩) ⟨[],.nil,?_⟩ λh' tk k' F=>⟨rfl,h h' tk (λb o e=>k' b o (M8 (MS e)) (M8 (Z2 (MS e) lt1)) (up b o e)) F⟩⟩
 obtain⟨o,es,ep,e1,e2⟩:=X3;exact⟨o,es,ep,MZ _ (k1 _ _ e1),e2⟩
end
section
theorem Inv.aeS {σ:St}(I:Inv X aa σ H s)(h:MR X.K H a xs):∃Mh:List G',aw xs Mh/\eY s.heap a Mh.toArray/\xs.length<=Mz:=by
 rcases h with h|⟨o,Mh,n,hk,hc,hs,hz,r,hd⟩
 .obtain⟨z,Mh,r,p⟩:=h.ok I.My;exact⟨Mh,r,p,z⟩
 .refine⟨Mh.toList,r,⟨o,I.NZ a o hk,hc,n,by simpa using hs,hd⟩,?_⟩;have e:=r.length;simp only[Od] at e;lia
theorem xh (hc:X.calm=true):cC X (.type "dict") (λxs H Q=>∃(p:D') (ys:List V) (l:List (Int×Int)),xs=[.ref p]/\MR X.K H p ys/\MC (λy d=>∃a,y=.ref a/\MR X.K H a [.int d.1,.int d.2]) ys l/\(l.map (·.1)).Nodup/\l.length<=100/\∀q,H q=none->Q (.ref q) (upd H q (.dK (NU l)))):=by
 intro aa s σ H xs us Q I r h;obtain⟨p,ys,l,rfl,hp,pd,nd,MW,q⟩:=h;obtain⟨u,rfl,ru⟩:=dw r;cases ru;obtain⟨Mh,rv,pl,hz⟩:=I.aeS hp;have pp:MC (jB s.heap) Mh l:=kW (F:=ax) (G:=λy (d:Int×Int)=>∃a,y=V.ref a/\MR X.K H a [.int d.1,.int d.2]) (λy u d h1 ⟨a,e,h2⟩=>by
  subst e;cases h1;obtain⟨it2,r2,p2,_⟩:=I.tuple h2;cases r2 with
  | cons a1 r2=>
   cases r2 with
   | cons a2 r2=>
    cases r2;obtain⟨t1,rfl⟩:=a1;obtain⟨t2,rfl⟩:=a2;exact⟨a,t1,t2,rfl,p2⟩) rv pd
 refine rh (I.ok.hd hc) pl (by simpa using pp) nd MW λh' tk k ⟨kvs,rk,dd⟩=>?_;have hl:(NU l).length<=Mz:=by rw[Ng,Nf];lia
 exact⟨.ref s.heap.objs.size,_,I.laid (o:=.dK (NU l)) k (MJ _) (ny hl (beq_eq_false_iff_ne.mpr (M' (M8 I.UC))) rk dd),rfl,q _ (I.My.fresh (MJ _))⟩
end
section
variable {X:Cx}{α:Type} [DecidableEq α]
def Bl (k:Dk α)(K:Mi)(neg:Bool):R2:=λx y H Q=>∃b as,k.rep K H x b/\(AJ k).rep K H y as/\Q (.bl (if neg then !as.any (λa=>decide (a=b)) else as.any (λa=>decide (a=b)))) H
theorem zq (k:Dk α)(hu:X.A.units+1+k.N7<MQ):Nr X (OM .NotIn) (Bl k X.K true):=by
 intro aa s σ H x y v u Q I rx ry h;obtain⟨b,as,hb,⟨p,xs,rfl,hq,hp⟩,q⟩:=h;cases ry;obtain⟨Mh,r,pl,hz⟩:=I.tuple hq;obtain⟨h1,h2⟩:=iW k (A:=X.A.in1) I hu rx hb r hp;refine aep (fh k X.K H b) pl (λw hw=>h1 w (by simpa using hw)) ⟨.bl _,H,I,rfl,?_⟩;rw[show Mh.toArray.any (fh k X.K H b)=Mh.any (fh k X.K H b) by simp,h2];exact q
end
end L2
namespace Ord
open PySem L2 Mx
abbrev rH:Mv:=top 39
abbrev lz:Mv:=top 40
abbrev mH:Mv:=top 41
theorem BX:Pz "min"=some (.builtin "min"):=by decide +kernel
theorem EC:Pz "dict"=some (.type "dict"):=by decide +kernel
structure WV (K)(mg:Me->Option G')(CO):Prop where
 t:N9 K mg CO
 min:mg "min"=none
 dict:mg "dict"=none
section
def uw (K:Mi):Sp:=λvs H Q _=>∃(c:D') (cl:Bk.Cl) (a b:Int),vs=[.ref c,.int a,.int b]/\bM.rep K H (.ref c) (enc cl)/\∀(v:V) (H':Hp),ar H H'->cF K H' v (Bk.cS cl a b)->Q v H'
theorem zt:NE ["closes","one","other","settled"] ["closes","one","other"] (ak rH):=⟨rfl,rfl,rfl,by decide +kernel,rfl,by decide +kernel,by decide +kernel⟩
theorem C9 {cl:Bk.Cl}:(enc cl).any (λa=>decide (a=[x,y]))=decide ((x,y)∈cl):=by
 induction cl with
 | nil=>rfl
 | cons p cl ih=>
  rw[show enc (p::cl)=[p.1,p.2]::enc cl from rfl,Td,ih];obtain⟨a,b⟩:=p
  by_cases h:a=x/\b=y
  .obtain⟨rfl,rfl⟩:=h;simp
  .have h1:¬[a,b]=[x,y]:=λe=>h (by injection e with e1 e2;injection e2 with e2 _;exact⟨e1,e2⟩);have h2:¬(x,y)=(a,b):=λe=>h (by injection e with e1 e2;exact⟨e1.symm,e2.symm⟩);simp[h1,h2]
theorem vW (a:Int):(if (1:Int)<a then (1:Int) else a)=min a 1:=by
 by_cases h:1<a
 .rw[Mu h,acz (by lia)]
 .rw[Mq h,acI (by lia)]
theorem vX (F:Nh K "meet" "meet" rH f fd)(T:WV K mg CO):MU P w K mg base MM 1 f fd ["closes","one","other"] (uw K):=by
 refine F.ok zt (λvs H Q E h=>?_) (λMB A outer s H vs Q E hr h=>?_)
 .obtain⟨c,cl,a,b,rfl,_⟩:=h;rfl
 obtain⟨c,cl,a,b,rfl,rc,z⟩:=h;obtain⟨t0,m0⟩:=T.t.no;obtain⟨t1,m1⟩:=T.t.en;have hu:(A.deeper (Pl "meet" (ak rH) s.heap.objs.size f MB)).units+1+au.N7<MQ:=by have:=hr.un;show(A.deeper _).units+1+1<MQ;lia
 refine⟨_,af (aA (i:=3) zt.nd rfl (by first|exact MX rfl|exact NR rfl) (Hq (iP jf (pv 1) (aH (v:=.int 1) rfl m1 ⟨t1,rfl⟩) (aI _)) (jM (iP jf (pv 2) (aH (v:=.int 1) rfl m1 ⟨t1,rfl⟩) (aI _)))))
  (af (aQ (PW.pt (xQ (lX (pv 3) (λ_=>rfl)) (vc (ay (show Nr _ _ (Bl au K true) from zq au hu) (cb (ac (aE (pR rfl) rfl T.min BX (ac (pv 1) (ac (aH (v:=.int 1) rfl m1 ⟨t1,rfl⟩) ae))) (ac (aE (pR rfl) rfl T.min BX (ac (pv 2) (ac (aH (v:=.int 1) rfl m1 ⟨t1,rfl⟩) ae))) ae))) (pv 0) rfl)))) (al (aM (aH (v:=.int 0) rfl m0 ⟨t0,rfl⟩))) az)
  (af (aQ (PW.pt (xQ (ay jf (pv 1) (aH (v:=.int 1) rfl m1 ⟨t1,rfl⟩) (aI _)) (vc (ay jf (pv 2) (aH (v:=.int 1) rfl m1 ⟨t1,rfl⟩) (aI _))))) (al (aM (aH (v:=.int 1) rfl m1 ⟨t1,rfl⟩))) az)
  (al (aM (cb (ac (pv 1) (ac (pv 2) ae))))))),?_⟩
 have last:∀(H1:Hp) (v3:Option V),ar H H1->¬((a<=1\/b<=1)/\(min a 1,min b 1)∉cl)->rR (wl (wj (jg (Tu (Rl λi j=>V.bl (decide (i<=j))) (dF 1) (tC (V.int 1)))) (jg (Tu (Rl λi j=>V.bl (decide (i<=j))) (dF 2) (tC (V.int 1))))) (lV (tC (V.int 1))) rj) (lV (rV (eE (dF 1) (eE (dF 2) gS)))) { nx:=λx H'=>Q V.MV H',rt:=Q } [some (.ref c),some (.int a),some (.int b),v3] H1:=by
  intro H1 v3 s1 nc;refine⟨_,rfl,a,1,rfl,rfl,_,rfl,?_⟩;have two:¬(a<=1/\b<=1)->lV (rV (eE (dF 1) (eE (dF 2) gS))) { nx:=λx H'=>Q V.MV H',rt:=Q } [some (.ref c),some (.int a),some (.int b),v3] H1:=λnb=>by
   refine⟨_,rfl,_,rfl,by show 2<=Mz;decide,λp hp=>?_⟩;refine z _ _ (s1.trans (ai hp _)) ?_;unfold Bk.cS;rw[Mq nc,Mq nb];exact cg (o:=[a,b]) MR.up
  by_cases ha:a<=1
  .rw[M6 ha];refine aV ⟨_,rfl,b,1,rfl,rfl,_,rfl,?_⟩
   by_cases hb:b<=1
   .rw[M6 hb];refine aV (z _ _ s1 ?_);unfold Bk.cS;rw[Mq nc,Mu ⟨ha,hb⟩];rfl
   .rw[M4 hb];exact aK (two λh=>hb h.2)
  .rw[M4 ha];exact aK (aK (two λh=>ha h.1))
 have rest:∀st:Bool,st=decide (a<=1\/b<=1)->rR (wl (wj (λσ H_1 Q=>dF 3 σ H_1 λx H'=>∃k,Aq K x H' k/\Q k H') (jg (Tu (Bl au K true) (rV (eE (tCB (λxs H Q=>∃i j,xs=[V.int i,V.int j]/\Q (V.int (if j<i then j else i)) H) (eE (dF 1) (eE (tC (V.int 1)) gS))) (eE (tCB (λxs H Q=>∃i j,xs=[V.int i,V.int j]/\Q (V.int (if j<i then j else i)) H) (eE (dF 2) (eE (tC (V.int 1)) gS))) gS))) (dF 0)))) (lV (tC (V.int 0))) rj)
   (rR (wl (wj (jg (Tu (Rl λi j=>V.bl (decide (i<=j))) (dF 1) (tC (V.int 1)))) (jg (Tu (Rl λi j=>V.bl (decide (i<=j))) (dF 2) (tC (V.int 1))))) (lV (tC (V.int 1))) rj) (lV (rV (eE (dF 1) (eE (dF 2) gS))))) { nx:=λx H'=>Q V.MV H',rt:=Q } [some (.ref c),some (.int a),some (.int b),some (.bl st)] H:=by
  intro st RE;refine⟨_,rfl,st,rfl,?_⟩;cases st with
  | false=>
   have nc:¬(a<=1\/b<=1):=of_decide_eq_false RE.symm;exact aK (aK (last H _ (ar.refl H) λh=>nc h.1))
  | true=>
   have hc:a<=1\/b<=1:=S9 RE.symm;refine aV ⟨_,rfl,a,1,rfl,_,rfl,b,1,rfl,by show 2<=Mz;decide,λp hp=>?_⟩;have s1:=ai hp (.tup [V.int (if (1:Int)<a then 1 else a),V.int (if (1:Int)<b then 1 else b)]);refine⟨_,rfl,[if (1:Int)<a then 1 else a,if (1:Int)<b then 1 else b],enc cl,cg (o:=[if (1:Int)<a then 1 else a,if (1:Int)<b then 1 else b]) MR.up,bM.mono s1 rc,_,rfl,?_⟩;rw[vW,vW] at s1 ⊢;rw[Mu rfl,C9]
   by_cases hm:(min a 1,min b 1)∈cl
   .rw[M6 hm];exact aK (last _ _ s1 λh=>h.2 hm)
   .rw[M4 hm];refine aV (z _ _ s1 ?_);unfold Bk.cS;rw[Mu ⟨hc,hm⟩];rfl
 refine⟨_,rfl,a,1,rfl,rfl,_,rfl,?_⟩
 by_cases ha:a<=1
 .rw[M6 ha];exact aV (rest true (M6 (.inl ha)).symm)
 .rw[M4 ha];refine aK ⟨_,rfl,b,1,rfl,rfl,rest (decide (b<=1)) ?_⟩
  by_cases hb:b<=1
  .rw[M6 hb,M6 (.inr hb)]
  .rw[M4 hb,M4 (λh=>h.elim ha hb)]
end
end Ord
namespace Bk
theorem zv {a b:List Int}(ha:a.Pairwise (· < ·))(hb:b.Pairwise (· < ·))(h:∀x,x∈a↔x∈b):a=b:=by
 have nd:∀{l:List Int},l.Pairwise (· < ·)->l.Nodup:=λh=>h.imp λh e=>by lia
 have p:a.Perm b:=(Zw (nd ha) (nd hb)).mpr h;exact p.eq_of_pairwise (le:=(· < ·)) (λx y _ _ h1 h2=>by lia) ha hb
theorem u8 (p:ns.Perm ks)(le:ns.Pairwise (·<=·))(nd:ks.Nodup)(mem:∀x,x∈ks↔x∈r1.map (·.1)\/x∈r2.map (·.1))(s1:∀d∈r1,0<=d.1/\d.1<8)(s2:∀d∈r2,0<=d.1/\d.1<8):ns=gy r1 r2:=by
 have UF:ns.Nodup:=p.nodup_iff.mpr nd;have lt:ns.Pairwise (· < ·):=by
  have h2:ns.Pairwise (·≠·):=UF;exact(le.and h2).imp λh=>by lia
 refine zv lt (nZ r1 r2) λx=>?_;rw[p.mem_iff,mem,ku,Nm,Nm];constructor
 .rintro(⟨d,hd,rfl⟩|⟨d,hd,rfl⟩)
  .exact⟨s1 d hd,.inl ⟨d,hd,rfl⟩⟩
  .exact⟨s2 d hd,.inr ⟨d,hd,rfl⟩⟩
 .rintro⟨_,⟨d,hd,e⟩|⟨d,hd,e⟩⟩
  .exact .inl ⟨d,hd,e⟩
  .exact .inr ⟨d,hd,e⟩
end Bk
namespace Ord
open PySem L2 Mx
theorem ou (r:Bk.Mg)(t:Int):(ce (NU r) (.inl t)).getD (.int 0)=.int (Bk.bT r t):=by
 unfold Bk.bT
 induction r with
 | nil=>rfl
 | cons d r ih=>
  rw[show NU (d::r)=(.inl d.1,.int d.2)::NU r from rfl]
  by_cases h:d.1=t
  .rw[dH (by rw[h]),aef (by simpa using h)];rfl
  .rw[dI (λz=>h (XQ z)),VF (by simpa using h)];exact ih
section
def qR (K:Mi):Sp:=λvs H Q _=>∃(l:D') (xs:List V) (rs:List Bk.Mg) (k:Int),vs=[.ref l,.int k]/\MA K H l xs/\MC (bu K H) xs rs/\(k=0\/(2<=k/\k<(rs.length:Int)+2))/\((Bk.bf rs k).map (·.1)).Nodup/\(Bk.bf rs k).length<=100/\
 ∀(d:D') (H':Hp),ar H H'->H d=none->H' d=some (.dK (NU (Bk.bf rs k)))->Q (.ref d) H'
theorem zw:NE ["rooms","number"] ["rooms","number"] (ak mH):=⟨rfl,rfl,rfl,by decide +kernel,rfl,by decide +kernel,by decide +kernel⟩
theorem ow (F:Nh K "doors_by_thing" "doors_by_thing" mH f fd)(T:WV K mg CO):MU P w K mg base MM 1 f fd ["rooms","number"] (qR K):=by
 refine F.ok zw (λvs H Q E h=>?_) (λMB A outer s H vs Q E hr h=>?_)
 .obtain⟨l,xs,rs,k,rfl,_⟩:=h;rfl
 obtain⟨l,xs,rs,k,rfl,ql,pr,hk,nd,MW,z⟩:=h;obtain⟨t0,m0⟩:=T.t.no;obtain⟨t2,m2⟩:=T.t.low;refine⟨_,af (aQ (ay dU (pv 1) (aH (v:=.int 0) rfl m0 ⟨t0,rfl⟩) (aI _)) (al (aM sL)) az)
  (al (aM (bp (xh rfl) rfl T.dict EC (ac (aJ (show Nl _ (dG K) from bE) (pv 0) (aR mU (pv 1) (aH (v:=.int 2) rfl m2 ⟨t2,rfl⟩)) (λ_ _=>rfl)) ae)))),?_⟩
 refine⟨_,rfl,rfl,_,rfl,?_⟩
 by_cases k0:k=0
 .subst k0;rw[M6 rfl];exact aV λd hd=>z d _ (ai hd _) hd ag
 .obtain⟨k2,kl⟩:=hk.resolve_left k0;rw[M4 λh=>k0 (V.int.inj h)];refine aK ⟨_,rfl,_,rfl,k,2,rfl,rfl,?_⟩;have kl':(k-2).toNat<rs.length:=by lia
  obtain⟨x,hx,ra⟩:=dX pr (Bk.fI kl');obtain⟨a,ys,rfl,qa,pd⟩:=id ra;have ik:PP xs (k-2)=some (.ref a):=by
   have:=ck hx;rw[show(((k-2).toNat:Nat):Int)=k-2 by lia] at this;exact this
  have er:Bk.bf rs k=Bk.aO rs k:=by unfold Bk.bf;rw[Mq k0]
  rw[er] at nd MW z;exact⟨l,xs,k-2,.ref a,rfl,rfl,ql,ik,a,ys,Bk.aO rs k,rfl,qa,pd,nd,MW,λq hq=>z q _ (ai hq _) hq ag⟩
structure Vs (rs:List Bk.Mg)(k:Int):Prop where
 rn:k=0\/(2<=k/\k<(rs.length:Int)+2)
 rise:((Bk.bf rs k).map (·.1)).Pairwise (· < ·)
 small:∀d∈Bk.bf rs k,0<=d.1/\d.1<4
theorem Vs.nd (R:Vs rs k):((Bk.bf rs k).map (·.1)).Nodup:=R.rise.imp λh e=>by lia
theorem Vs.MW (R:Vs rs k):(Bk.bf rs k).length<=4:=by
 have:=pF R.nd λx hx=>by
  obtain⟨d,hd,rfl⟩:=Nm.mp hx;exact R.small d hd
 rwa[Ng] at this
def ig (K:Mi):Sp:=λvs H Q _=>∃(c l1 l2:D') (Rq Rr:List V) (Mo Mj:List Bk.Mg) (cl:Bk.Cl) (y:V) (a b:Int),vs=[.ref c,.ref l1,.ref l2,y]/\bM.rep K H (.ref c) (enc cl)/\MA K H l1 Rq/\MC (bu K H) Rq Mo/\MA K H l2 Rr/\MC (bu K H) Rr Mj/\au.rep K H y [a,b]/\Vs Mo a/\Vs Mj b/\
 ∀(l:D') (ys:List V) (H':Hp),ar H H'->H l=none->H' l=some (.lst ys)->MC (i9 K H') ys (Bk.fP cl Mo Mj a b)->Q (.ref l) H'
abbrev NDp:List Me:=["closes","rooms","others","pair","mine","theirs","found","thing"]
theorem im:NE NDp ["closes","rooms","others","pair"] (ak lz):=⟨rfl,rfl,rfl,by decide +kernel,rfl,by decide +kernel,by decide +kernel⟩
theorem qS (F:Nh K "doors_of_pair" "doors_of_pair" lz f fd)(T:WV K mg CO)(WB:Df P w K mg base MM 1 "doors_by_thing" ["rooms","number"] (qR K))(WM:Df P w K mg base MM 1 "meet" ["closes","one","other"] (uw K)):
  MU P w K mg base MM 2 f fd ["closes","rooms","others","pair"] (ig K):=by
 refine F.ok im (λvs H Q E h=>?_) (λMB A outer s H vs Q E hr h=>?_)
 .obtain⟨c,l1,l2,Rq,Rr,Mo,Mj,cl,y,a,b,rfl,_⟩:=h;rfl
 obtain⟨c,l1,l2,Rq,Rr,Mo,Mj,cl,y,a,b,rfl,rc,q1,p1,q2,p2,ry,R1,R2,z⟩:=h;obtain⟨t0,m0⟩:=T.t.no;have hu:(A.deeper (Pl "doors_of_pair" (ak lz) s.heap.objs.size f MB)).units+1<MQ:=by have:=hr.un;show(A.deeper _).units+1<MQ;lia
 obtain⟨pa,rfl,qa⟩:=cj ry;refine⟨_,af (aA (i:=4) im.nd rfl (by first|exact MX rfl|exact NR rfl) (aF WB hr rfl (aX (E:=λ_ _ _ _=>False)) (ac (pv 1) (ac (aJ (show Nl _ (bF K) from bc) (pv 3) ap (λ_ _=>rfl)) ae))))
  (af (aA (i:=5) im.nd rfl (by first|exact MX rfl|exact NR rfl) (aF WB hr rfl (aX (E:=λ_ _ _ _=>False)) (ac (pv 2) (ac (aJ (show Nl _ (bF K) from bc) (pv 3) ap (λ_ _=>rfl)) ae))))
  (af (aA (i:=6) im.nd rfl (by first|exact MX rfl|exact NR rfl) (bt ae))
  (af (ed Tb rfl (cu (aE (uu rfl) rfl T.t.t.sorted gZ (ac (aR EB (bp qQ rfl T.t.set rF (ac (pv 4) ae)) (bp qQ rfl T.t.set rF (ac (pv 5) ae))) ae)))
    (cB (i:=7) im.nd rfl (by first|exact MX rfl|exact NR rfl))
    (al (bA (eG RW T7 T8 cZ (pv 6) (ac (cb (ac (pv 7) (ac (aF WM hr rfl (aX (E:=λ_ _ _ _=>False)) (ac (pv 0) (ac (sN hu (pv 4) (pv 7) (aH (v:=.int 0) rfl m0 ⟨t0,rfl⟩) ⟨rfl,rfl,rfl,rfl⟩) (ac (sN hu (pv 5) (pv 7) (aH (v:=.int 0) rfl m0 ⟨t0,rfl⟩) ⟨rfl,rfl,rfl,rfl⟩) ae)))) ae))) ae)))))
  (al (aM (pv 6)))))),?_⟩
 refine⟨_,rfl,_,rfl,pa,_,0,.int a,rfl,rfl,qa,rfl,l1,Rq,Mo,a,rfl,q1,p1,R1.rn,R1.nd,by have:=R1.MW;lia,λd1 H1 s1 f1 hd1=>?_⟩;refine⟨_,rfl,_,rfl,pa,_,1,.int b,rfl,rfl,s1.Oq qa,rfl,l2,Rr,Mj,b,rfl,s1.OH q2,aD (λ_ _ z=>z.same s1) p2,R2.rn,R2.nd,by have:=R2.MW;lia,λd2 H2 s2 f2 hd2=>?_⟩;refine⟨by show 0<=Mz;decide,λg hg=>?_⟩;have s3:=ai hg (.lst []);have WX:=s1.trans (s2.trans s3);have adv:=s3 _ _ (s2 _ _ hd1);have adw:=s3 _ _ hd2;refine⟨_,rfl,d1,_,rfl,adv,R1.MW,λk1 ka fk1 nda abH=>?_⟩;have s4:=ai fk1 (gj w k1 true ka);refine⟨_,rfl,d2,_,rfl,s4 _ _ adw,R2.MW,λk2 kb fk2 ndb abI=>?_⟩;have s5:=ai fk2 (gj w k2 true kb);refine⟨k1,k2,ka,kb,rfl,rfl,aq ag fk2,s5 _ _ ag,ag,λx hx=>?_,λk3 kc fk3 ndc adx=>?_⟩
 .rcases hx with hx|hx
  .obtain⟨d,hd,rfl⟩:=Nm.mp ((abH x).mp hx);exact R1.small d hd
  .obtain⟨d,hd,rfl⟩:=Nm.mp ((abI x).mp hx);exact R2.small d hd
 have s6:=ai fk3 (gj w k3 false kc);have kc4:kc.length<=4:=pF ndc λx hx=>by
  rcases(adx x).mp hx with hx|hx
  .obtain⟨d,hd,rfl⟩:=Nm.mp ((abH x).mp hx);exact R1.small d hd
  .obtain⟨d,hd,rfl⟩:=Nm.mp ((abI x).mp hx);exact R2.small d hd
 refine⟨k3,false,kc,rfl,ag,by lia,λsl ns fsl pns afK=>?_⟩;have s7:=ai fsl (.lst (ns.map V.int));have en:=Bk.u8 (r1:=Bk.bf Mo a) (r2:=Bk.bf Mj b) pns afK ndc (λx=>by rw[adx,abH,abI]) (λd hd=>by have:=R1.small d hd;lia) (λd hd=>by have:=R2.small d hd;lia);have nl:ns.length<=4:=by rw[pns.length_eq];exact kc4
 subst en;have Tt:=s4.trans (s5.trans (s6.trans s7));have s17:=WX.trans Tt;have nsg:sl≠g:=M' (aq ((s4.trans (s5.trans s6)) _ _ (ag (H:=H2) (a:=g) (o:=.lst []))) fsl);have g7:=Tt _ _ (ag (H:=H2) (a:=g) (o:=.lst []));have gH:H g=none:=(s1.trans s2).free hg;refine⟨sl,rfl,⟨_,MA.up⟩,e9 (K:=K) (a:=sl) (xs:=(Bk.gy (Bk.bf Mo a) (Bk.bf Mj b)).map V.int) (λi σ H8=>∃v7 ys,σ=[some (.ref c),some (.ref l1),some (.ref l2),some (.ref pa),some (.ref d1),some (.ref d2),some (.ref g),v7]/\ar H H8/\H8 d1=some (.dK (NU (Bk.bf Mo a)))/\H8 d2=some (.dK (NU (Bk.bf Mj b)))/\H8 sl=some (.lst ((Bk.gy (Bk.bf Mo a) (Bk.bf Mj b)).map V.int))/\H8 g=some (.lst ys)/\MC (i9 K H8) ys ((Bk.fP cl Mo Mj a b).take i))
  ⟨none,[],rfl,s17,Tt _ _ adv,Tt _ _ adw,ag,g7,.nil⟩ ?_ ?_ ?_⟩
 .rintro i σ H8 _ ⟨v7,ys,rfl,_,_,_,hsl,_⟩;exact MA.of hsl
 .rintro i x σ H8 hx ⟨v7,ys,rfl,s8,e1,e2,esl,eg,YZ⟩;rw[O0] at hx;obtain⟨t,ht,rfl⟩:=VE.mp hx;have hpd:(Bk.fP cl Mo Mj a b)[i]?=some (t,Bk.cS cl (Bk.bT (Bk.bf Mo a) t) (Bk.bT (Bk.bf Mj b) t)):=by
   unfold Bk.fP;rw[O0,ht];rfl
  have il:=(NP.mp ht).1;refine⟨_,rfl,.inl ⟨rfl,_,.inl (.inl eg)⟩,_,rfl,_,rfl,_,rfl,d1,rfl,.inl ⟨_,.inl e1⟩,_,rfl,_,.inl ⟨_,.inl t,.inl e1,rfl,rfl⟩,_,rfl,d2,rfl,.inl ⟨_,.inl e2⟩,_,rfl,_,.inl ⟨_,.inl t,.inl e2,rfl,rfl⟩,?_⟩;rw[ou,ou];refine⟨c,cl,_,_,rfl,bM.mono s8 rc,λv H9 s9 rv=>?_⟩;refine⟨by show 2<=Mz;decide,λtq UL=>?_⟩;have SQ:=ai UL (.tup [V.int t,v]);have eg9:=SQ _ _ (s9 _ _ eg);have yl:ys.length<=i:=by
   have:=YZ.length;rw[Ph] at this;lia
  refine⟨g,ys,.ref tq,rfl,rfl,eg9,by rw[Nf];lia,_,ys++[.ref tq],rfl,λb' o' e'=>?_,?_,?_,?_,ag,?_⟩
  .rw[ao (aq e' gH)];exact SQ _ _ (s9 _ _ (s8 _ _ e'))
  .rw[ao (iq e1 eg (by intro h;cases h))];exact SQ _ _ (s9 _ _ e1)
  .rw[ao (iq e2 eg (by intro h;cases h))];exact SQ _ _ (s9 _ _ e2)
  .rw[ao nsg];exact SQ _ _ (s9 _ _ esl)
  .have TD:bv [g] (upd H9 tq (.tup [V.int t,v])) (upd (upd H9 tq (.tup [V.int t,v])) g (.lst (ys++[.ref tq]))):=λb' o' hb e=>by
    rw[ao (λz=>hb (by simp[z]))];exact e
   have so:dm (upd H9 tq (.tup [V.int t,v])) [g]:=λa' ha=>by
    obtain rfl:a'=g:=by simpa using ha
    exact⟨_,eg9,trivial⟩
   rw[bU hpd];refine cJ (aD (λ_ _ z=>?_) YZ) (.cons ⟨tq,v,rfl,TD.OG so MR.up,TD.sk so (rv.mono SQ)⟩ .nil);obtain⟨p',lv',e',q',r'⟩:=z.same (s9.trans SQ);exact⟨p',lv',e',TD.OG so q',TD.sk so r'⟩
 .rintro σ H8 ⟨v7,ys,rfl,s8,e1,e2,esl,eg,YZ⟩;have pl:(Bk.fP cl Mo Mj a b).length=(Bk.gy (Bk.bf Mo a) (Bk.bf Mj b)).length:=by unfold Bk.fP;rw[Ng]
  rw[Ng,<-pl,QB] at YZ;exact⟨_,rfl,z g ys H8 s8 gH eg YZ⟩
end
end Ord
namespace L2
open PySem PySem.Spec PyProof.Rows
def ox (oc:Mc)(qual:Me):Prop:=∃vs t,oc.data=.fields vs/\vs[1]?=some (.str qual t)
def fA (H:Hp)(Pt:D')(pos:Ni)(qual:Me):Prop:=∃ps,H Pt=some (.Pu ps)/\TriplesOk ps.toList/\
 (codeAmong pos ps.toList=none\/∃c oc,codeAmong pos ps.toList=some (.ref c)/\H c=some (.NO oc (.own 0))/\ox oc qual)
def Bm (mg:Me->Option G')(base:Mp):Prop:=∃bm o,mg "__builtins__"=some (.ref bm)/\bm≠builtinsNs/\bm≠No/\base.get? bm=some o/\o.cls=.type "module"/\o.dict=some builtinsNs/\o.data=.plain
def cr (Pt:D')(H H':Hp):Prop:=∀b o,b≠Pt->H b=some o->H' b=some o
theorem qT:∀{l:List G'},TriplesOk l->TriplesOk (l++[.int a t,.int b u,c])
 | [],_=>trivial
 | .int _ _::.int _ _::_::r,h=>qT (l:=r) h
section
variable {σ:St} in
theorem ED (I:Inv X aa σ H s)(Um:X.env.code=.ref c)(hc:Ui X.base c Pt)(bm:Bm X.mg X.base)(T:fA H Pt Qs (X.env.qual++"<lambda>"))(abJ:defaultsOf params X.env=([],[]))(Pe:closureFor scope X.env=pure N4)(h:∀(h':Mp) (tk:Nat) (H':Hp) (f c':D') (oc:Mc) (pm Qw:G'),Inv X aa σ H' { s with heap:=h',toks:=tk }->s.heap.objs.size<=f->H' f=none->cr Pt H H'->fA H' Pt Qs (X.env.qual++"<lambda>")->H' c'=some (.NO oc (.own 0))->ox oc (X.env.qual++"<lambda>")->
   h'.get? f=some (Z7 "<lambda>" (X.env.qual++"<lambda>") params body scope N4 pm c' Qw)->Q (.ref f) { s with heap:=h',toks:=tk }):
  Ml (Mr X.prog X.w) X.A (eval (.Lambda params body scope Qs) X.env) Q E s:=by
 obtain⟨ps,hT,ht,Uv⟩:=T;have hP:s.heap.get? Pt=some (W.tabObj ps):=I.My Pt _ hT;have hg:s.heap.Ns No X.mg:=I.ok.mod.glob.keeps I.bk;have hgP:No≠Pt:=λz=>by
  obtain⟨o,es,ep,e,_⟩:=I.ok.mod.glob;have:=(I.bs _ _ e).2;rw[z,hT] at this;cases this
 have hb:s.heap.BuiltinsAt X.mg Pt:=by
  obtain⟨b,o,b1,b2,b3,b4,b5⟩:=bm;refine⟨b,o,b1,b2,b3,λz=>?_,I.bk _ _ b4,b5⟩;have:=(I.bs _ _ b4).2;rw[z,hT] at this;cases this
 refine W.kla_eval abJ ?_;rcases Uv with hn|⟨c',oc,hh,Vb,ho⟩
 .refine W.kla_makeFunction (mg:=X.mg) Pe I.ok.glob hg Um (hc.keeps I.bk) hP ht hn hgP hb λc' Qw h' tk hx hge Nw afL htb=>?_;obtain⟨_,oc,vs,t,e,Yp,hd,hv⟩:=afL;cases e;have fc:H c'=none:=I.My.fresh hge;have nP:c'≠Pt:=λz=>by rw[z,hT] at fc;cases fc
  have old:∀b o,b≠Pt->s.heap.get? b=some o->(h'.push (Z7 "<lambda>" (X.env.qual++"<lambda>") params body scope N4 ((X.mg "__name__").getD .none) c' Qw)).get? b=some o:=λb o z e=>MZ _ (hx b o z e);have abK:s.heap.objs.size<=h'.objs.size:=OT hge (Uf Nw);have un:∀fs:List D',Un fs [] H (upd (upd H Pt (.Pu (ps++#[rawInt Qs.line,rawInt Qs.col,.ref c']))) c' (.NO oc (.own 0))) s.heap (h'.push (Z7 "<lambda>" (X.env.qual++"<lambda>") params body scope N4 ((X.mg "__name__").getD .none) c' Qw)):=λfs=>by
   have nb:∀b,H b=none->b≠Pt:=λb n z=>by rw[z,hT] at n;cases n
   have sb:∀b u,H b=some u->b≠c':=λb u q=>aq q fc;refine⟨λb o q n _ _=>old b o (nb b n) q,λb o q n _ _=>⟨o.slots,old b o (nb b n) q⟩,λb o q n _=>?_,λb o q _=>?_,λb xs q=>?_,λb o u q=>?_,λb qs q=>?_⟩
   .rw[ao (M8 (NH (MS q) hge)),ao (nb b n)];exact n
   .by_cases z:b=Pt
    .subst z;exact⟨_,MZ _ htb⟩
    .exact⟨o,old b o z q⟩
   .rw[ao (sb b _ q),ao (λz=>by rw[z,hT] at q;cases q)];exact q
   .rw[ao (sb b _ q),ao (λz=>by rw[z,hT] at q;cases q)];exact q
   .rw[ao (sb b _ q)]
    by_cases z:b=Pt
    .subst z;rw[hT] at q;cases q;exact⟨_,ag⟩
    .rw[ao z];exact⟨#[],by rw[q];simp⟩
  have My:N5 X.prog X.w (upd (upd H Pt (.Pu (ps++#[rawInt Qs.line,rawInt Qs.col,.ref c']))) c' (.NO oc (.own 0))) (h'.push (Z7 "<lambda>" (X.env.qual++"<lambda>") params body scope N4 ((X.mg "__name__").getD .none) c' Qw)):=λb u q=>by
   by_cases z:b=c'
   .subst z;rw[ag] at q;cases q;exact⟨MZ _ Yp,_,MZ _ Yp⟩
   .rw[ao z] at q
    by_cases z2:b=Pt
    .subst z2;rw[ag] at q;cases q;exact MZ _ htb
    .rw[ao z2] at q;refine(I.My b u q).RA (λa v hc r=>old a v ?_ r) (λa r=>?_) λa xs r=>?_
     .rcases hc with rfl|hc
      .exact z2
      .intro z3;rw[z3,hT] at hc;cases hc
     .rw[ao (aq r fc),ao (λz3=>by rw[z3,hT] at r;cases r)];exact r
     .rw[ao (aq r fc),ao (λz3=>by rw[z3,hT] at r;cases r)];exact r
  have same:cr Pt H (upd (upd H Pt (.Pu (ps++#[rawInt Qs.line,rawInt Qs.col,.ref c']))) c' (.NO oc (.own 0))):=λb o z e=>by
   rw[ao (aq e fc),ao z];exact e
  refine h _ tk _ h'.objs.size c' oc _ Qw (I.un (t':=tk) (un _) My) abK ?_ same ⟨_,by rw[ao (M' nP),ag],?_,.inr ⟨c',oc,?_,ag,vs,t,hd,hv⟩⟩ ag ⟨vs,t,hd,hv⟩ (NV _ rfl)
  .rw[ao (Su Nw),ao (λz=>Mw (show h'.objs.size<s.heap.objs.size by rw[z];exact MS hP) (Nat.not_lt.mpr abK))];exact I.My.fresh abK
  .rw[aev];exact qT ht
  .rw[aev];exact codeAmong_snoc _ ht hn
 .refine W.kla_makeFunctionHit (mg:=X.mg) Pe I.ok.glob hg Um (hc.keeps I.bk) hP ht hh hb λQw h' tk hk hsz=>?_;exact h _ tk H h'.objs.size c' oc _ Qw (I.kept (t':=tk) λb o e=>MZ _ (hk b o e)) hsz (I.My.fresh hsz) (λb o _ e=>e) ⟨ps,hT,ht,.inr ⟨c',oc,hh,Vb,ho⟩⟩ Vb ho (NV _ rfl)
variable {X:Cx}{σ:St}{H:Hp} in
theorem xi {CX:Pd}{k:Nat}{fg c Pt:D'}{SR:MY}{psg:List Me}{sp:D'->List V->D'->Mc->Hp->Sp}{EE:XK}{g x:Me}{ys:List Me}{js:List Nat}{p pos Qs:Ni}{e1 e2:MK}{params:Wb}{body:MK}{scope:OE}{N4:List (Me×D')}{t1 t2:TE}(G:∀(Pq:Mp) (f:D') (fd:MY) (c:D') (oc:Mc) (Oc:List V) (H0:Hp),Mod X.K X.mg Pq->YQ Pq f fd x ys Oc (X.env.qual++"<lambda>") params body scope N4 c->ox oc (X.env.qual++"<lambda>")->MU X.prog X.w X.K X.mg Pq CX k fg SR psg (sp f Oc c oc H0))(hr:Mg k X.A)(hg:Gl X g)(hm:X.mg g=some (.ref fg))(hkp:Sx X.K (.ref fg)=true)(hb:bK X.K SR psg [])(hx:iQ CX X EE)(h1:PE X e1 t1)(h2:PE X e2 t2)(Um:X.env.code=.ref c)(hc:Ui X.base c Pt)(bm:Bm X.mg X.base)(abJ:defaultsOf params X.env=([],[]))(Pe:closureFor scope X.env=pure N4)(Yo:∀y,X.fn y=true)(kind:scope.kind=.function)(co:scope.isCoroutine=false)(gen:scope.isGenerator=false)(ν:∀y∈scope.names,y.2≠.cell)(par:scope.names.lookup x=some .local)(has:∀y,scope.names.lookup y=some .free->∃a,N4.lookup y=some a)(aag:∀y a,N4.lookup y=some a->X.env.cells.lookup y=some a)(adm:MC (λy j=>X.N[j]?=some y/\X.env.kindOf y=some .cell/\scope.names.lookup y=some .free) ys js)(QL:(g==("__debug__":Me))=false:=by decide)(he:NM [e1,e2,.Lambda params body scope Qs] X.env=[(false,eval e1 X.env),(false,eval e2 X.env),(false,eval (.Lambda params body scope Qs) X.env)]:=by rfl):
  PE X (.Call (.Name g p) [e1,e2,.Lambda params body scope Qs] [] pos) (λσ H Q=>t1 σ H λv1 H1=>t2 σ H1 λv2 H2=>fA H2 Pt Qs (X.env.qual++"<lambda>")/\∃Oc,MC (λj v=>σ[j]?=some (some v)) js Oc/\
   ∀f c oc H3,H2 f=none->H3 f=none->cr Pt H2 H3->fA H3 Pt Qs (X.env.qual++"<lambda>")->H3 c=some (.NO oc (.own 0))->sp f Oc c oc H3 [v1,v2,.ref f] H3 Q EE):=by
 intro aa s σ H Q I h;refine Xp (gJ I hg hm ?_ QL);refine W.callWith_of (P:=λh=>X.K.In h) (by rw[he];rfl) (W.keeps_K hkp) ?_;show Ml _ _ (evalArgs _ true (backTo pos (NM [e1,e2,.Lambda params body scope Qs] X.env)) []) _ _ _;rw[he];refine adU ?_;refine Xo (ME (h1 aa s σ H _ I h) λu1 s1 ⟨v1,H1,I1,r1,q1⟩=>?_);refine Xo (ME (h2 aa s1 σ H1 _ I1 q1) λu2 s2 ⟨v2,H2,I2,r2,T,Oc,pf,q2⟩=>?_);refine Xo (ED I2 Um hc bm T abJ Pe λh' tk H3 f c' oc pm Qw I3 fresh hf3 same T3 hc3 ho hfo=>?_);refine acq ⟨I3.NZ,?_⟩;have q3:=q2 f c' oc H3 (I2.My.fresh fresh) hf3 same T3 hc3;have cellOf:∀y a,N4.lookup y=some a->H3 a=none/\a∉Nq X.stack/\∃v,h'.IsCell a v:=λy a e=>by
  have ec:=aag y a e;refine⟨I3.Qp y a ec,λz=>?_,I3.cell y a ec⟩;rcases M0.mp (I3.Rf a z) with z|z
  .exact I3.SF y a ec z
  .obtain⟨_,o,OC,_⟩:=I3.ok.Qd.mem z;have:=I3.ok.Ut y a (Yo y) ec;exact Mw (MS OC) (Nat.not_lt.mpr this)
 have ffr:f∉Nq X.stack:=λz=>by
  obtain⟨_,o,OC,_⟩:=I2.stack.mem z;exact Mw (MS OC) (Nat.not_lt.mpr fresh)
 have ady:∀b,b∈N4.filterMap (λp=>N4.lookup p.1)->∃y,N4.lookup y=some b:=λb hb=>by
  obtain⟨p,_,e⟩:=Qm.mp hb;exact⟨p.1,e⟩
 have afM:∀y a,N4.lookup y=some a->a∈N4.filterMap (λp=>N4.lookup p.1):=λy a e=>Qm.mpr ⟨(y,a),Ru e,e⟩;have e3:=I3.τ.more (as:=f::N4.filterMap (λp=>N4.lookup p.1)) (λb hb=>by
  rcases M0.mp hb with rfl|hb
  .exact hf3
  .obtain⟨y,e⟩:=ady b hb;exact(cellOf y b e).1) (λb hb z=>by
  rcases M0.mp z with rfl|z
  .exact ffr hb
  .obtain⟨y,e⟩:=ady b z;exact(cellOf y b e).2.1 hb)
 have adg:∀y a,N4.lookup y=some a->∀v,h'.IsCell a v->(fO X.base h' (f::N4.filterMap λp=>N4.lookup p.1)).IsCell a v:=λy a e v ⟨o,OC,hd⟩=>⟨o,kq OC (.inr (Na _ (afM y a e))),hd⟩
 have lam:YQ (fO X.base h' (f::N4.filterMap λp=>N4.lookup p.1)) f (W.kla_fn "<lambda>" (X.env.qual++"<lambda>") params body scope N4 pm (.ref c') Qw) x ys Oc (X.env.qual++"<lambda>") params body scope N4 c':=by
  refine⟨⟨pm,Qw,kq hfo (.inr MO),rfl⟩,kind,co,gen,ν,par,λy z a p q=>I3.ok.inj y z a (aag y a p) (aag z a q),has,λy a e=>?_,?_⟩
  .obtain⟨v,q⟩:=(cellOf y a e).2.2;exact⟨v,adg y a e v q⟩
  .have comp:∀{ys:List Me}{js:List Nat}{Oc:List V},MC (λy j=>X.N[j]?=some y/\X.env.kindOf y=some .cell/\scope.names.lookup y=some .free) ys js->MC (λj v=>σ[j]?=some (some v)) js Oc->
     MC (λy v=>scope.names.lookup y=some .free/\∃a u,N4.lookup y=some a/\(fO X.base h' (f::N4.filterMap λp=>N4.lookup p.1)).IsCell a (some u)/\ax v u) ys Oc:=by
    intro ys js Oc p
    induction p generalizing Oc with
    | nil=>intro q;cases q;exact .nil
    | cons r _ ih=>
     intro q;cases q with
     | cons r2 t2=>
      refine .cons ⟨r.2.2,?_⟩ (ih t2);obtain⟨a,ea⟩:=has _ r.2.2;obtain⟨m,_,hl⟩:=I3.loc;obtain⟨u,ru,lk⟩:=hl _ _ _ r.1 r2 (.inr (.inl r.2.1));rcases lk with⟨k1,_⟩|⟨_,a',ea',ic⟩
      .rw[r.2.1] at k1;cases k1
      .rw[aag _ _ ea] at ea';cases ea';exact⟨a,u,ea,adg _ _ ea _ ic,ru⟩
   exact comp adm pf
 have F:=G _ f _ c' oc Oc H3 e3.mod lam ho;have r3:aw [v1,v2,V.ref f] [u1,u2,Nd f]:=.cons r1 (.cons r2 (.cons rfl .nil));have hl:([u1,u2,Nd f]++[]).length=psg.length:=by
  have:=F.len _ _ _ _ q3;rw[<-this];rfl
 refine Z5 (Ug (F.run X.A X.stack _ H3 ⟨[u1,u2,Nd f],[]⟩ ([u1,u2,Nd f]++[]) [v1,v2,V.ref f] Q EE hr e3 (hb _ _ I3.NZ hl) (by simpa using r3) q3) λr s' hq=>?_);cases r with
 | error e=>exact hx aa σ H3 _ e s' I3 hq
 | ok fl=>
  cases fl with
  | ret u=>exact I3.after hq
  | next=>exact Pp hq
  | brk=>exact Pp hq
  | cont=>exact Pp hq
end
def oy (P:MD)(w:Mt)(K:Mi)(a:D')(kvs:List (Key×G')):Prop:=(a==Po)=false/\∃o es ep,K.lookup a=some o/\o.ExactDict/\o.data=.dict es ep/\KeysOf (aL P w) es/\Pairs (aL P w) es.toList kvs/\(kvs.map (·.1)).Nodup
theorem oy.at {K:Mi}(d:oy P w K a kvs)(k:K.In h):h.DictOf (aL P w) a kvs:=let ⟨_,o,es,ep,e,r⟩:=d;⟨o,es,ep,k _ _ e,r⟩
section
theorem Da (D:oy X.prog X.w X.K a kvs)(ho:PE X o td)(hi:PE X i ty)(hs:sJ i):PE X (.Subscript o i pos) (λσ H Q=>td σ H λx H1=>ty σ H1 λy H2=>∃k v u,x=.ref a/\y=kV k/\valueAt kvs k=some u/\ax v u/\Q v H2):=by
 intro aa s σ H Q I h;refine kU aap.lookup hs (ME (ho aa s σ H _ I h) λu s1 ⟨x,H1,I1,rx,q1⟩=>ME (hi aa s1 σ H1 _ I1 q1) λiv s2 ⟨y,H2,I2,ry,k,v,u',ex,ey,hv,rv,q2⟩=>?_);subst ex ey;cases rx;have dd:=D.at I2.NZ;exact⟨dd.typeIs,wpAny_getItem_of (gI ry) dd.mapOf hv ⟨v,H2,I2.tok _,rv,q2⟩⟩
theorem zx (D:oy X.prog X.w X.K a kvs):Nr X (OM .NotIn) (λx y H Q=>∃k,y=.ref a/\x=kV k/\Q (.bl (!(valueAt kvs k).isSome)) H):=by
 intro aa s σ H x y v u Q I rx ry h;obtain⟨k,rfl,rfl,q⟩:=h;cases ry;have dd:=D.at I.NZ;exact wpAny_notIn_of (gI rx) D.1 dd.mapOf ⟨.bl _,H,I.tok _,rfl,q⟩
end
theorem MU.pre {K:Mi}{G:Prop}(h:G->MU P w K mg base CX k f fd ps sp):MU P w K mg base CX k f fd ps (λvs H Q E=>G/\sp vs H Q E):=
 ⟨λvs H Q E q=>(h q.1).len _ _ _ _ q.2,λA outer s H args us vs Q E hr e0 hb r q=>(h q.1).run A outer s H args us vs Q E hr e0 hb r q.2⟩
theorem Nh.okC {P:MD}{w:Mt}{K:Mi}{mg:Me->Option G'}{base:Mp}{x qual:Me}{st:Mv}{f:D'}{fd:MY}{N ps:List Me}{k:Nat}{sp:Sp}(F:Nh K x qual st f fd)(S:NE N ps (ak st))(len:∀vs H Q E,sp vs H Q E->vs.length=ps.length)(Tn:∀(MB:G') (A:ML) (outer:List NK) (s:Md) (H:Hp) (vs:List V) (Q:VK) (E:XK),fd.code=MB->Mg k (A.deeper (envOfC qual (ak st) s.heap.objs.size f MB))->sp vs H Q E->
   ∃t,PY (cH MM P w K mg base N qual (ak st) f MB A outer s H E).Qt (cm st) t/\t { nx:=λ_ H'=>Q .MV H',rt:=Q } (gr N vs) H):MU P w K mg base MM (k+1) f fd ps sp:=by
 obtain⟨oc,od,kV,doc,pm,an,MB,ct,PN,rfl,lk,O6⟩:=F.ex;refine wz lk O6 S len λA outer s H vs Q E hr Nj=>?_;obtain⟨t,h,q⟩:=Tn MB A outer s H vs Q E rfl hr Nj;exact⟨t,h.Qt,q⟩
end L2
namespace Bk
structure SS (many:Nat)(Mo Mj)(f1 f2:Int):Prop where
 w1:WF Mo
 w2:WF Mj
 s1:∀r∈Mo,∀d∈r,0<=d.1/\d.1<4
 s2:∀r∈Mj,∀d∈r,0<=d.1/\d.1<4
 pg:Pg Mo Mj f1 f2 many
theorem SS.abq (J:SS many Mo Mj f1 f2):n6 Mo:=λr hr d hd=>by have:=J.s1 r hr d hd;lia
theorem SS.abr (J:SS many Mo Mj f1 f2):n6 Mj:=λr hr d hd=>by have:=J.s2 r hr d hd;lia
end Bk
namespace Ord
open PySem L2 Mx
abbrev bV:Mv:=top 38
def fB (st:Mv):MK:=match (cm st).getD 2 (.Pass ⟨0,0,0,0⟩) with
 | .Return (some (.Call _ [_,_,e] _ _)) _=>e
 | _=>.Name "" ⟨0,0,0,0⟩
def EF:MK->Wb
 | .Lambda a _ _ _=>a
 | _=>dz bV
def EG:MK->MK
 | .Lambda _ b _ _=>b
 | e=>e
def EH:MK->OE
 | .Lambda _ _ s _=>s
 | _=>ak bV
def jC:MK->Ni
 | .Lambda _ _ _ p=>p
 | _=>⟨0,0,0,0⟩
theorem zy (wf:Bk.WF rs)(s4:∀r∈rs,∀d∈r,0<=d.1/\d.1<4)(rn:Bk.Rn rs k)(k1:k≠1):Vs rs k:=by
 rcases rn with rfl|⟨h1,h2⟩
 .exact⟨.inl rfl,T',λd hd=>nomatch hd⟩
 .have er:Bk.bf rs k=Bk.aO rs k:=by unfold Bk.bf;rw[Mq (by lia)]
  refine⟨.inr ⟨by lia,h2⟩,?_,λd hd=>?_⟩
  .rw[er];exact(Bk.i8 wf (k:=k) (by lia) h2).1.rise
  .rw[er] at hd;have hm:Bk.aO rs k∈rs:=N1 (Bk.fI (by lia));exact s4 _ hm d hd
section
def Bn (K:Mi)(cl:Bk.Cl)(many:Int)(Mo Mj:List Bk.Mg)(f1 f2:Int)(Oc:List V)(c:D')(oc:Mc)(H0:Hp):Prop:=∃(cA b1 b2 l1 l2:D') (Rq Rr:List V),Oc=[.ref cA,.ref b1,.ref b2]/\bM.rep K H0 (.ref cA) (enc cl)/\
 MR K H0 b1 [.int many,.ref l1,.int f1]/\MA K H0 l1 Rq/\MC (bu K H0) Rq Mo/\MR K H0 b2 [.int many,.ref l2,.int f2]/\MA K H0 l2 Rr/\MC (bu K H0) Rr Mj/\H0 c=some (.NO oc (.own 0))
theorem Db (J:Bk.SS many Mo Mj f1 f2)(L:YQ base f fd "pair" ["closes","one","other"] Oc qual (EF (fB bV)) (EG (fB bV)) (EH (fB bV)) N4 c)(ho:ox oc qual)(WD:Df P w K mg base MM 2 "doors_of_pair" ["closes","rooms","others","pair"] (ig K))(pre:Bn K cl many Mo Mj f1 f2 Oc c oc H0):
  MU P w K mg base MM 3 f fd ["pair"] (lx K H0 (Bk.eA cl Mo Mj) (Bk.lq Mo Mj)):=by
 obtain⟨cA,b1,b2,l1,l2,Rq,Rr,rfl,rc,t1,q1,p1,t2,q2,p2,hc⟩:=pre;refine Ey (k:=2) L (by decide) (λvs H Q E h=>?_) (λvs H Q E h=>?_) ho (λA outer s H v Q E hr h=>?_)
 .obtain⟨v,st,rfl,_⟩:=h;rfl
 .obtain⟨v,st,_,s0,_⟩:=h;exact s0 _ _ hc
 .obtain⟨v',st,ev,s0,rv,gd,nt,z⟩:=h;cases ev;refine⟨_,aF WD hr rfl (aX (E:=λ_ _ _ _=>False)) (ac (pv 1) (ac (aJ (show Nl _ (bF K) from bc) (pv 2) ap (λ_ _=>rfl)) (ac (aJ (show Nl _ (bF K) from bc) (pv 3) ap (λ_ _=>rfl)) (ac (pv 0) ae)))),?_⟩
  match st,gd,nt,rv,z with
  | .inl k,_,nt,_,_=>exact Mw trivial nt
  | .inr [a,b],⟨a1,b1',nab,n,pg⟩,_,rv,z=>
   refine⟨_,rfl,_,rfl,b1,_,1,.ref l1,rfl,rfl,s0.Oq t1,rfl,_,rfl,b2,_,1,.ref l2,rfl,rfl,s0.Oq t2,rfl,_,rfl,?_⟩;exact⟨cA,l1,l2,Rq,Rr,Mo,Mj,cl,v,a,b,rfl,bM.mono s0 rc,s0.OH q1,aD (λ_ _ z=>z.same s0) p1,s0.OH q2,aD (λ_ _ z=>z.same s0) p2,rv,zy J.w1 J.s1 pg.ra a1,zy J.w2 J.s2 pg.rb b1',z⟩
end
end Ord
namespace L2
open PySem
theorem cr.l (s:cr Pt H H'):Ord.bv [Pt] H H':=λb o hb e=>s b o (λz=>hb (by simp[z])) e
end L2
namespace Ord
open PySem L2 Mx
section
theorem jD (h:H Pt=some (.Pu ps)):dm H [Pt]:=λa ha=>by
 obtain rfl:a=Pt:=by simpa using ha
 exact⟨_,h,trivial⟩
theorem bv.OH (s:bv as H H')(n:∀b∈as,∀xs,¬Rd H b (.lst xs))(h:MA K H a xs):MA K H' a xs:=by
 rcases h with(h|⟨o,h⟩)|h
 .exact .inl (.inl (s _ _ (λz=>n _ z _ (.inl h)) h))
 .exact .inl (.inr ⟨o,s _ _ (λz=>n _ z _ (.inr ⟨o,h⟩)) h⟩)
 .exact .inr h
theorem kB (h:H Pt=some (.Pu ps)):∀b∈[Pt],∀xs,¬Rd H b (.lst xs):=λb hb xs z=>by
 obtain rfl:b=Pt:=by simpa using hb
 rcases z with z|⟨o,z⟩ <;> rw[h] at z <;> cases z
theorem bv.room (s:bv as H H')(so:dm H as)(h:bu K H x r):bu K H' x r:=by
 obtain⟨a,xs,e,q,p⟩:=h;exact⟨a,xs,e,s.OG so q,aD (λ_ _ z=>s.door so z) p⟩
end
def Qy (x:Me):Option Bk.Cl:=if x="or" then some [(1,0),(0,1),(1,1)] else if x="and" then some [(1,1)] else if x="less" then some [(1,0)] else if x="odd" then some [(1,0),(0,1)] else none
section
structure TxC (P)(w)(K)(mg:Me->Option G')(a)(kvs):Prop where
 at_:mg "CLOSES"=some (.ref a)
 d:oy P w K a kvs
 val:∀x cl,Qy x=some cl->∃c,valueAt kvs (.inr x)=some (.ref c)/\∀H,bM.rep K H (.ref c) (enc cl)
 MV:∀x,Qy x=none->valueAt kvs (.inr x)=none
def lA (P:MD)(w:Mt)(K:Mi)(mg:Me->Option G')(base:Mp)(fg:D')(SR:MY):Prop:=∀(fl:D') (RK:MY) (ol:Mc) (H0:Hp) (kl n:Nat) (xl:Me) (Ms:SK->List (Int×SK)) (os:SK->Bk.am) (Nx:SK->Nat) (good:SK->Prop),
 Bk.Way Ms os Nx Bk.P4 good->os (.inl 0)=[]->os (.inl 1)=[[]]->(∀k,good (.inl k)->k=0\/k=1)->(∀s,(Ms s).length<=8)->n<=5->MU P w K mg base MM kl fl RK [xl] (lx K H0 Ms good)->base.get? fl=some ol->ol.data=.func RK->
 (∀us:List G',us.length=[xl].length->bindArgs RK ⟨us,[]⟩=pure ([xl].zip us))->MU P w K mg base MM (n+kl+3) fg SR ["many","state","doors_from"] (ly K H0 fl Ms Nx good n)
theorem Bo (Fg:Nh K "grown" "grown" oh f fd)(Fw:Nh K "grow" "grow" lu g gd)(T:N9 K mg CO)(c:SM K C)(M:Mk K C fi)(Fi:MU P w K mg base MM 1 fi UM ["self"] (nO K C))(bi:bK K UM ["self"] [])(mC:mg "Shelf"=some (.ref C))(mk:Up K C "keep" fk)(Fk:MU P w K mg base MM 1 fk Q7 ["self","room"] (i6 K C))(bk:bK K Q7 ["self","room"] [])(b:bK K gd ["shelf","state","doors_from","known"] [])(m:mg "grow"=some (.ref g)):lA P w K mg base f fd:=
 λfl RK ol H0 kl n xl Ms os Nx good W h0 h1 hg SE n5 FL ho hd bl=>Bg n5 h0 h1 hg SE Fg T c M Fi bi mC ⟨g,gd,vU W SE Fw T c mk Fk bk FL ho hd bl b m n,b,Fw.kp,m⟩
theorem xk (J:Bk.SS many Mo Mj f1 f2)(m5:many<=5)(c0:(0,0)∉cl)(L:YQ base f fd "pair" ["closes","one","other"] Oc qual (EF (fB bV)) (EG (fB bV)) (EH (fB bV)) N4 c)(ho:ox oc qual)(WD:Df P w K mg base MM 2 "doors_of_pair" ["closes","rooms","others","pair"] (ig K))(pre:Bn K cl many Mo Mj f1 f2 Oc c oc H0)(GK:lA P w K mg base fg SR):
  MU P w K mg base MM (many+3+3) fg SR ["many","state","doors_from"] (ly K H0 f (Bk.eA cl Mo Mj) (Bk.uh Mo Mj) (Bk.lq Mo Mj) many):=by
 have FL:=Db J L ho WD pre;obtain⟨pm,Qw,hf,rfl⟩:=L.fn;exact GK f _ _ H0 3 many "pair" _ _ _ _ (Bk.jw J.w1 J.w2 J.abq J.abr c0) rfl rfl (λk h=>h) (Bk.Bf cl Mo Mj) m5 FL hf rfl (λus hl=>match us,hl with | [_],_=>rfl)
abbrev qJ:Me:="join_books"++".<locals>."++"<lambda>"
def pH (K:Mi)(Pt:D'):Sp:=λvs H Q _=>∃(word:Me) (x1 x2:V) (many:Nat) (Mo Mj:List Bk.Mg) (f1 f2:Int) (cl:Bk.Cl),vs=[.str word,x1,x2]/\Qy word=some cl/\Oh K H x1 many Mo f1/\Oh K H x2 many Mj f2/\Bk.SS many Mo Mj f1 f2/\many<=4/\
 fA H Pt (jC (fB bV)) qJ/\(Bk.eP (Bk.eA cl Mo Mj) many (Bk.cS cl f1 f2)).1.length<1000/\
 ∀(t lr:D') (H':Hp),cr Pt H H'->fA H' Pt (jC (fB bV)) qJ->Uo K H H' t lr many (Bk.eP (Bk.eA cl Mo Mj) many (Bk.cS cl f1 f2)).1 (Bk.eP (Bk.eA cl Mo Mj) many (Bk.cS cl f1 f2)).2->Q (.ref t) H'
theorem pI:NE ["word","one","other","closes","first"] ["word","one","other"] (ak bV):=⟨rfl,rfl,rfl,by decide +kernel,rfl,by decide +kernel,by decide +kernel⟩
theorem Bp (F:Nh K "join_books" "join_books" bV f fd)(Um:fd.code=.ref c0)(CH:Ui base c0 Pt)(bm:Bm mg base)(T:WV K mg CO)(TC:TxC P w K mg aC kvs)(WM:Df P w K mg base MM 1 "meet" ["closes","one","other"] (uw K))(DP:∀Pq,Mod K mg Pq->Df P w K mg Pq MM 2 "doors_of_pair" ["closes","rooms","others","pair"] (ig K))(GR:∀Pq,Mod K mg Pq->lA P w K mg Pq fg SR)(mG:mg "grown"=some (.ref fg))(kG:Sx K (.ref fg)=true)(bG:bK K SR ["many","state","doors_from"] []):MU P w K mg base MM 11 f fd ["word","one","other"] (pH K Pt):=by
 refine Nh.okC F pI (λvs H Q E h=>?_) (λMB A outer s H vs Q E O6 hr h=>?_)
 .obtain⟨word,x1,x2,many,Mo,Mj,f1,f2,cl,rfl,_⟩:=h;rfl
 obtain⟨word,x1,x2,many,Mo,Mj,f1,f2,cl,rfl,hw,B1,B2,J,m4,TA,MW,z⟩:=h;obtain⟨b1,l1,Rq,rfl,t1,q1,p1⟩:=B1.ex;obtain⟨b2,l2,Rr,rfl,t2,q2,p2⟩:=B2.ex;obtain⟨cA,hv,rc⟩:=TC.val word cl hw;have c0':(0,0)∉cl:=by
  unfold Qy at hw
  split at hw
  .cases hw;decide
  .split at hw
   .cases hw;decide
   .split at hw
    .cases hw;decide
    .split at hw
     .cases hw;decide
     .cases hw
 have W:=Bk.jw J.w1 J.w2 J.abq J.abr c0';obtain⟨gd,_,lv⟩:=Bk.ls J.w1 J.w2 c0' J.pg;refine⟨_,af (aA (i:=3) pI.nd rfl (by first|exact MX rfl|exact NR rfl) (Da TC.d (aH (v:=.ref aC) rfl TC.at_ rfl) (pv 0) (λ_ _=>rfl)))
  (af (aA (i:=4) pI.nd rfl (by first|exact MX rfl|exact NR rfl) (aF WM (hr.mono (by decide)) rfl (aX (E:=λ_ _ _ _=>False)) (ac (pv 3) (ac (aJ (show Nl _ (bF K) from bc) (pv 1) ap (λ_ _=>rfl)) (ac (aJ (show Nl _ (bF K) from bc) (pv 2) ap (λ_ _=>rfl)) ae)))))
  (al (aM (xi (x:="pair") (ys:=["closes","one","other"]) (js:=[3,1,2]) (sp:=λf Oc c oc H0 vs H Q E=>Bn K cl many Mo Mj f1 f2 Oc c oc H0/\ly K H0 f (Bk.eA cl Mo Mj) (Bk.uh Mo Mj) (Bk.lq Mo Mj) many vs H Q E)
   (λPq f' fd' c' oc Oc H0 M L ho=>MU.pre λpre=>xk J (by lia) c0' L ho (DP Pq M) pre (GR Pq M))
   (hr.mono (by lia)) rfl mG kG bG nh (aJ (show Nl _ (bF K) from bc) (pv 1) ap (λ_ _=>rfl)) (pv 4) (c:=c0) (Pt:=Pt) (O6.symm.trans Um) CH bm rfl rfl (λ_=>rfl) rfl rfl rfl (by decide +kernel) rfl (λy hy=>by
    have hm:=Ru hy;simp only[M0,QC,or_false,Prod.mk.injEq] at hm;rcases hm with⟨_,z⟩|⟨rfl,_⟩|⟨rfl,_⟩|⟨rfl,_⟩|⟨_,z⟩
    .cases z
    .exact⟨_,rfl⟩
    .exact⟨_,rfl⟩
    .exact⟨_,rfl⟩
    .cases z) (λy a e=>by
    have hm:=Ru e;simp only[M0,QC,or_false,Prod.mk.injEq] at hm;rcases hm with⟨rfl,rfl⟩|⟨rfl,rfl⟩|⟨rfl,rfl⟩ <;> rfl) (.cons ⟨rfl,rfl,rfl⟩ (.cons ⟨rfl,rfl,rfl⟩ (.cons ⟨rfl,rfl,rfl⟩ .nil))))))),?_⟩
 refine⟨_,rfl,.inr word,.ref cA,_,rfl,rfl,hv,rfl,?_⟩;refine⟨_,rfl,_,rfl,b1,_,2,.int f1,rfl,rfl,t1,rfl,_,rfl,b2,_,2,.int f2,rfl,rfl,t2,rfl,?_⟩;refine⟨cA,cl,f1,f2,rfl,rc H,λv H2 s2 rv=>?_⟩;refine⟨_,rfl,b1,_,0,.int many,rfl,rfl,s2.Oq t1,rfl,_,rfl,?_⟩;obtain⟨ps,hT,htr,Uv⟩:=TA;have TA2:fA H2 Pt (jC (fB bV)) qJ:=⟨ps,s2 _ _ hT,htr,Uv.imp id λ⟨c,oc,e1,e2,e3⟩=>⟨c,oc,e1,s2 _ _ e2,e3⟩⟩
 refine⟨TA2,[.ref cA,.ref b1,.ref b2],.cons rfl (.cons rfl (.cons rfl .nil)),λf' c' oc H3 ff2 ff3 s3 TA3 hc3=>?_⟩;have YY:=s2 _ _ hT;have so:=jD YY;have nl:=kB YY;refine⟨⟨cA,b1,b2,l1,l2,Rq,Rr,rfl,rc H3,s3.l.OG so (s2.Oq t1),s3.l.OH nl (s2.OH q1),aD (λ_ _ z=>s3.l.room so (z.same s2)) p1,s3.l.OG so (s2.Oq t2),s3.l.OH nl (s2.OH q2),aD (λ_ _ z=>s3.l.room so (z.same s2)) p2,hc3⟩,?_⟩;refine⟨many,v,Bk.cS cl f1 f2,rfl,s3.l.sk so rv,ar.refl H3,gd,lv.imp id λe=>V5 e,MW,λt lr H4 s4 BN=>?_⟩;have up:∀b o,b≠Pt->H b=some o->H3 b=some o:=λb o hb e=>s3 b o hb (s2 b o e);obtain⟨ps3,hT3,afN,afO⟩:=TA3;have fr:∀b,H3 b=none->H b=none:=λb hb=>by
  cases e:H b with
  | none=>rfl
  | some o=>
   by_cases hp:b=Pt
   .rw[hp,hT3] at hb;cases hb
   .rw[up b o hp e] at hb;cases hb
 exact z t lr H4 (λb o hb e=>s4 _ _ (up b o hb e)) ⟨ps3,s4 _ _ hT3,afN,afO.imp id λ⟨c,oc,e1,e2,e3⟩=>⟨c,oc,e1,s4 _ _ e2,e3⟩⟩ ⟨fr _ BN.ft,fr _ BN.fl,BN.at_,BN.rooms⟩
end
end Ord
namespace Bk
open Mx
theorem ux (wf:WF rs)(mk:SJ rs):∀(n k:Nat),k<=n->1<=k->k<rs.length+2->∀o∈Ow rs k,o.Nodup/\∀x,x∈o↔0<=x/\(Oj rs k).testBit x.toNat=true
 | 0,k,h,h1,_=>by lia
 | n+1,k,h,h1,hk=>by
  by_cases c:k=1
  .subst c;intro o ho;rw[gL] at ho;rw[N3.mp ho,vH];refine⟨Ue,λx=>⟨(λh=>nomatch h),λh=>?_⟩⟩;rw[acy] at h;cases h.2
  .obtain⟨r,e,ok,es⟩:=j7 wf (show 2<=k by lia) hk;intro o ho;rw[es] at ho;obtain⟨d,hd,ho⟩:=Uc.mp ho;obtain⟨o',OC,rfl⟩:=Nm.mp ho;have ah:=ok.ahead d hd;obtain⟨m1,m2,m3,m4⟩:=mk _ _ e d hd;obtain⟨q1,q2⟩:=ux wf mk n d.2.toNat (by lia) (by lia) (by lia) o' OC;rw[show k-2+2=k by lia] at m4;have hn:d.1∉o':=λz=>by
    have:=((q2 d.1).mp z).2;rw[m3] at this;cases this
   refine⟨Py.mpr ⟨hn,q1⟩,λx=>?_⟩;rw[<-m4,M0,q2 x,Nat.testBit_or,aaE];constructor
   .rintro(rfl|⟨x0,xb⟩)
    .exact⟨m1,by simp⟩
    .exact⟨x0,by rw[xb];simp⟩
   .rintro⟨x0,xb⟩;rcases Bool.or_eq_true_iff.mp xb with xb|xb
    .have:=S9 xb;exact .inl (by lia)
    .exact .inr ⟨x0,xb⟩
theorem Dc (wf:WF rs)(mk:SJ rs)(h1:1<=k)(hk:k<rs.length+2)(hm:Oj rs k=2 ^ many-1):∀o∈Ow rs k,o.Perm (bj many):=λo ho=>by
 obtain⟨q1,q2⟩:=ux wf mk k k (MJ _) h1 hk o ho;refine(Zw q1 (nq _)).mpr λx=>?_;rw[q2 x,hm,cP,adO];constructor
 .rintro⟨a,b⟩;have:=S9 b;exact⟨a,by lia⟩
 .rintro⟨a,b⟩;exact⟨a,by simp;lia⟩
end Bk
namespace L2
open PySem PySem.Spec PyProof.Rows
theorem xm (h:m.testBit t=true):2 ^ t &&& m=2 ^ t:=by
 refine aaC λi=>?_;rw[Nat.testBit_and,aaE]
 by_cases e:t=i
 .subst e;rw[h];simp
 .simp[e]
end L2
namespace Ord
open PySem L2 Mx
section
def oz (K:Mi)(CB:D'):Sp:=λvs H Q E=>∃(x:V) (l:D') (ms:List Nat) (d:Int×Int),vs=[x,.ref l]/\cK K H x d/\MA K H l (e8 ms)/\0<=d.1/\d.1<8/\0<=d.2/\d.2<ms.length/\
 ((ms.getD d.2.toNat 0).testBit d.1.toNat=false->Q (.int ((Bk.cf ms d:Nat):Int)) H)/\((ms.getD d.2.toNat 0).testBit d.1.toNat=true->E (.ref CB) none H)
theorem u9 (F:Nh K "things_through" "things_through" mx f fd)(BB:Rh K mg "BadBook" CB):MU P w K mg base (Nb P w) 1 f fd ["door","things"] (oz K CB):=by
 refine F.QM j8 (λvs H Q E h=>?_) (λX MB A outer s H vs Q E hX hp Ot hr h=>?_)
 .obtain⟨x,l,ms,d,rfl,_⟩:=h;rfl
 obtain⟨x,l,ms,⟨t,k⟩,rfl,⟨p,rfl,q⟩,hl,t0,t8,k0,kl,zg,zb⟩:=h;subst hX;refine⟨_,af (aA (i:=2) j8.nd rfl (MX rfl) (aR xW ap (aJ (show Nl _ (bF K) from bc) (pv 0) ap (λ_ _=>rfl))))
  (af (aA (i:=3) j8.nd rfl (MX rfl) (aJ (show Nl _ (dG K) from bE) (pv 1) (aJ (show Nl _ (bF K) from bc) (pv 0) ap (λ_ _=>rfl)) (λ_ _=>rfl)))
  (af (aQ (lX (aR DG (pv 2) (pv 3)) (λ_=>rfl)) (al (bN rfl rfl BB Ot (ac aU ae))) az)
  (al (aM (aR Hw (pv 2) (pv 3)))))),?_⟩
 refine⟨_,rfl,p,_,0,.int t,rfl,rfl,q,hV,1,t,rfl,rfl,⟨t0,by lia,by decide⟩,?_⟩;refine⟨_,rfl,_,rfl,p,_,1,.int k,rfl,rfl,q,jp,l,_,k,.int ((ms.getD k.toNat 0:Nat):Int),rfl,rfl,hl,?_,?_⟩
 .have hk:k.toNat<ms.length:=by show k.toNat<ms.length;have:k<ms.length:=kl;have:0<=k:=k0;lia
  have:=t5 hk;rw[show((k.toNat:Nat):Int)=k from aaF k0] at this;exact this
 have e1:(1:Int)*2 ^ t.toNat=((2 ^ t.toNat:Nat):Int):=by simp
 refine⟨_,rfl,_,rfl,_,_,rfl,rfl,_,rfl,?_⟩
 by_cases hb:(ms.getD k.toNat 0).testBit t.toNat=true
 .rw[e1,nK,xm hb];have e2:(((2 ^ t.toNat:Nat):Int) != 0)=true:=by
   have:0<2 ^ t.toNat:=Nat.two_pow_pos _;exact bne_iff_ne.mpr (by lia)
  rw[e2];exact aV ⟨by show 1<=Mz;decide,zb hb⟩
 have hb:(ms.getD k.toNat 0).testBit t.toNat=false:=ZJ.mpr hb;rw[e1,nK,wT hb];refine aK ?_;refine⟨_,rfl,_,rfl,_,_,rfl,rfl,?_⟩;show Q (V.int (acN (1*2 ^ t.toNat) ((ms.getD k.toNat 0:Nat):Int))) H;rw[e1,yW];exact zg hb
def lB (many:Nat)(ms:List Nat)(first:Int):Prop:=first=0\/(1<first/\first<ms.length/\ms.getD first.toNat 0=2 ^ many-1)
def uy (K:Mi)(CB:D'):Sp:=λvs H Q E=>∃(many:Nat) (first:Int) (l:D') (ms:List Nat),vs=[.int many,.ref l,.int first]/\MA K H l (e8 ms)/\many<=8/\(lB many ms first->Q .MV H)/\(¬lB many ms first->E (.ref CB) none H)
theorem zz (F:Nh K "look_first" "look_first" tY f fd)(T:N9 K mg CO)(BB:Rh K mg "BadBook" CB):MU P w K mg base (Nb P w) 1 f fd ["many","things","first"] (uy K CB):=by
 refine F.QM C3 (λvs H Q E h=>?_) (λX MB A outer s H vs Q E hX hp Ot hr h=>?_)
 .obtain⟨many,first,l,ms,rfl,_⟩:=h;rfl
 obtain⟨many,first,l,ms,rfl,ql,m8,zg,zb⟩:=h;subst hX;obtain⟨t0,m0⟩:=T.no;obtain⟨t1,m1⟩:=T.en;refine⟨_,af (aQ (ay dU (pv 2) (aH (v:=.int 0) rfl m0 ⟨t0,rfl⟩) (aI _)) (al oB) az)
  (af (aQ (cW (lW kK kK (aH (v:=.int 1) rfl m1 ⟨t1,rfl⟩) (pv 2) (aE bh rfl T.t.len dc (ac (pv 1) ae)))) (al (bN rfl rfl BB Ot (ac aU ae))) az)
  (al (aQ (ay dW (aJ (show Nl _ (dG K) from bE) (pv 1) (pv 2) (λ_ _=>rfl)) (aR mU (aR xW ap (pv 0)) ap) (aI _)) (al (bN rfl rfl BB Ot (ac aU ae))) az))),?_⟩
 refine⟨_,rfl,rfl,_,rfl,?_⟩
 by_cases c:first=0
 .subst c;exact aV (zg (.inl rfl))
 rw[M4 (λh=>c (by have:=V.int.inj h;lia))];refine aK ?_;refine⟨_,rfl,1,first,rfl,rfl,_,rfl,?_⟩;have hl:(e8 ms).length=ms.length:=Ng _
 by_cases c1:1<first
 case neg=>
  rw[M4 c1];exact aK ⟨_,rfl,aV ⟨by show 1<=Mz;decide,zb λh=>h.elim c λh=>c1 h.1⟩⟩
 rw[M6 c1];refine aV ⟨_,rfl,l,_,rfl,.inl ql,first,_,rfl,rfl,_,rfl,?_⟩;rw[hl]
 by_cases c2:first<(ms.length:Nat)
 case neg=>
  rw[M4 c2];exact aV ⟨by show 1<=Mz;decide,zb λh=>h.elim c λh=>c2 h.2.1⟩
 rw[M6 c2];refine aK ?_;have f2:first.toNat<ms.length:=by lia
 have fe:((first.toNat:Nat):Int)=first:=aaF (by lia)
 refine⟨_,rfl,_,rfl,l,_,first,_,rfl,rfl,ql,by have:=t5 f2;rw[fe] at this;exact this,?_⟩;refine⟨_,rfl,1,(many:Int),rfl,rfl,⟨by lia,by lia,by decide⟩,_,1,rfl,rfl,rfl,_,rfl,?_⟩;have e1:(1:Int)*2 ^ ((many:Int)).toNat-1=((2 ^ many-1:Nat):Int):=by
  rw[UV,Int.one_mul,Int.natCast_sub (Nat.one_le_two_pow)];simp
 show(λ(b:Bool) (H1:Hp)=>if b=true then _ else _) (!decide (V.int ((ms.getD first.toNat 0:Nat):Int)=V.int (1*2 ^ ((many:Int)).toNat-1))) H;rw[e1]
 by_cases c3:ms.getD first.toNat 0=2 ^ many-1
 .rw[c3,M6 rfl];exact aK (zg (.inr ⟨c1,c2,c3⟩))
 .rw[M4 λh=>c3 (by have:=V.int.inj h;exact aeL this)];exact aV ⟨by show 1<=Mz;decide,zb λh=>h.elim c λh=>c3 h.2.2⟩
def uz (K:Mi)(CB:D'):Sp:=λvs H Q E=>∃(x:V) (many:Int) (rs:List Bk.Mg) (first:Int),vs=[x]/\Oh K H x many rs first/\((1<=many/\many<=8)->Q .MV H)/\(¬(1<=many/\many<=8)->E (.ref CB) none H)
theorem zA (F:Nh K "look_parts" "look_parts" tZ f fd)(T:N9 K mg CO)(BB:Rh K mg "BadBook" CB)(W:Df P w K mg base MM 1 "is_whole" ["value"] iU)(WC:Df P w K mg base MM 2 "is_count" ["many"] oV):MU P w K mg base (Nb P w) 3 f fd ["book"] (uz K CB):=by
 refine F.QM C2 (λvs H Q E h=>?_) (λX MB A outer s H vs Q E hX hp Ot hr h=>?_)
 .obtain⟨x,many,rs,first,rfl,_⟩:=h;rfl
 obtain⟨x,many,rs,first,rfl,⟨b,l,xs,rfl,q,ql,pr⟩,zg,zb⟩:=h;subst hX;refine⟨_,af (aQ (PW.pt (kJ (cW (dZ (aE bO rfl T.t.Qu dy (ac (pv 0) (ac (eB (v:=.ty "tuple") rfl T.t.tuple dM rfl) ae)))))
    (iM (ay dW (aE bh rfl T.t.len dc (ac (pv 0) ae)) ap (aI _))))) (al aZ) az)
  (af (aQ (cW (dZ (aF WC hr rfl (aX (E:=λ_ _ _ _=>False)) (ac (aJ (show Nl _ (bF K) from bc) (pv 0) ap (λ_ _=>rfl)) ae)))) (al (bN rfl rfl BB Ot (ac aU ae))) az)
  (af (aQ (cW (dZ (aE bO rfl T.t.Qu dy (ac (aJ (show Nl _ (bF K) from bc) (pv 0) ap (λ_ _=>rfl)) (ac (eB (v:=.ty "list") rfl T.t.list gY rfl) ae))))) (al aZ) az)
  (al (aQ (cW (dZ (aF W (hr.mono (by decide)) rfl (aX (E:=λ_ _ _ _=>False)) (ac (aJ (show Nl _ (bF K) from bc) (pv 0) ap (λ_ _=>rfl)) ae)))) (al aZ) az)))),?_⟩
 refine⟨_,rfl,_,_,_,_,_,rfl,rfl,.tup q,nj,_,rfl,aK ?_⟩;refine⟨_,rfl,b,_,rfl,.inr q,rfl,_,rfl,aK ?_⟩;refine⟨_,rfl,b,_,0,.int many,rfl,rfl,q,hV,many,rfl,_,rfl,?_⟩
 by_cases c:1<=many/\many<=8
 case neg=>
  rw[M4 c];exact aV ⟨by show 1<=Mz;decide,zb c⟩
 rw[M6 c];refine aK ?_;refine⟨_,rfl,b,_,1,.ref l,rfl,rfl,q,jp,_,_,_,_,_,rfl,rfl,.lst ql,DZ,_,rfl,aK ?_⟩;exact⟨_,rfl,b,_,2,.int first,rfl,rfl,q,tV,first,rfl,_,rfl,aK (zg c)⟩
def gD (l:Bk.Mg):Int:=match l.getLast? with
 | some d=>d.1
 | none=>-1
structure PU (many number:Int)(l:Bk.Mg):Prop where
 rise:(l.map (·.1)).Pairwise (· < ·)
 all:∀d∈l,0<=d.1/\d.1<many/\1<=d.2/\d.2<number
theorem iK (l:Bk.Mg)(d:Int×Int):gD (l++[d])=d.1:=by simp[gD]
theorem PU.last (D:PU many number l):-1<=gD l/\∀d∈l,d.1<=gD l:=by
 rcases aek l with rfl|⟨l',e,rfl⟩
 .exact⟨acZ _,λd hd=>nomatch hd⟩
 .rw[ace,iK];have:=(D.all e (by simp)).1;refine⟨by lia,λd hd=>?_⟩;have r:=D.rise;rw[ace,Qn,VH] at r;rcases Ny.mp hd with h|h
  .exact Int.le_of_lt (r.2.2 d.1 (Nm.mpr ⟨d,h,rfl⟩) e.1 (by simp))
  .rw[N3.mp h];exact acZ _
theorem PU.snoc:PU many number (l++[d])↔PU many number l/\(gD l<d.1/\d.1<many)/\1<=d.2/\d.2<number:=by
 constructor
 .rintro⟨r,a⟩;rw[Qn,VH] at r;have D:PU many number l:=⟨r.1,λe he=>a e (P6 _ he)⟩
  have ad:=a d (by simp);refine⟨D,⟨?_,ad.2.1⟩,ad.2.2⟩;rcases aek l with rfl|⟨l',e,rfl⟩
  .show(-1:Int)<d.1;lia
  .rw[ace,iK];exact r.2.2 e.1 (Nm.mpr ⟨e,by simp,rfl⟩) d.1 (by simp)
 .rintro⟨D,⟨h1,h2⟩,h3⟩;obtain⟨g1,g2⟩:=D.last;refine⟨?_,λe he=>?_⟩
  .rw[Qn,VH];refine⟨D.rise,ad8 _ _,λa ha b hb=>?_⟩;obtain⟨e,he,rfl⟩:=Nm.mp ha;have:b=d.1:=by simpa using hb
   rw[this];exact Int.lt_of_le_of_lt (g2 e he) h1
  .rcases Ny.mp he with h|h
   .exact D.all e h
   .rw[N3.mp h];exact⟨by lia,h2,h3⟩
theorem PU.take (D:PU many number l)(i:Nat):PU many number (l.take i):=⟨by rw[List.map_take];exact D.rise.sublist (Xw _ _),λd hd=>D.all d (aaD hd)⟩
def uA (K:Mi)(CB:D'):Sp:=λvs H Q E=>∃(many number:Int) (x:V) (r:Bk.Mg),vs=[.int many,x,.int number]/\bu K H x r/\Wr number/\((r≠[]/\PU many number r)->Q .MV H)/\(¬(r≠[]/\PU many number r)->E (.ref CB) none H)
theorem zB (F:Nh K "look_doors" "look_doors" tX f fd)(T:N9 K mg CO)(BB:Rh K mg "BadBook" CB)(WD:Df P w K mg base MM 2 "is_door" ["door"] (vI K)):MU P w K mg base (Nb P w) 3 f fd ["many","room","number"] (uA K CB):=by
 refine F.QM li (λvs H Q E h=>?_) (λX MB A outer s H vs Q E hX hp Ot hr h=>?_)
 .obtain⟨many,number,x,r,rfl,_⟩:=h;rfl
 obtain⟨many,number,x,r,rfl,⟨a,xs,rfl,q,pr⟩,Qv,zg,zb⟩:=h;subst hX;obtain⟨t1,m1⟩:=T.en;refine⟨_,af (aQ (PW.pt (kJ (cW (dZ (aE bO rfl T.t.Qu dy (ac (pv 1) (ac (eB (v:=.ty "tuple") rfl T.t.tuple dM rfl) ae)))))
    (iM (ay dU (aE bh rfl T.t.len dc (ac (pv 1) ae)) ap (aI _))))) (al (bN rfl rfl BB Ot (ac (fW (bB (cV (k:=100) (by decide)) (bB (iT (pv 2)) (bB (cV (k:=100) (by decide)) gX))) (by decide)) ae))) az)
  (af (aA (i:=3) li.nd rfl (MX rfl) (BI xX ap))
  (al (ed (show abg _ _ _ _ from aeD) rfl (jN (pv 1)) (cB (i:=4) li.nd rfl (MX rfl))
   (af (aQ (cW (dZ (aF WD hr rfl (aX (E:=λ_ _ _ _=>False)) (ac (pv 4) ae)))) (al aZ) az)
   (af (aQ (cW (lW kK kK (pv 3) (aJ (show Nl _ (bF K) from bc) (pv 4) ap (λ_ _=>rfl)) (pv 0))) (al (bN rfl rfl BB Ot (ac (fW (bB (cV (k:=100) (by decide)) (bB (iT (pv 2)) (bB (cV (k:=100) (by decide)) gX))) (by decide)) ae))) az)
   (af (aQ (cW (lW jf kK (aH (v:=.int 1) rfl m1 ⟨t1,rfl⟩) (aJ (show Nl _ (bF K) from bc) (pv 4) ap (λ_ _=>rfl)) (pv 2))) (al (bN rfl rfl BB Ot (ac (fW (bB (cV (k:=100) (by decide)) (bB (iT (pv 2)) (bB (cV (k:=100) (by decide)) gX))) (by decide)) ae))) az)
   (al (aA (i:=3) li.nd rfl (MX rfl) (aJ (show Nl _ (bF K) from bc) (pv 4) ap (λ_ _=>rfl)))))))))),?_⟩
 have msg:∀σ:St,σ[2]?=some (some (.int number))->¬(r≠[]/\PU many number r)->(True/\isI (dF 2) σ H/\True/\True)/\∀x:Me,1<=Mz/\E (.ref CB) none H:=λσ hσ h=>⟨⟨trivial,⟨_,hσ,rfl,number,rfl,Qv⟩,trivial,trivial⟩,λ_=>⟨by decide,zb h⟩⟩
 refine⟨_,rfl,_,_,_,_,_,rfl,rfl,.tup q,nj,_,rfl,aK ?_⟩;have hlen:=pr.length;refine⟨_,rfl,a,_,rfl,.inr q,rfl,_,rfl,?_⟩
 by_cases ne:r=[]
 .have h0:xs.length=0:=by rw[hlen,ne];rfl
  rw[h0,M6 (show V.int ((0:Nat):Int)=V.int 0 from rfl)];exact aV (msg _ rfl λh=>h.1 ne)
 have Tq:0<xs.length:=by rw[hlen];exact ZD.mpr ne
 rw[M4 (λh=>by have:=V.int.inj h;lia)];refine aK ?_;refine⟨1,rfl,?_⟩;refine⟨_,rfl,a,rfl,⟨_,q⟩,oE (K:=K) (a:=a) (xs:=xs) (λi σ H2=>∃(v4:Option V),σ=[some (.int many),some (.ref a),some (.int number),some (.int (gD (r.take i))),v4]/\H2=H/\PU many number (r.take i)) ⟨none,rfl,rfl,T',λd hd=>nomatch hd⟩ ?_ ?_ ?_⟩
 .rintro i σ H2 _ ⟨v4,rfl,rfl,_⟩;exact q
 .rintro i y σ H2 hx ⟨v4,rfl,rfl,D⟩;obtain⟨⟨dt,dk⟩,hd,p,rfl,qd⟩:=cp pr hx;have et:=bU hd;have bad:¬((gD (r.take i)<dt/\dt<many)/\1<=dk/\dk<number)->¬(r≠[]/\PU many number r):=λh g=>by
   have:=g.2.take (i+1);rw[et,PU.snoc] at this;exact h this.2
  refine⟨_,rfl,.ref p,(dt,dk),rfl,⟨p,rfl,qd⟩,_,rfl,aK ?_⟩;refine⟨_,rfl,_,rfl,p,_,0,.int dt,rfl,rfl,qd,hV,_,dt,rfl,rfl,_,rfl,?_⟩
  by_cases c1:gD (r.take i)<dt
  case neg=>
   rw[M4 c1];exact aK ⟨_,rfl,aV (msg _ rfl (bad λh=>c1 h.1.1))⟩
  rw[M6 c1];refine aV ⟨_,rfl,dt,many,rfl,rfl,_,rfl,?_⟩
  by_cases c2:dt<many
  case neg=>
   rw[M4 c2];exact aV (msg _ rfl (bad λh=>c2 h.1.2))
  rw[M6 c2];refine aK ?_;refine⟨_,rfl,p,_,1,.int dk,rfl,rfl,qd,jp,1,dk,rfl,rfl,_,rfl,?_⟩
  by_cases c3:1<=dk
  case neg=>
   rw[M4 c3];exact aK ⟨_,rfl,aV (msg _ rfl (bad λh=>c3 h.2.1))⟩
  rw[M6 c3];refine aV ⟨_,rfl,dk,number,rfl,rfl,_,rfl,?_⟩
  by_cases c4:dk<number
  case neg=>
   rw[M4 c4];exact aV (msg _ rfl (bad λh=>c4 h.2.2))
  rw[M6 c4];refine aK ?_;refine⟨_,rfl,p,_,0,.int dt,rfl,rfl,qd,hV,some (.ref p),?_,rfl,?_⟩
  .rw[et,iK];rfl
  .rw[et];exact PU.snoc.mpr ⟨D,⟨c1,c2⟩,c3,c4⟩
 .rintro σ H2 ⟨v4,rfl,rfl,D⟩;rw[hlen,QB] at D;exact zg ⟨ne,D⟩
end
end Ord
namespace L2
open PySem PySem.Spec PyProof.Rows
section
theorem zC (fr:A.frames=some (env::outer))(ff:s.heap.FunFrames base (env::outer))(hf:env.frame=some L)(tr:s.heap.TracedAtW base e cls a0 fl)(kb:base.StaysIn s.heap)(en:base.get? e=none)(k:∀h',Mp.LeftW base (env::outer) e cls a0 s.heap h'->Q () { s with heap:=h' }):Ml M A (leaving env (.ref e)) Q E s:=by
 by_cases c:fl=rawInt L
 .subst c;unfold leaving;refine Mf (wpAny_noteFrame_againW hf tr ?_);exact ab7 kb ff tr λh' k1 k2 k3 k4=>k h' ⟨k1,k2,k3,λb o hb hn=>⟨o.slots,k4 b o hb hn⟩⟩
 .obtain⟨oe,vs,T,oT,ts,ge,⟨rfl,g0⟩,gd,g1,nT,Te,gT,TF,g3⟩:=tr;have UP:∀b,b≠T->(s.heap.update T (Z0 (·.setIfInBounds 3 Sv))).get? b=s.heap.get? b:=λb z=>S0 _ _ (M' z);have nr:∀b o,s.heap.get? b=some o->(∀vs,o.data≠.fields vs)->b≠T:=λb o hb n q=>by
   subst q;rw[gT] at hb;cases hb;exact n ts TF
  unfold leaving noteFrame;simp only[hf];refine Mf (Mf (V7 ge gd g1 ?_));rw[Mu (by simp)];refine Mf (V7 gT TF g3 ?_);rw[Mq (by simpa using c)];refine Mf (ZW gT TF (RS.mp g3).1 ?_);exact wpAny_newEntryW fr (ff.of_keeps λb o hb n=>⟨o,(UP b (nr b o hb n)).trans hb,rfl⟩) hf ((UP e (M' Te)).trans ge)
   (λb o z=>(UP b (by rintro rfl;rw[nT] at z;cases z)).trans (kb b o z)) en gd (RS.mp g1).1 g0
   λh' ⟨x1,x2,x3,x4⟩=>k h' ⟨x1,x2,x3,λb o hb n=>x4 b o ((UP b (nr b o hb n)).trans hb) n⟩
end
section
variable {X:Cx}{aa:List (D'×Mc)}{σ:St}{NF:Hp}{M1:Md}{fp:List D'}{C:D'}{scope:OE}{cl:List (Me×D')}{x:Me} in
theorem qU {Ux:Mp}{s':Md}{H':Hp}{MP:St}{pn:List (D'×Mc)}(I:Inv X aa σ NF M1)(Vi:∀b∈fp,fT X aa NF b)(hC:M1.heap.objs.size<=C)(J:Inv (Nz X scope cl x C M1 NF fp aa) pn MP H' s')(hs:QY C s'.heap Ux):Inv X aa σ H' { s' with heap:=Ux }:=by
 have kp:∀b,b≠C->Ux.get? b=s'.heap.get? b:=λb hb=>hs.2 b hb;have Pj:∀b o,M1.heap.get? b=some o->b≠C:=λb o e=>M8 (NH (MS e) hC);have YB:∀b u,H' b=some u->b≠C:=λb u e z=>by
  have f:H' C=none:=J.free;rw[z,f] at e;cases e
 have un:=J.base;refine I.XZ (ch:=fp) J.os ⟨λb o e m hb hx=>?_,λb o e m hb hx=>?_,λb o e m hx=>un.free b o e m hx,λb o e hx=>?_,λb xs e=>un.OG b xs e,λb o u e=>un.QF b o u e,λb ps e=>un.QG b ps e⟩ ?_ J.bare (λb hb=>?_)
 .exact(kp b (Pj b o e)).trans (un.keep b o e m hb hx)
 .obtain⟨sl,q⟩:=un.slot b o e m hb hx;exact⟨sl,(kp b (Pj b o e)).trans q⟩
 .obtain⟨o',q⟩:=un.there b o e hx;exact⟨o',(kp b (Pj b o e)).trans q⟩
 .intro a o e;refine(J.My a o e).RA (λb u hb q=>(kp b ?_).trans q) (λb q=>q) λb xs q=>q;rcases hb with z|z
  .rw[z];exact YB a o e
  .exact YB b _ z
 .obtain⟨_,h2,_,h4,h5,h6⟩:=Vi b hb;exact⟨h4,h2,h5,h6⟩
end
def WY (X:Cx)(C:D'):G'->Md->Prop:=notedBy (Mr X.prog X.w) X.A X.env λe s'=>∃m,s'.heap.Ns C m/\∀h',QY C s'.heap h'->∀aah:NK,aah.locals=C->
 Ml (Mr X.prog X.w) X.A (PySem.passOn "comprehension.variables-let-go" e aah:Pb G') (λ_ _=>False) X.xe { s' with heap:=h' }
section
variable {P:MD}{w:Mt}{K:Mi}{mg:Me->Option G'}{base:Mp}{N:List Me}{qual:Me}{sc:OE}{f:D'}{cd:G'}{A:ML}{outer:List NK}{MN:Md}{H₁:Hp}{E:XK}{aa:List (D'×Mc)}{σ:St}{NF:Hp}{M1:Md}{fp:List D'}{C:D'}{scope:OE}{cl:List (Me×D')}{x:Me} in
theorem zD (I2:Inv (cH (Nb P w) P w K mg base N qual sc f cd A outer MN H₁ E) aa σ NF M1)(f2:∀b∈fp,fT (cH (Nb P w) P w K mg base N qual sc f cd A outer MN H₁ E) aa NF b)(hC:M1.heap.objs.size<=C):
  cM (Nb P w) ((Nz (cH (Nb P w) P w K mg base N qual sc f cd A outer MN H₁ E) scope cl x C M1 NF fp aa).Qr (WY (cH (Nb P w) P w K mg base N qual sc f cd A outer MN H₁ E) C)) (λ_=>E):=by
 generalize hX:cH (Nb P w) P w K mg base N qual sc f cd A outer MN H₁ E=X at I2 f2;intro af7 σY H s e s' J0 hx;have hex:X.ex=[]:=by rw[<-hX];rfl
 have Q2:X.stack=X.env::X.outer:=by rw[<-hX];rfl
 have hfr:X.env.frame=some X.env.locals:=by rw[<-hX];rfl
 have hpr:X.prog=P:=by rw[<-hX];rfl
 have hw:X.w=w:=by rw[<-hX];rfl
 have J:=J0.R7;obtain⟨ea,cls,H',rfl,ho,hg,un,My,fl,q⟩:=hx;have aai:N5 X.prog X.w H' s'.heap:=by rw[hpr,hw];exact My
 have J':=J.XZ (ch:=[]) ho un aai hg (λb z=>Mw z (by simp));obtain⟨T,Uw,Yx,Yy⟩:=fl.tr;have hCn:H' C=none:=J'.free;obtain⟨mC,Uz,_⟩:=J'.loc;obtain⟨mC0,afP,_⟩:=J.loc;have Is:Inv X aa σ H s:=qU I2 f2 hC J (aaL _ _);have I':Inv X aa σ H' s':=qU I2 f2 hC J' (aaL _ _);have Qc:∀b,b∉X.ex:=λb z=>by rw[hex] at z;exact Mw z (by simp)
 have apart:∀b,s.heap.get? b=none->X.Nv.heap.get? b=none/\b≠X.env.locals/\(∀y c,X.env.cells.lookup y=some c->c≠b)/\∀p∈X.pn++aa,p.1≠b:=λb hb=>by
  refine⟨?_,?_,λy c hy z=>?_,λp hp z=>?_⟩
  .cases e1:X.Nv.heap.get? b with
   | none=>rfl
   | some o=>
    obtain⟨o',e2⟩:=Is.base.there b o e1 (Qc b);rw[hb] at e2;cases e2
  .rintro rfl;obtain⟨m,⟨o,_,_,e2,_⟩,_⟩:=Is.loc;rw[hb] at e2;cases e2
  .obtain⟨v,o,e2,_⟩:=Is.cell y c hy;rw[z,hb] at e2;cases e2
  .have e2:=(Is.pin p hp).1;rw[z,hb] at e2;cases e2
 have apC:X.Nv.heap.get? C=none/\C≠X.env.locals/\(∀y c,X.env.cells.lookup y=some c->c≠C)/\∀p∈X.pn++aa,p.1≠C:=by
  refine⟨?_,Su (NH I2.lt hC),λy c hy=>?_,λp hp=>?_⟩
  .cases e1:X.Nv.heap.get? C with
   | none=>rfl
   | some o=>exact Mw (NH (MS e1) (OT I2.sz hC)) (RX _)
  .obtain⟨v,z⟩:=I2.cell y c hy;exact M8 (NH z.lt hC)
  .exact M8 (NH (MS (I2.pin p hp).1) hC)
 have Pj:∀b,s.heap.get? b=none->b≠C:=λb hb z=>by
  obtain⟨o,_,_,e2,_⟩:=afP;have e3:s.heap.get? C=some o:=e2;rw[<-z,hb] at e3;cases e3
 have OD:∀b∈[ea,T,C],X.Nv.heap.get? b=none/\b≠X.env.locals/\(∀y c,X.env.cells.lookup y=some c->c≠b)/\∀p∈X.pn++aa,p.1≠b:=λb hb=>by
  rcases M0.mp hb with z|hb
  .rw[z];exact apart ea fl.new
  rcases M0.mp hb with z|hb
  .rw[z];exact apart T Yx
  .rw[N3.mp hb];exact apC
 have U7:∀b∈[ea,T,C],H' b=none:=λb hb=>by
  rcases M0.mp hb with z|hb
  .rw[z];exact fl.free
  rcases M0.mp hb with z|hb
  .rw[z];exact Yy
  .rw[N3.mp hb];exact hCn
 have frC:∀b∈Nq X.stack,b≠C:=λb hb z=>by
  rcases M0.mp (I2.Rf b hb) with r|r
  .exact apC.2.1 (z.symm.trans r)
  .obtain⟨o,e1,_⟩:=kM I2 hb;exact Mw (NH (MS e1) hC) (by rw[z];exact RX _)
 have hB:∀b∈[ea,T,C],(Rx s'.heap (Nq X.stack++[ea,T,C])).get? b=none:=λb hb=>XG _ (OA _ hb);have RE:(Rx s'.heap (Nq X.stack++[ea,T,C])).StaysIn s'.heap:=λb o z=>V4 _ z;have hff:s'.heap.FunFrames (Rx s'.heap (Nq X.stack++[ea,T,C])) X.stack:=ZO I'.stack λenv he a ha=>P6 _ (Qm.mpr ⟨env,he,ha⟩);obtain⟨a0,tw⟩:=Uw.abn (hB T (by simp));show WY X C (.ref ea) s';unfold WY notedBy;refine wpAny_noteFrame_onW (outer:=X.outer) (L:=X.env.locals) (Q2▸I'.ok.frames) (Q2▸hff) hfr tw RE (hB ea (by simp)) λh4 hN4=>?_;obtain⟨n1,n2,n3,n4⟩:=hN4;refine⟨mC,aeE n4 Uz,λh5 hs5 aah _=>?_⟩;obtain⟨oe,vs,T4,oT,ts,ge,gc,gd,g1,nT,Te,gT,TF,g3⟩:=n3;obtain⟨oC,esC,epC,eC,dC,_⟩:=aeE n4 Uz;have eaC:ea≠C:=Pj ea fl.new;have T4C:T4≠C:=λz=>by
  rw[z] at gT;have e2:h4.get? C=some oC:=eC;rw[gT] at e2;cases e2;rw[TF] at dC;cases dC
 have ge5:h5.get? ea=some oe:=(hs5.2 ea eaC).trans ge;have gT5:h5.get? T4=some oT:=(hs5.2 T4 T4C).trans gT;have sz3:3<ts.size:=(RS.mp g3).1;unfold PySem.passOn;refine Mf (V7 ge5 gd g1 ?_);rw[Mq (by simp)];refine Mf ?_;unfold setFlight;refine Mf (V7 ge5 gd g1 ?_);rw[Mu (by simp)];refine ZW gT5 TF sz3 ?_;generalize hv:(aah.frame.elim Sv λf=>rawInt f)=v;generalize hh6:h5.update T4 (Z0 (·.setIfInBounds 3 v))=h6;have UP:∀b,b≠T4->h6.get? b=h5.get? b:=λb z=>by rw[<-hh6];exact S0 _ _ (M' z)
 have adz:∀b∈Nq X.stack,b≠T4:=λb hb z=>by
  obtain⟨o,e1,nd⟩:=kM I' hb;obtain⟨sl,e2⟩:=n4 b o e1 nd;rw[z,gT] at e2;cases e2;exact nd ts TF
 have ae9:∀b o,b∉Nq X.stack->b∉[ea,T,C]->s'.heap.get? b=some o->h6.get? b=some o:=λb o z1 z2 e1=>by
  have hb:=Tc _ e1 λm=>(Ny.mp m).elim z1 z2;have nb:b≠T4:=λz=>by rw[z,nT] at hb;cases hb
  have nc:b≠C:=λz=>z2 (by rw[z];simp);exact(UP b nb).trans ((hs5.2 b nc).trans (n1 b o hb))
 have afa:∀b o,b∈Nq X.stack->s'.heap.get? b=some o->∃sl,h6.get? b=some { o with slots:=sl }:=λb o hb e1=>by
  obtain⟨o',e2,nd⟩:=kM I' hb;rw[e1] at e2;cases e2;obtain⟨sl,e3⟩:=n4 b o e1 nd;exact⟨sl,(UP b (adz b hb)).trans ((hs5.2 b (frC b hb)).trans e3)⟩
 have I6:Inv X aa σ H' { s' with heap:=h6 }:=I'.abt (g':=s'.gens) (d':=s'.drawn) (t':=s'.toks) OD ae9 afa hex Q2 U7 I'.bare;have nT4:H' T4=none/\X.Nv.heap.get? T4=none:=by
  by_cases z:T4∈Nq X.stack++[ea,T,C]
  .rcases Ny.mp z with z|z
   .exact Mw rfl (adz T4 z)
   .exact⟨U7 T4 z,(OD T4 z).1⟩
  .have e1:s'.heap.get? T4=none:=by
    cases e1:s'.heap.get? T4 with
    | none=>rfl
    | some o=>rw[Tc _ e1 z] at nT;cases nT
   constructor
   .cases e2:H' T4 with
    | none=>rfl
    | some o=>
     obtain⟨u,e3⟩:=sf (I'.My T4 o e2);rw[e1] at e3;cases e3
   .cases e2:X.Nv.heap.get? T4 with
    | none=>rfl
    | some o=>
     obtain⟨o',e3⟩:=I'.base.there T4 o e2 (Qc T4);rw[e1] at e3;cases e3
 have hB6:∀b∈[ea,T4],(Rx h6 (Nq X.stack++[ea,T4])).get? b=none:=λb hb=>XG _ (OA _ hb);have tr6:h6.TracedAtW (Rx h6 (Nq X.stack++[ea,T4])) ea cls a0 v:=by
  have up:h6.get? T4=some (oT.mapFields (·.setIfInBounds 3 v)):=by
   rw[<-hh6];exact ZB _ gT5 (acd (Xs TF _))
  exact⟨oe,vs,T4,_,_,(UP ea (M' Te)).trans ge5,gc,gd,g1,hB6 T4 (by simp),Te,up,Xs TF _,by simp[sz3]⟩
 show Ml _ _ (throw (Nd ea)) _ _ _;refine wpAny_throw ?_;subst hX;refine zC (outer:=outer) (L:=MN.heap.objs.size) I6.ok.frames (ZO I6.stack λenv he a ha=>P6 _ (Qm.mpr ⟨env,he,ha⟩)) rfl tr6 (λb o z=>V4 _ z) (hB6 ea (by simp)) λh7 hL=>?_;obtain⟨k1,k2,k3,k4⟩:=hL;exact oO (s:={ s' with heap:=h6 }) (l:=[ea,T4]) I6 rfl rfl
  (λb hb=>by
   rcases M0.mp hb with z|z
   .rw[z];exact⟨fl.free,(OD ea (by simp)).1⟩
   .rw[N3.mp z];exact nT4)
  fl.free (OD ea (by simp)).1 (λb o z1 z2 e1=>k1 b o (Tc _ e1 λm=>(Ny.mp m).elim z1 z2)) k4 k3 q
end
section
variable {P:MD}{w:Mt}{K:Mi}{mg:Me->Option G'}{base:Mp}{N:List Me}{qual:Me}{sc:OE}{f:D'}{cd:G'}{A:ML}{outer:List NK}{MN:Md}{H₁:Hp}{E:XK}{X:Cx}{scope:OE}{x:Me}{elt:MK}{iter:MK}{ifs:List MK}{px:Ni}{pos:Ni}{wi:TI}{tt:TT}{te:TE} in
theorem Bq {i0:Nat}{y:Me}{py Yd:Ni}(hX:X=cH (Nb P w) P w K mg base N qual sc f cd A outer MN H₁ E)(hN:X.N.Nodup)(hi0:X.N[i0]?=some y)(hx:Loc X.env.scope y)(hc:X.calm=true)(S:Qb X.env.scope X.N scope x)(hi:PI X (.Name x px) iter wi)(ht:∀(cl:List (Me×D')) (C:D') (M1:Md) (NF:Hp) (fp:List D') (aa:List (D'×Mc)),YC (Nz X scope cl x C M1 NF fp aa) ifs tt)(he:∀(cl:List (Me×D')) (C:D') (M1:Md) (NF:Hp) (fp:List D') (aa:List (D'×Mc)),cM (Nb P w) ((Nz X scope cl x C M1 NF fp aa).Qr (WY X C)) (λ_=>E)->PE ((Nz X scope cl x C M1 NF fp aa).Qr (WY X C)) elt te)(hsw:swapsWith (.ListComp elt [⟨.Name x px,iter,ifs,0⟩] scope pos) (some (.Name y py)) Yd.line X.env=pure true)(hs:∀v,foldedSetIterable iter X.env v=pure v:=by intro _;rfl)(hf:X.fn y=true\/X.env.scope.names.lookup y=some .local :=by first|exact .inl rfl|exact .inr rfl|assumption):
  PS X (.Assign [.Name y py] (.ListComp elt [⟨.Name x px,iter,ifs,0⟩] scope pos) Yd) (wm (wE wi tt te) (mT i0)):=by
 intro aa s σ H D0 I h;obtain⟨cl,X4,R9,X5⟩:=jh (scope:=scope) (env:=X.env) (λy hy hf=>I.ok.has y.1 (S.free y hy hf));rw[exec_Assign_Name_used _ _ _ _ hsw];refine Mf (UX (Mf ?_));show Ml _ X.A (do let _ <-comprehension (.ListComp elt [⟨.Name x px,iter,ifs,0⟩] scope pos) scope X.env _ (newList []) false (eval iter X.env) (some (assign (.Name y py) X.env))) _ _ s;refine Mf (QZ (abV (use:=some (assign (.Name y py) X.env)) (E:=X.xe) (Q:=λ_ s'=>SP X aa D0 .next s') rfl hs X4 S.kind S.names
  (ME (hi aa s σ H _ I h) λxv s1 h1=>ME h1 λYq s2 h2=>?_)) (λ_ s' hq=>Mm (Mm hq)) λ_ _ e=>e)
 obtain⟨it,fp,tn,J,H2,e,I2,T,Oi,f2,W,⟨m0,w0⟩,turn⟩:=h2;subst e;refine S8 (aaz S.cell (by intro y hy;cases hy) (λOP P1 Pw=>?_) S.kind);dsimp only at P1 Pw ⊢;generalize hP:s2.heap.push { cls:=.type "list",dict:=none,data:=.seq ([]:List G').toArray }=P2 at P1 Pw ⊢;have hC:P2.objs.size=s2.heap.objs.size+1:=by rw[<-hP,XH]
 have RF:s2.heap.objs.size≠P2.objs.size:=by rw[hC];exact M8 (XA _)
 have Ps:s2.heap.objs.size<=P2.objs.size:=by rw[hC];exact UZ _
 have old:∀b o,s2.heap.get? b=some o->OP.get? b=some o:=λb o e=>by
  have hb:=MS e;exact Pw.extBut b o (by rw[hC];exact M8 (Xx hb)) (MZ _ (hP▸MZ _ e))
 have hd:OP.get? s2.heap.objs.size=some (bw [] 0):=Pw.extBut _ _ RF (MZ _ (hP▸NV _ rfl));have fo:∀b∈fp,∃o,s2.heap.get? b=some o:=λb hb=>by
  obtain⟨o,e,_⟩:=T.obj _ _ Oi b hb;exact⟨o,e⟩
 have SH:∀b∈fp,b≠s2.heap.objs.size:=λb hb=>by
  obtain⟨o,e⟩:=fo b hb;exact M8 (MS e)
 have JY:Inv (Nz X scope cl x P2.objs.size s2 H2 fp aa) [(s2.heap.objs.size,bw [] 0)] (none::σ) H2 { s2 with heap:=OP,toks:=s2.toks+([]:List (Me×G')).length }:=
  jR I2 S f2 fo R9 X5 (MJ _) Ps RF ⟨_,P1⟩ hd old
 have QH:∀{H':Hp}{Mh:List G'}{n:Nat},(∀b∈fp,H' b=none)->∀b∈fp,fT (Nz X scope cl x P2.objs.size s2 H2 fp aa) [(s2.heap.objs.size,bw Mh n)] H' b:=λ{H' Mh n} hn b hb=>by
  obtain⟨_,g1,g2,g3,g4,g5⟩:=f2 b hb;obtain⟨o,e⟩:=fo b hb;refine⟨hn b hb,?_,λz=>?_,.inl hb,λy c q=>g4 y c (R9 y c q),λp hp=>?_⟩
  .show b≠P2.objs.size;exact M8 (NH (MS e) Ps)
  .rcases M0.mp (I2.Rf b z) with r|r
   .exact g1 r
   .exact g2 r
  .rcases Ny.mp hp with z|z
   .exact g5 p z
   .rw[N3.mp z];exact λq=>SH b hb q.symm
 have pc:cM (Nb P w) ((Nz X scope cl x P2.objs.size s2 H2 fp aa).Qr (WY X P2.objs.size)) (λ_=>E):=by
  subst hX;exact zD I2 f2 Ps
 have nodup:(Nz X scope cl x P2.objs.size s2 H2 fp aa).N.Nodup:=Py.mpr ⟨S.fresh,hN⟩;have loc:Loc (Nz X scope cl x P2.objs.size s2 H2 fp aa).env.scope x:=.inl (Xl S.var);have loop:∀s4:Md,s4={ s2 with heap:=OP,toks:=s2.toks+([]:List (Me×G')).length }->
   codeAny (Mr X.prog X.w) X.A (.compLoop (.ListComp elt [⟨.Name x px,iter,ifs,0⟩] scope pos) 0 (.ref it) (.ref s2.heap.objs.size) (compEnvC scope cl P2.objs.size X.env))
    (compPost (Mr X.prog X.w) X.A X.xe (some (assign (.Name y py) X.env)) (λ_ s'=>SP X aa D0 .next s') (.ref s2.heap.objs.size) P2.objs.size) s4:=by
  rintro s4 rfl;refine codeAny_loop rfl (λn s'=>∃i ys Mh c H' v0,Inv (Nz X scope cl x P2.objs.size s2 H2 fp aa) [(s2.heap.objs.size,bw Mh c)] (v0::σ) H' s'/\tn i s'.heap/\(∀b∈fp,H' b=none)/\aw ys Mh/\W i n ys H') ?_ m0
   ⟨0,[],[],0,H2,none,JY,T.keep _ _ _ Oi (λb _ o e=>old b o e),λb hb=>(f2 b hb).1,.nil,w0⟩
  rintro n s3 ⟨i,ys,Mh,c,H3,v0,I3,Pc,Se,rv,w3⟩;show Ml _ _ ((compTurn (.ListComp elt [⟨.Name x px,iter,ifs,0⟩] scope pos) 0 (.ref it) (.ref s2.heap.objs.size) (compEnvC scope cl P2.objs.size X.env)).onRaise (λz=>do noteFrame z (compEnvC scope cl P2.objs.size X.env);theTreesLotGoes z)) _ _ s3;refine wpAny_noted ?_;rw[acQ];rcases turn i n ys H3 w3 with⟨stop,hz,qn⟩|⟨go,hz,NN,Uy,step⟩
  .refine Mf (UX (Mf (ME (T.done (Nz X scope cl x P2.objs.size s2 H2 fp aa) rfl rfl rfl hc i _ s3 _ H3 _ I3 (QH Se) Pc stop) λr s5 ⟨hr,I5⟩=>?_)));subst hr;refine Mm ?_;obtain⟨mC,Uz,_⟩:=I5.loc;obtain⟨I6,nD⟩:=me I2 f2 (MJ _) Ps I5 (aaL _ _) rv hz;have fC:H3 P2.objs.size=none:=I5.free;have q:=qn _ nD;have UC:∀b o,s2.heap.get? b=some o->b≠P2.objs.size:=λb o e=>M8 (NH (MS e) Ps);have Ye:∀z c,X.env.cells.lookup z=some c->c≠P2.objs.size:=λz c e=>by
    obtain⟨v,q⟩:=I2.cell z c e;exact M8 (NH q.lt Ps)
   have Yg:X.env.locals≠P2.objs.size:=M8 (NH I2.lt Ps);refine Xv (jL (v:=.ref s2.heap.objs.size) I6 hN hi0 hx rfl (λs7 I7 ⟨a,sb,ha⟩=>?_) hf);have Pj:P2.objs.size≠a:=by
    rcases ha with ha|ha
    .rw[ha];exact M' Yg
    .exact M' (Ye _ _ ha)
   exact⟨mC,Uz.sameBut sb Pj,λh' hs'=>⟨_,_,I7.turned (t':=s7.toks) (it:=P2.objs.size) (λb o hb e=>(hs'.2 b hb).trans e) (by rw[ao (M' RF)];exact fC) (M' Yg) (.inr (OT I2.sz Ps)) Ye (λp hp=>UC _ _ (I2.pin p hp).1),q⟩⟩
  .refine Mf (UX (Mf (ME (T.item (Nz X scope cl x P2.objs.size s2 H2 fp aa) rfl rfl rfl hc i _ s3 _ H3 _ I3 (QH Se) Pc go) λr s5 ⟨u,hr,h5⟩=>?_)));subst hr;refine Mf (ME h5 λ_ s6 ⟨xv,H6,I6,r6,y6,Sh,YD⟩=>?_);have YE:=I6.pinned (QH YD) (T.obj _ _ Sh);refine Mf (Xv (fS (i:=0) YE nodup rfl loc r6 (λs7 I7=>?_) (.inr (Xl S.var))));have q7:=step xv H6 y6;refine Mf (eJ (ME (ht cl P2.objs.size s2 H2 fp aa _ s7 _ H6 _ I7 q7) λok s8 ⟨H8,I8,q8⟩=>?_));have back:∀{H9:Hp}{s9:Md},Inv (Nz X scope cl x P2.objs.size s2 H2 fp aa) ([(s2.heap.objs.size,bw Mh c)]++gQ fp s6.heap) (some xv::σ) H9 s9->tn (i+1) s9.heap/\∀b∈fp,H9 b=none:=λ{H9 s9} I9=>by
    refine⟨T.keep _ _ _ Sh λb hb o e=>(I9.pin (b,o) (OA _ (OA _ (cX hb e)))).1,λb hb=>?_⟩;obtain⟨o,e,d⟩:=T.obj _ _ Sh b hb;exact(I9.pin (b,o) (OA _ (OA _ (cX hb e)))).2.1
   cases ok with
   | false=>
    obtain⟨m',hm,w8⟩:=Uy ys H8 q8;obtain⟨t8,YF⟩:=back I8;exact Mm ⟨rfl,m',hm,i+1,ys,Mh,c,H8,_,I8.Ti,t8,YF,rv,w8⟩
   | true=>
    refine Mf (Mf (QZ (he cl P2.objs.size s2 H2 fp aa pc _ s8 _ H8 _ (I8.Qr _) q8) (λyv s9 ⟨y,H9,I9w,r9,q9⟩=>?_) (λ_ _ z=>z)));have I9:=I9w.R7;obtain⟨m',hm,w9⟩:=Uy _ _ q9;obtain⟨t9,YG⟩:=back I9;have UA:=I9.Ti;obtain⟨eD,nD,Sc,nf,_⟩:=UA.pin (s2.heap.objs.size,bw Mh c) (OA _ MO);refine Mf (abY (items:=Mh.toArray) ⟨c,eD⟩ (λRG X6 SC=>?_) (by rw[ND,<-rv.length];exact Uf hz));obtain⟨c',YH⟩:=X6;have X7:RG.get? s2.heap.objs.size=some (bw (Mh++[yv]) c'):=by rw[YH];simp
    have YI:Inv (Nz X scope cl x P2.objs.size s2 H2 fp aa) [] (some xv::σ) H9 { s9 with heap:=RG }:=by
     have YJ:Inv (Nz X scope cl x P2.objs.size s2 H2 fp aa) [] (some xv::σ) H9 s9:=UA.Uk λp hp=>Mw hp (by simp);refine YJ.turned (t':=s9.toks) (it:=s2.heap.objs.size) (λb o hb q=>(SC.2 b hb).trans q) nD Sc (.inr (MJ _)) (λy cc q=>?_) λp hp=>?_
     .obtain⟨v,z⟩:=I2.cell y cc (R9 y cc q);exact M8 z.lt
     .have UB:p∈X.pn++aa:=by
       have z:p∈(X.pn++aa)++[]:=hp;simpa using z
      exact M8 (MS (I2.pin p UB).1)
    have YK:Inv (Nz X scope cl x P2.objs.size s2 H2 fp aa) [(s2.heap.objs.size,bw (Mh++[yv]) c')] (some xv::σ) H9 { s9 with heap:=RG }:=
     YI.Uk λp hp=>by rw[N3.mp hp];exact⟨X7,nD,Sc,nf,λv q=>nomatch q⟩
    refine Mm (Mm ⟨rfl,m',hm,i+1,ys++[y],Mh++[yv],c',H9,_,YK,?_,YG,rv.append (.cons r9 .nil),w9⟩);exact T.keep _ _ _ t9 λb hb o q=>(SC.2 b (SH b hb)).trans q
 exact ab2 (loop _ rfl) (T.self X.A 0 _ _ _ (T.keep _ _ _ Oi (λb _ o e=>old b o e)) (loop _ rfl))
end
end L2
namespace Ord
open PySem L2 Mx
section
structure Y0 (ms:List Nat)(r:Bk.Mg):Prop where
 once:∀d∈r,(ms.getD d.2.toNat 0).testBit d.1.toNat=false
 RC:∀d∈r,Bk.cf ms d=Bk.cf ms (r.headD (0,0))
def qV (K:Mi)(CB:D'):Sp:=λvs H Q E=>∃(x:V) (r:Bk.Mg) (l:D') (ms:List Nat),vs=[x,.ref l]/\bu K H x r/\r≠[]/\r.length<=8/\MA K H l (e8 ms)/\
 (∀d∈r,0<=d.1/\d.1<8/\0<=d.2/\d.2<ms.length)/\(Y0 ms r->∀H',ar H H'->Q (.int ((Bk.cf ms (r.headD (0,0)):Nat):Int)) H')/\(¬Y0 ms r->∀H',ar H H'->E (.ref CB) none H')
theorem xn (F:Nh K "things_of_room" "things_of_room" lg f fd)(T:N9 K mg CO)(BB:Rh K mg "BadBook" CB)(WT:Df P w K mg base (Nb P w) 1 "things_through" ["door","things"] (oz K CB)):MU P w K mg base (Nb P w) 2 f fd ["room","things"] (qV K CB):=by
 refine F.QM t6 (λvs H Q E h=>?_) (λX MB A outer s H vs Q E hX hp Ot hr h=>?_)
 .obtain⟨x,r,l,ms,rfl,_⟩:=h;rfl
 obtain⟨x,r,l,ms,rfl,⟨a,xs,rfl,q,pr⟩,ne,r8,ql,all,zg,zb⟩:=h;subst hX;refine⟨_,af (Bq (i0:=2) rfl t6.nd rfl (MX rfl) rfl (show Qb (ak lg) ["room","things","found"] _ _ from by constructor <;> decide +kernel) (jN (pv 0)) (λ_ _ _ _ _ _=>kO)
    (λcl C M1 NF fp aa afb=>aF WT hr rfl afb (ac (pv 0) (ac (pv 2) ae))) rfl)
  (af (aQ (ay (su hr.We) (pv 2) (aR ye (bt (ac (aJ (show Nl _ (dG K) from bE) (pv 2) ap (λ_ _=>rfl)) ae)) (aE bh rfl T.t.len dc (ac (pv 2) ae))) (aI _)) (al (bN rfl rfl BB Ot (ac aU ae))) az)
  (al (aM (aJ (show Nl _ (dG K) from bE) (pv 2) ap (λ_ _=>rfl))))),?_⟩
 have hlen:=pr.length;refine⟨_,rfl,a,rfl,⟨_,q⟩,sj (K:=K) (a:=a) (xs:=xs) (λi ys H'=>H'=H/\ys=((r.take i).map λd=>((Bk.cf ms d:Nat):Int)).map V.int/\∀d∈r.take i,(ms.getD d.2.toNat 0).testBit d.1.toNat=false) ⟨rfl,rfl,λd hd=>nomatch hd⟩ ?_ (by rw[Nf];lia) ?_ ?_⟩
 .rintro i ys H' hi ⟨rfl,rfl,_⟩;refine⟨q,?_⟩;rw[Ng,Ng,Ph];lia
 .rintro i x ys H' hx ⟨rfl,rfl,on⟩;obtain⟨⟨dt,dk⟩,hd,p,rfl,qd⟩:=cp pr hx;have mem:=N1 hd;obtain⟨a1,a2,a3,a4⟩:=all _ mem;refine goT (aV ?_);refine⟨_,rfl,_,rfl,.ref p,l,ms,(dt,dk),rfl,⟨p,rfl,qd⟩,ql,a1,a2,a3,a4,λhb=>?_,λhb=>?_⟩
  .rw[bU hd];refine⟨rfl,by simp,λd h=>?_⟩;rcases Ny.mp h with h|h
   .exact on d h
   .rw[N3.mp h];exact hb
  .refine zb (λR=>?_) _ (ar.refl _);have:=R.once _ mem;rw[hb] at this;cases this
 rintro ys H' p ⟨rfl,rfl,on⟩ YM;rw[hlen,QB] at on;have e0:r.take xs.length=r:=by rw[hlen,QB]
 rw[e0];obtain⟨d0,r',rfl⟩:=TY ne;have s1:ar H' (upd H' p (.lst (((d0::r').map λd=>((Bk.cf ms d:Nat):Int)).map V.int))):=ai YM _;generalize hys:((d0::r').map λd=>((Bk.cf ms d:Nat):Int))=ns at s1 ⊢;have ln:ns.length=(d0::r').length:=by rw[<-hys,Ng]
 have at0:PP (ns.map V.int) 0=some (V.int ((Bk.cf ms d0:Nat):Int)):=ck (j:=0) (by rw[<-hys];rfl);have lr:(ns.map V.int).length=ns.length:=Ng _;refine⟨_,rfl,_,rfl,p,_,0,.int ((Bk.cf ms d0:Nat):Int),rfl,rfl,MA.up,at0,by show 1<=Mz;decide,λl0 Q4=>?_⟩;have s2:=ai Q4 (.lst [V.int ((Bk.cf ms d0:Nat):Int)]);have hp1:=s2 _ _ (ag (H:=H') (a:=p) (o:=.lst (ns.map V.int)));refine⟨_,rfl,p,_,rfl,.inl (.inl (.inl hp1)),l0,((ns.map V.int).length:Nat),[V.int ((Bk.cf ms d0:Nat):Int)],rfl,rfl,ag,by lia,by rw[lr];lia,by rw[lr,Nf];simp;lia,λl1 Qi=>?_⟩;have e1:∀k:Nat,(O1 k [V.int ((Bk.cf ms d0:Nat):Int)]).flatten=(O1 k ((Bk.cf ms d0:Nat):Int)).map V.int:=λk=>by
  induction k with
  | zero=>rfl
  | succ k ih=>rw[VJ,ZH,ih,VJ];rfl
 rw[lr,UV,e1];have Ws:=(ai Qi (.lst ((O1 ns.length ((Bk.cf ms d0:Nat):Int)).map V.int))) _ _ hp1;have s3:=(s1.trans s2).trans (ai Qi (.lst ((O1 ns.length ((Bk.cf ms d0:Nat):Int)).map V.int)));refine⟨p,l1,_,_,rfl,rfl,.inl (.inl Ws),MA.up,dA _,dA _,_,rfl,?_⟩;rw[jT]
 by_cases c:ns=O1 ns.length ((Bk.cf ms d0:Nat):Int)
 .rw[M6 c];refine aK ?_;refine⟨_,rfl,p,_,0,.int ((Bk.cf ms d0:Nat):Int),rfl,rfl,.inl (.inl Ws),at0,zg ⟨on,λd hd=>?_⟩ _ s3⟩;have hm:((Bk.cf ms d:Nat):Int)∈ns:=by rw[<-hys];exact Nm.mpr ⟨d,hd,rfl⟩
  rw[c] at hm;exact aeL (List.eq_of_mem_replicate hm)
 .rw[M4 c];refine aV ⟨by show 1<=Mz;decide,zb (λR=>c ?_) _ s3⟩;refine List.eq_replicate_iff.mpr ⟨rfl,λb hb=>?_⟩;rw[<-hys] at hb;obtain⟨d,hd,rfl⟩:=Nm.mp hb;rw[R.RC d hd];rfl
def Qk (many:Int)(rs:List Bk.Mg):Prop:=∀i r,rs[i]?=some r->(r≠[]/\PU many ((i+2:Nat):Int) r)/\Y0 (Bk.bq (rs.take i)) r
theorem Qk.take (h:Qk many rs)(n:Nat):Qk many (rs.take n):=λi r e=>by
 have hi:i<n:=by
  have:=(NP.mp e).1;rw[Ph] at this;lia
 rw[aaI,Mu hi] at e;rw[ZX,VY (by lia)];exact h i r e
theorem Qk.snoc {many:Int}{rs:List Bk.Mg}{n:Nat}{r:Bk.Mg}(e:rs[n]?=some r):Qk many (rs.take (n+1))↔Qk many (rs.take n)/\(r≠[]/\PU many ((n+2:Nat):Int) r)/\Y0 (Bk.bq (rs.take n)) r:=by
 have hn:=(NP.mp e).1;constructor
 .intro h;refine⟨?_,?_⟩
  .have:=h.take n;rwa[ZX,VY (by lia)] at this
  .have:=h n r (by rw[aaI,Mu (by lia)];exact e);rwa[ZX,VY (by lia)] at this
 .rintro⟨h,g⟩ i r' e';have hi:i<n+1:=by
   have:=(NP.mp e').1;rw[Ph] at this;lia
  rw[aaI,Mu hi] at e';rw[ZX,VY (by lia)]
  by_cases c:i=n
  .subst c;rw[e] at e';cases e';exact g
  .have:=h i r' (by rw[aaI,Mu (by lia)];exact e');rwa[ZX,VY (by lia)] at this
theorem Qk.wf (h:Qk many rs):Bk.WF rs:=λi r e=>by
 obtain⟨⟨ne,D⟩,_⟩:=h i r e;exact⟨ne,λd hd=>by have:=D.all d hd;lia,D.rise⟩
theorem Qk.mask (m8:many<=8)(h:Qk many rs):Bk.SJ rs:=λi r e d hd=>by
 obtain⟨⟨ne,D⟩,R⟩:=h i r e;have il:=(NP.mp e).1;have tl:(rs.take i).length=i:=by rw[Ph];lia
 have up:∀k:Nat,k<i+2->(Bk.bq (rs.take i)).getD k 0=Bk.Oj rs k:=λk hk=>(Bk.eO (aaR i rs) (by rw[tl];lia)).symm;have b:=D.all d hd;have e1:=up d.2.toNat (by lia);refine⟨b.1,by lia,?_,?_⟩
 .rw[<-e1];exact R.once d hd
 .obtain⟨d0,r',rfl⟩:=TY ne;have b0:=D.all d0 MO;rw[Bk.tS e (by lia),<-e1,<-up d0.2.toNat (by lia)];exact R.RC d hd
theorem xp {rs:List Bk.Mg}(e:rs[n]?=some r):Bk.bq (rs.take (n+1))=Bk.bq (rs.take n)++[Bk.cf (Bk.bq (rs.take n)) (r.headD (0,0))]:=by
 rw[So,e];unfold Bk.bq;rw[VN,Ua];rfl
def vY (K:Mi)(CB:D'):Sp:=λvs H Q E=>∃(many:Int) (l:D') (xs:List V) (rs:List Bk.Mg),vs=[.int many,.ref l]/\MA K H l xs/\MC (bu K H) xs rs/\many<=8/\rs.length<=1000/\
 (Qk many rs->∀(t:D') (H':Hp),ar H H'->H' t=some (.lst (e8 (Bk.bq rs)))->Q (.ref t) H')/\(¬Qk many rs->∀H',ar H H'->E (.ref CB) none H')
theorem Br (F:Nh K "things_from" "things_from" wU f fd)(T:N9 K mg CO)(WD:Df P w K mg base (Nb P w) 3 "look_doors" ["many","room","number"] (uA K CB))(WO:Df P w K mg base (Nb P w) 2 "things_of_room" ["room","things"] (qV K CB)):
  MU P w K mg base (Nb P w) 4 f fd ["many","rooms"] (vY K CB):=by
 refine F.QM t7 (λvs H Q E h=>?_) (λX MB A outer s H vs Q E hX hp Ot hr h=>?_)
 .obtain⟨many,l,xs,rs,rfl,_⟩:=h;rfl
 obtain⟨many,l,xs,rs,rfl,ql,pr,m8,MW,zg,zb⟩:=h;subst hX;refine⟨_,af (aA (i:=2) t7.nd rfl (MX rfl) (bt (ac ap (ac ap ae))))
  (af (ed (show abg _ _ _ _ from aeD) rfl (cu (pv 1)) (cB (i:=3) t7.nd rfl (MX rfl))
   (af (bA (aF WD hr rfl hp (ac (pv 0) (ac (pv 3) (ac (aE bh rfl T.t.len dc (ac (pv 2) ae)) ae)))))
   (al (bA (eG RW T7 T8 cZ (pv 2) (ac (aF WO (hr.mono (by decide)) rfl hp (ac (pv 3) (ac (pv 2) ae))) ae))))))
  (al (aM (pv 2)))),?_⟩
 refine⟨by show 2<=Mz;decide,λt ht=>?_⟩;have s1:ar H (upd H t (.lst [V.int 0,V.int 0])):=ai ht _;have hlen:=pr.length;refine⟨_,rfl,l,rfl,⟨_,s1.OH ql⟩,e9 (K:=K) (a:=l) (xs:=xs) (λi σ H2=>∃v3,σ=[some (.int many),some (.ref l),some (.ref t),v3]/\ar H H2/\H2 t=some (.lst (e8 (Bk.bq (rs.take i))))/\Qk many (rs.take i)) ⟨none,rfl,s1,ag,λi r e=>by simp at e⟩ ?_ ?_ ?_⟩
 .rintro i σ H2 _ ⟨v3,rfl,s2,_⟩;exact s2.OH ql
 .rintro i x σ H2 hx ⟨v3,rfl,s2,RL,fo⟩;obtain⟨r,OY,ra⟩:=cp pr hx;have il:=(NP.mp OY).1;have tl:(rs.take i).length=i:=by rw[Ph];lia
  have ml:(e8 (Bk.bq (rs.take i))).length=i+2:=by unfold e8;rw[Ng,Bk.dD,tl]
  have sn:=Qk.snoc (many:=many) OY;have bad:¬((r≠[]/\PU many ((i+2:Nat):Int) r)/\Y0 (Bk.bq (rs.take i)) r)->¬Qk many rs:=λn g=>n (sn.mp (g.take (i+1))).2;refine⟨_,rfl,_,rfl,_,rfl,t,_,rfl,.inl (.inl (.inl RL)),many,_,x,r,rfl,ra.same s2,?_,?_,?_⟩
  .rw[ml];exact iu (by lia) (by lia)
  .rw[ml];intro D;have D8:∀d∈r,0<=d.1/\d.1<8/\0<=d.2/\d.2<((Bk.bq (rs.take i)).length:Nat):=λd hd=>by
    have:=D.2.all d hd;have e2:(Bk.bq (rs.take i)).length=i+2:=by rw[Bk.dD,tl]
    rw[e2];exact⟨this.1,by lia,by lia,this.2.2.2⟩
   refine⟨_,rfl,.inl ⟨rfl,_,.inl (.inl RL)⟩,_,rfl,_,rfl,x,r,t,Bk.bq (rs.take i),rfl,ra.same s2,D.1,Bk.A8 D.2.rise (λd hd=>⟨(D8 d hd).1,(D8 d hd).2.1⟩),.inl (.inl RL),D8,λR H3 s3=>?_,λR H3 s3=>zb (bad λg=>R g.2) H3 (s2.trans s3)⟩;refine⟨t,_,_,rfl,rfl,s3 _ _ RL,by rw[ml,Nf];lia,?_⟩;have tH:H t=none:=ht;refine⟨_,rfl,λb o e=>?_,?_,sn.mpr ⟨fo,D,R⟩⟩
   .rw[ao (aq e tH)];exact s3 b o (s2 b o e)
   .rw[ag,xp OY];unfold e8;rw[Qn];rfl
  .rw[ml];exact λD=>zb (bad λg=>D g.1) H2 s2
 .rintro σ H2 ⟨v3,rfl,s2,RL,fo⟩;rw[hlen,QB] at RL fo;exact⟨_,rfl,zg fo t H2 s2 RL⟩
end
end Ord
namespace L2
theorem kC {α:Type}[DecidableEq α]:∀(L ks:List α),ks.Nodup->(∀x∈ks,x∈L)->(∀x∈L,x∈ks)->L.length<=ks.length->L.Nodup
 | [],_,_,_,_,_=>Ue
 | x::L,ks,nd,h1,h2,hl=>by
  have hx:x∈ks:=h2 x MO
  by_cases c:x∈L
  .have:=cx ks L nd λy hy=>by
    rcases M0.mp (h1 y hy) with rfl|h
    .exact c
    .exact h
   rw[N'] at hl;lia
  .have le:(ks.erase x).length=ks.length-1:=aar hx;refine Py.mpr ⟨c,kC L (ks.erase x) (nd.erase x) (λy hy=>?_) (λy hy=>?_) (by rw[le];rw[N'] at hl;lia)⟩
   .have:=(nd.mem_erase_iff).mp hy;rcases M0.mp (h1 y this.2) with h|h
    .exact Mw h this.1
    .exact h
   .refine(nd.mem_erase_iff).mpr ⟨?_,h2 y (Na _ hy)⟩;rintro rfl;exact c hy
end L2
namespace Ord
open PySem L2 Mx
section
def TOk (n:Nat)(rs:List Bk.Mg)(k:Int):Prop:=rs.Nodup/\Bk.walk n rs k [0,1]=bj (rs.length+2)
def uB (K:Mi)(CB:D')(n:Nat):Sp:=λvs H Q E=>∃(l:D') (xs:List V) (rs:List Bk.Mg) (k:Int),vs=[.ref l,.int k]/\MA K H l xs/\MC (bu K H) xs rs/\Bk.WF rs/\rs.length<70/\Bk.dR n rs k/\
 (TOk n rs k->∀H',ar H H'->Q .MV H')/\(¬TOk n rs k->∀H',ar H H'->E (.ref CB) none H')
theorem zE (n:Nat)(F:Nh K "look_turn" "look_turn" nL f fd)(T:N9 K mg CO)(BB:Rh K mg "BadBook" CB)(WW:Df P w K mg base MM (n+1) "walk_rooms" ["rooms","number","walked"] (nM K n)):
  MU P w K mg base (Nb P w) (n+2) f fd ["rooms","first"] (uB K CB n):=by
 refine F.QM vL (λvs H Q E h=>?_) (λX MB A outer s H vs Q E hX hp Ot hr h=>?_)
 .obtain⟨l,xs,rs,k,rfl,_⟩:=h;rfl
 obtain⟨l,xs,rs,k,rfl,ql,pr,wf,MW,Qv,zg,zb⟩:=h;subst hX;obtain⟨t0,m0⟩:=T.no;obtain⟨t1,m1⟩:=T.en;obtain⟨t2,m2⟩:=T.low;refine⟨_,af (aQ (ay dW (aE yU rfl T.t.len dc (ac (bp (qk bM (HU P w) (by have h9:(A.deeper (Pl "look_turn" (ak nL) s.heap.objs.size f MB)).units+16*(n+1)+200<MQ:=hr.un;show(A.deeper _).units+1+1+1+1<MQ;lia) rfl (λI h=>jY I h) (λ⟨p,_,e,_⟩=>⟨p,e⟩)) rfl T.set rF (ac (pv 0) ae)) ae))
    (aE bh rfl T.t.len dc (ac (pv 0) ae)) (aI _)) (al (bN rfl rfl BB Ot (ac aU ae))) az)
  (af (aA (i:=2) vL.nd rfl (MX rfl) (o0 (fY (aH (v:=.int 0) rfl m0 ⟨t0,rfl⟩) mR (fY (aH (v:=.int 1) rfl m1 ⟨t1,rfl⟩) mR oZ)) rfl rfl (by decide) (by decide)))
  (af (bA (aF WW hr rfl (aX (E:=λ_ _ _ _=>False)) (ac (pv 0) (ac (pv 1) (ac (pv 2) ae)))))
  (al (aQ (ay (su hr.We) (bp (o5 rfl) rfl T.t.list gY (ac (pv 2) ae))
    (bp (gF rfl) rfl T.t.list gY (ac (bp jS rfl T.t.range oU (ac (aR cN (aH (v:=.int 2) rfl m2 ⟨t2,rfl⟩) (aE bh rfl T.t.len dc (ac (pv 0) ae))) ae)) ae)) (aI _))
   (al (bN rfl rfl BB Ot (ac aU ae))) az)))),?_⟩
 refine⟨_,rfl,.ref l,rs.map enc,rfl,⟨l,xs,rfl,ql,fJ pr⟩,by rw[Ng];exact MW,λp bs ks YM pb ndk mem=>?_⟩;have s1:ar H (upd H p (hJ w p bs)):=ai YM _;have hlen:=pr.length;have hbk:=pb.length;refine⟨p,bs,rfl,ag,?_⟩;refine⟨_,rfl,l,_,rfl,.inl (s1.OH ql),rfl,_,rfl,?_⟩
 by_cases nd:rs.Nodup
 case neg=>
  have lb:bs.length≠xs.length:=λe=>nd (by
   have:=kC (rs.map enc) ks ndk (λx hx=>(mem x).mp hx) (λx hx=>(mem x).mpr hx) (by rw[Ng];lia);unfold V' at this ⊢;rw[Sn] at this;exact this.imp λh e=>h (congrArg enc e))
  rw[M4 (λh=>lb (by have:=V.int.inj h;lia))];exact aV ⟨by show 1<=Mz;decide,zb (λh=>nd h.1) _ s1⟩
 have ndm:(rs.map enc).Nodup:=by
  unfold V';rw[Sn];exact nd.imp λh e=>h (i4 e)
 have lb:bs.length=xs.length:=by
  have h1:=cx ks (rs.map enc) ndk λx hx=>(mem x).mp hx;have h2:=cx (rs.map enc) ks ndm λx hx=>(mem x).mpr hx;rw[Ng] at h1 h2;lia
 rw[lb,M6 rfl];refine aK ?_;intro wd hw0;refine⟨ag,[(Oy 0,V.bl true),(Oy 1,V.bl true)],rfl,by decide,?_⟩;have SL:(upd (upd (upd H p (hJ w p bs)) wd (HO.dK [])) wd (HO.dK (dL [] [(Oy 0,V.bl true),(Oy 1,V.bl true)]))) wd=some (.dK (Ro [0,1])):=by rw[ag];rfl
 have s3:ar H (upd (upd (upd H p (hJ w p bs)) wd (HO.dK [])) wd (HO.dK (dL [] [(Oy 0,V.bl true),(Oy 1,V.bl true)]))):=λb o e=>by
  have nb:b≠wd:=aq (s1 b o e) hw0;rw[ao nb,ao nb];exact s1 b o e
 refine⟨_,rfl,_,rfl,_,rfl,l,wd,xs,rs,k,[0,1],rfl,s3.OH ql,aD (λ_ _ z=>z.same s3) pr,wf,by lia,SL,⟨by decide,λx hx=>?_,by decide,by decide⟩,Qv,λH4 s4 h4=>?_⟩
 .rcases M0.mp hx with rfl|hx
  .omega
  .rw[N3.mp hx];lia
 have wdH:H wd=none:=s1.free hw0;have s5:ar H H4:=λb o e=>s4 b o (aq e wdH) (s3 b o e);generalize hws:Bk.walk n rs k [0,1]=ws at h4;have e1:(Ro ws).map (λkv=>kV kv.1)=ws.map V.int:=by
  unfold Ro;rw[Z3];rfl
 refine⟨_,rfl,wd,_,rfl,h4,λl1 Qi=>?_⟩;rw[e1];have s6:=s5.trans (ai Qi (.lst (ws.map V.int)));refine⟨_,rfl,l,_,rfl,.inl (s6.OH ql),2,_,rfl,rfl,_,rfl,λr1 Vq=>?_⟩;have s7:=s6.trans (ai Vq (.Rj 0 (2+((xs.length:Nat):Int))));refine⟨r1,0,2+((xs.length:Nat):Int),rfl,ag,by lia,by lia,by lia,by lia,by lia,λl2 NC=>?_⟩;have e2:fV 0 (2+((xs.length:Nat):Int)-0).toNat=(bj (rs.length+2)).map V.int:=by
  rw[fF,show(2+((xs.length:Nat):Int)-0).toNat=rs.length+2 by lia]
 rw[e2];have s8:=s7.trans (ai NC (.lst ((bj (rs.length+2)).map V.int)));have afQ:(upd (upd (upd H4 l1 (.lst (ws.map V.int))) r1 (.Rj 0 (2+((xs.length:Nat):Int)))) l2 (.lst ((bj (rs.length+2)).map V.int))) l1=some (.lst (ws.map V.int)):=
  ai NC _ _ _ (ai Vq _ _ _ ag)
 refine⟨l1,l2,_,_,rfl,rfl,.inl (.inl afQ),MA.up,dA _,dA _,_,rfl,?_⟩;rw[jT]
 by_cases c:ws=bj (rs.length+2)
 .rw[M6 c];exact aK (zg ⟨nd,hws.trans c⟩ _ s8)
 .rw[M4 c];exact aV ⟨by show 1<=Mz;decide,zb (λh=>c (hws.symm.trans h.2)) _ s8⟩
structure Ou (many:Int)(rs)(first:Int):Prop where
 m:1<=many/\many<=8
 fo:Qk many rs
 fst:lB many.toNat (Bk.bq rs) first
 turn:TOk 8 rs first
theorem xq {many:Nat}(m8:many<=8)(fo:Qk many rs)(h:lB many (Bk.bq rs) first):Bk.dR 8 rs first:=by
 rcases h with rfl|⟨f1,f2,f3⟩
 .exact(show Bk.dR 0 rs 0 from .inl rfl).le (by lia)
 .rw[Bk.dD] at f2;have fe:((first.toNat:Nat):Int)=first:=aaF (by lia)
  have:=Bk.ph fo.wf many first.toNat (by lia) (by lia) λo ho=>by
   have p:=Bk.Dc fo.wf (fo.mask (by lia)) (many:=many) (k:=first.toNat) (by lia) (by lia) f3 o ho;rw[p.length_eq,dq]
  rw[fe] at this;exact this.le m8
def vZ (K:Mi)(CB:D'):Sp:=λvs H Q E=>∃(x:V) (many:Int) (rs:List Bk.Mg) (first:Int),vs=[x]/\Oh K H x many rs first/\rs.length<70/\(Ou many rs first->∀H',ar H H'->Q .MV H')/\(¬Ou many rs first->∀H',ar H H'->E (.ref CB) none H')
theorem Bs (F:Nh K "look_book" "look_book" wV f fd)(WP:Df P w K mg base (Nb P w) 3 "look_parts" ["book"] (uz K CB))(WF':Df P w K mg base (Nb P w) 4 "things_from" ["many","rooms"] (vY K CB))(WL:Df P w K mg base (Nb P w) 1 "look_first" ["many","things","first"] (uy K CB))(WT:Df P w K mg base (Nb P w) 10 "look_turn" ["rooms","first"] (uB K CB 8)):MU P w K mg base (Nb P w) 11 f fd ["book"] (vZ K CB):=by
 refine F.QM kh (λvs H Q E h=>?_) (λX MB A outer s H vs Q E hX hp Ot hr h=>?_)
 .obtain⟨x,many,rs,first,rfl,_⟩:=h;rfl
 obtain⟨x,many,rs,first,rfl,B,MW,zg,zb⟩:=h;obtain⟨b,l,xs,rfl,q,ql,pr⟩:=id B.ex;subst hX;refine⟨_,af (bA (aF WP (hr.mono (by decide)) rfl hp (ac (pv 0) ae)))
  (af (aA (i:=1) kh.nd rfl (MX rfl) (aJ (show Nl _ (bF K) from bc) (pv 0) ap (λ_ _=>rfl)))
  (af (aA (i:=2) kh.nd rfl (MX rfl) (aJ (show Nl _ (bF K) from bc) (pv 0) ap (λ_ _=>rfl)))
  (af (aA (i:=3) kh.nd rfl (MX rfl) (aJ (show Nl _ (bF K) from bc) (pv 0) ap (λ_ _=>rfl)))
  (af (aA (i:=4) kh.nd rfl (MX rfl) (aF WF' (hr.mono (by decide)) rfl hp (ac (pv 1) (ac (pv 2) ae))))
  (af (bA (aF WL (hr.mono (by decide)) rfl hp (ac (pv 1) (ac (pv 4) (ac (pv 3) ae)))))
  (al (bA (aF WT hr rfl hp (ac (pv 2) (ac (pv 3) ae)))))))))),?_⟩
 refine⟨_,rfl,.ref b,many,rs,first,rfl,B,λm18=>?_,λh=>zb (λg=>h g.m) H (ar.refl H)⟩;refine⟨_,rfl,b,_,0,.int many,rfl,rfl,q,hV,?_⟩;refine⟨_,rfl,b,_,1,.ref l,rfl,rfl,q,jp,?_⟩;refine⟨_,rfl,b,_,2,.int first,rfl,rfl,q,tV,?_⟩;refine⟨_,rfl,_,rfl,many,l,xs,rs,rfl,ql,pr,m18.2,by lia,λfo t H1 s1 ht=>?_,λh H1 s1=>zb (λg=>h g.fo) H1 s1⟩;obtain⟨m,rfl⟩:∃m:Nat,many=m:=⟨many.toNat,(aaF (by lia)).symm⟩
 refine⟨_,rfl,_,rfl,_,rfl,m,first,t,Bk.bq rs,rfl,.inl (.inl ht),by lia,λfs=>?_,λh=>zb (λg=>h g.fst) H1 s1⟩;refine⟨_,rfl,_,rfl,l,xs,rs,first,rfl,s1.OH ql,aD (λ_ _ z=>z.same s1) pr,fo.wf,MW,xq (by lia) fo fs,λtk H2 s2=>zg ⟨m18,fo,fs,tk⟩ H2 (s1.trans s2),λh H2 s2=>zb (λg=>h g.turn) H2 (s1.trans s2)⟩
end
abbrev uC:Mv:=top 37
abbrev pJ:Mv:=top 36
abbrev mI:Mv:=top 42
abbrev uD:Mv:=top 43
theorem EI:Pz "str"=some (.type "str"):=by decide +kernel
theorem EJ:Re K (.type "str") (.type "str")=some true:=rfl
theorem gm (s:ar H H')(T:fA H Pt pos q):fA H' Pt pos q:=by
 obtain⟨ps,hT,htr,Uv⟩:=T;exact⟨ps,s _ _ hT,htr,Uv.imp id λ⟨c,oc,e1,e2,e3⟩=>⟨c,oc,e1,s _ _ e2,e3⟩⟩
theorem Uo.a (B:Uo K H0 H t lr many rs first):Oh K H (.ref t) many rs first:=by
 obtain⟨xs,h1,h2⟩:=B.rooms;exact⟨t,lr,xs,rfl,.inl (.inl B.at_),MA.of h1,h2⟩
section
def pK (K:Mi)(CB CU:D'):Sp:=λvs H Q E=>∃(x1 x2:V) (m1 m2:Int) (Mo Mj:List Bk.Mg) (f1 f2:Int),vs=[x1,x2]/\Oh K H x1 m1 Mo f1/\Oh K H x2 m2 Mj f2/\Mo.length<70/\Mj.length<70/\
 (¬(Ou m1 Mo f1/\Ou m2 Mj f2)->∀H',ar H H'->E (.ref CB) none H')/\(Ou m1 Mo f1->Ou m2 Mj f2->m1≠m2->∀H',ar H H'->E (.ref CU) none H')/\(Ou m1 Mo f1->Ou m2 Mj f2->m1=m2->∀H',ar H H'->Q .MV H')
theorem Dd:NE ["one","other"] ["one","other"] (ak uC):=⟨rfl,rfl,rfl,by decide +kernel,rfl,by decide +kernel,by decide +kernel⟩
theorem Bt (F:Nh K "look_alike" "look_alike" uC f fd)(UU:Rh K mg "Unlike" CU)(WB:Df P w K mg base (Nb P w) 11 "look_book" ["book"] (vZ K CB)):MU P w K mg base (Nb P w) 12 f fd ["one","other"] (pK K CB CU):=by
 refine F.QM Dd (λvs H Q E h=>?_) (λX MB A outer s H vs Q E hX hp Ot hr h=>?_)
 .obtain⟨x1,x2,m1,m2,Mo,Mj,f1,f2,rfl,_⟩:=h;rfl
 obtain⟨x1,x2,m1,m2,Mo,Mj,f1,f2,rfl,B1,B2,l1,l2,zb,zu,zg⟩:=h;subst hX;refine⟨_,af (bA (aF WB hr rfl hp (ac (pv 0) ae)))
  (af (bA (aF WB hr rfl hp (ac (pv 1) ae)))
  (al (aQ (ay dW (aJ (show Nl _ (bF K) from bc) (pv 0) ap (λ_ _=>rfl)) (aJ (show Nl _ (bF K) from bc) (pv 1) ap (λ_ _=>rfl)) (aI _)) (al (bN rfl rfl UU Ot (ac aU ae))) az))),?_⟩
 refine⟨_,rfl,x1,m1,Mo,f1,rfl,B1,l1,λo1 H1 s1=>?_,λn H1 s1=>zb (λh=>n h.1) H1 s1⟩;refine⟨_,rfl,x2,m2,Mj,f2,rfl,B2.same s1,l2,λo2 H2 s2=>?_,λn H2 s2=>zb (λh=>n h.2) H2 (s1.trans s2)⟩;have Pf:=s1.trans s2;obtain⟨b1,y1,Rq,rfl,t1,_,_⟩:=(B1.same Pf).ex;obtain⟨b2,y2,Rr,rfl,t2,_,_⟩:=(B2.same Pf).ex;refine⟨_,rfl,b1,_,0,.int m1,rfl,rfl,t1,hV,_,rfl,b2,_,0,.int m2,rfl,rfl,t2,hV,rfl,_,rfl,?_⟩
 by_cases c:m1=m2
 .rw[M6 (by rw[c])];exact aK (zg o1 o2 c _ Pf)
 .rw[M4 (λh=>c (V.int.inj h))];exact aV ⟨by show 1<=Mz;decide,zu o1 o2 c _ Pf⟩
def v9 (K:Mi):Sp:=λvs H Q _=>∃(x:V) (many:Int) (rs:List Bk.Mg) (first:Int) (o:List Int),vs=[x]/\Oh K H x many rs first/\Bk.WF rs/\1<=first/\first<(rs.length:Int)+2/\(Bk.bC rs first).head?=some o/\o.length<=100/\
 ∀r H',ar H H'->H' r=some (.tup (o.map V.int))->Q (.ref r) H'
theorem jb:NE ["book","things","number","door"] ["book"] (ak uD):=⟨rfl,rfl,rfl,by decide +kernel,rfl,by decide +kernel,by decide +kernel⟩
theorem Bu (F:Nh K "least_order" "least_order" uD f fd)(T:N9 K mg CO):MU P w K mg base MM 1 f fd ["book"] (v9 K):=by
 refine F.ok jb (λvs H Q E h=>?_) (λMB A outer s H vs Q E hr h=>?_)
 .obtain⟨x,many,rs,first,o,rfl,_⟩:=h;rfl
 obtain⟨x,many,rs,first,o,rfl,B,wf,f1,f2,ho,ol,z⟩:=h;obtain⟨b,l,xs,rfl,q,ql,pr⟩:=id B.ex;obtain⟨t1,m1⟩:=T.en;obtain⟨t2,m2⟩:=T.low;refine⟨_,af (aA (i:=1) jb.nd rfl (MX rfl) (bt ae))
  (af (aA (i:=2) jb.nd rfl (MX rfl) (aJ (show Nl _ (bF K) from bc) (pv 0) ap (λ_ _=>rfl)))
  (af (PS.Qt (Aj Tb (ay dW (pv 2) (aH (v:=.int 1) rfl m1 ⟨t1,rfl⟩) (aI _))
   (af (aA (i:=3) jb.nd rfl (MX rfl) (aJ (show Nl _ (bF K) from bc) (aJ (show Nl _ (dG K) from bE) (aJ (show Nl _ (bF K) from bc) (pv 0) ap (λ_ _=>rfl)) (aR mU (pv 2) (aH (v:=.int 2) rfl m2 ⟨t2,rfl⟩)) (λ_ _=>rfl)) ap (λ_ _=>rfl)))
   (af (bA (eG RW T7 T8 cZ (pv 1) (ac (aJ (show Nl _ (bF K) from bc) (pv 3) ap (λ_ _=>rfl)) ae)))
   (al (aA (i:=2) jb.nd rfl (MX rfl) (aJ (show Nl _ (bF K) from bc) (pv 3) ap (λ_ _=>rfl))))))))
  (al (aM (bp cU rfl T.t.tuple dM (ac (pv 1) ae)))))),?_⟩
 refine⟨by show 0<=Mz;decide,λg hg=>?_⟩;have s3:=ai hg (.lst []);have hg3:(upd H g (.lst [])) g=some (.lst []):=ag;generalize (upd H g (.lst []))=H3 at s3 hg3 ⊢;refine⟨_,rfl,b,_,2,.int first,rfl,rfl,s3.Oq q,tV,?_⟩;dsimp only[mT,rR];refine Al (λσ H4=>∃(ts:List Int) (k:Int) (v3:Option V),σ=[some (.ref b),some (.ref g),some (.int k),v3]/\ar H H4/\H4 g=some (.lst (ts.map V.int))/\1<=k/\k<(rs.length:Int)+2/\((Bk.bC rs k).head?).map (ts++·)=some o)
  (λσ _=>match σ with
   | [_,_,some (.int k),_]=>k.toNat
   | _=>0) ⟨[],first,none,rfl,s3,hg3,f1,f2,by rw[ho];rfl⟩ ?_ (λσ H Q Q' i ⟨v,e,fl,b,hb,hq⟩=>⟨v,e,fl,b,hb,i _ _ hq⟩)
 rintro σ H4 ⟨ts,k,v3,rfl,s4,Vt,k1,kl,ht⟩;refine⟨_,rfl,rfl,_,rfl,?_⟩
 by_cases ke:k=1
 .subst ke;rw[M6 (show V.int 1=V.int 1 from rfl)];refine aK ?_;rw[Bk.hZ] at ht;have:ts=o:=by simpa using ht
  subst this;exact⟨_,rfl,g,_,rfl,.inl ⟨MA.of Vt,λr OY=>z r _ (s4.trans (ai OY _)) ag⟩⟩
 .rw[M4 (λh=>ke (V.int.inj h))];refine aV ?_;obtain⟨ok,es⟩:=Bk.i8 wf (k:=k) (by lia) kl;have hr':=Bk.fI (rs:=rs) (k:=k) (by lia);obtain⟨x,hx,ra⟩:=dX pr hr';obtain⟨a,ys,rfl,qa,pa⟩:=ra.same s4;obtain⟨d,ds,e⟩:=TY ok.ne;have ah:=ok.ahead d (by rw[e];exact MO);obtain⟨y,hy,p,rfl,qp⟩:=dX pa (show(Bk.aO rs k)[0]?=some d by rw[e];rfl);have ik:PP xs (k-2)=some (.ref a):=by
   have:=ck hx;rw[show(((k-2).toNat:Nat):Int)=k-2 by lia] at this;exact this
  refine⟨_,rfl,b,_,1,.ref l,rfl,rfl,s4.Oq q,jp,_,rfl,_,_,rfl,rfl,l,xs,k-2,.ref a,rfl,rfl,s4.OH ql,ik,a,ys,0,.ref p,rfl,rfl,qa,ck (j:=0) hy,?_⟩;obtain⟨oo,l',e'⟩:=TY (Bk.gM wf (k:=d.2) ah.1 (by lia));have hoo:ts++d.1::oo=o:=by
   rw[es,e,aaK,e'] at ht;simpa using ht
  have tl:ts.length<=100:=by
   rw[<-hoo,NQ] at ol;lia
  refine⟨_,rfl,.inl ⟨rfl,_,MA.of Vt⟩,_,rfl,p,_,0,.int d.1,rfl,rfl,qp,hV,g,_,_,rfl,rfl,Vt,by rw[Ng,Nf];lia,?_⟩;have qp7:MR K (upd H4 g (.lst (ts.map V.int++[V.int d.1]))) p [.int d.1,.int d.2]:=qp.soft Vt trivial;refine⟨_,rfl,p,_,1,.int d.2,rfl,rfl,qp7,jp,?_⟩;refine⟨⟨ts++[d.1],d.2,some (.ref p),rfl,λbb u qq=>?_,?_,ah.1,by lia,?_⟩,?_⟩
  .rw[ao (aq qq hg)];exact s4 _ _ qq
  .rw[ag,Qn];rfl
  .rw[e'];simpa using hoo
  .show d.2.toNat<k.toNat;lia
def fD (K:Mi)(Pt CB CU CR:D'):Sp:=λvs H Q E=>∃(word:Me) (x1 x2:V),vs=[.str word,x1,x2]/\((Qy word=none/\E (.ref CR) none H)\/
 ∃(cl:Bk.Cl) (m1 m2:Int) (Mo Mj:List Bk.Mg) (f1 f2:Int),Qy word=some cl/\Oh K H x1 m1 Mo f1/\Oh K H x2 m2 Mj f2/\Mo.length<70/\Mj.length<70/\
 (¬(Ou m1 Mo f1/\Ou m2 Mj f2)->∀H',ar H H'->E (.ref CB) none H')/\(Ou m1 Mo f1->Ou m2 Mj f2->m1≠m2->∀H',ar H H'->E (.ref CU) none H')/\
 (Ou m1 Mo f1->Ou m2 Mj f2->m1=m2->∃many:Nat,m1=many/\Bk.SS many Mo Mj f1 f2/\many<=4/\fA H Pt (jC (fB bV)) qJ/\(Bk.eP (Bk.eA cl Mo Mj) many (Bk.cS cl f1 f2)).1.length<1000/\
  ∀(t lr:D') (H':Hp),cr Pt H H'->fA H' Pt (jC (fB bV)) qJ->Uo K H H' t lr many (Bk.eP (Bk.eA cl Mo Mj) many (Bk.cS cl f1 f2)).1 (Bk.eP (Bk.eA cl Mo Mj) many (Bk.cS cl f1 f2)).2->Q (.ref t) H'))
theorem Bv:NE ["word","one","other"] ["word","one","other"] (ak pJ):=⟨rfl,rfl,rfl,by decide +kernel,rfl,by decide +kernel,by decide +kernel⟩
variable {P:MD}{w:Mt}{K:Mi}{mg:Me->Option G'}{base:Mp}{CO:D'}{CB:D'}{CU:D'}{CR:D'} in
theorem zF {f Pt aC:D'}{fd:MY}{kvs:List (Key×G')}(F:Nh K "joined" "joined" pJ f fd)(T:WV K mg CO)(afR:mg "str"=none)(TC:TxC P w K mg aC kvs)(RR:Rh K mg "BadRule" CR)(WA:Df P w K mg base (Nb P w) 12 "look_alike" ["one","other"] (pK K CB CU))(WJ:Df P w K mg base MM 11 "join_books" ["word","one","other"] (pH K Pt)):MU P w K mg base (Nb P w) 13 f fd ["word","one","other"] (fD K Pt CB CU CR):=by
 refine F.QM Bv (λvs H Q E h=>?_) (λX MB A outer s H vs Q E hX hp Ot hr h=>?_)
 .obtain⟨word,x1,x2,rfl,_⟩:=h;rfl
 obtain⟨word,x1,x2,rfl,h⟩:=h;subst hX;refine⟨_,af (aQ (PW.pt (kJ (cW (dZ (aE bO rfl T.t.t.Qu dy (ac (pv 0) (ac (eB (v:=.ty "str") rfl afR EI rfl) ae)))))
    (iM (ay (zx TC.d) (pv 0) (aH (v:=.ref aC) rfl TC.at_ rfl) rfl)))) (al (bN rfl rfl RR Ot (ac aU ae))) az)
  (af (bA (aF WA hr rfl hp (ac (pv 1) (ac (pv 2) ae))))
  (al (aM (aF WJ (hr.mono (by decide)) rfl (aX (E:=λ_ _ _ _=>False)) (ac (pv 0) (ac (pv 1) (ac (pv 2) ae))))))),?_⟩
 refine⟨_,rfl,_,_,_,_,_,rfl,rfl,.of (.str word),EJ,_,rfl,aK ?_⟩;refine⟨_,rfl,.inr word,rfl,rfl,_,rfl,?_⟩;rcases h with⟨hn,e⟩|⟨cl,m1,m2,Mo,Mj,f1,f2,hw,B1,B2,l1,l2,zb,zu,zg⟩
 .rw[TC.MV word hn];exact aV ⟨by show 1<=Mz;decide,e⟩
 obtain⟨c,hv,_⟩:=TC.val word cl hw;rw[hv];refine aK ?_;refine⟨_,rfl,_,rfl,x1,x2,m1,m2,Mo,Mj,f1,f2,rfl,B1,B2,l1,l2,zb,zu,λo1 o2 e H1 s1=>?_⟩;obtain⟨many,em,J,m4,TA,MW,z⟩:=zg o1 o2 e;subst em;subst e;refine⟨_,rfl,_,rfl,_,rfl,word,x1,x2,many,Mo,Mj,f1,f2,cl,rfl,hw,B1.same s1,B2.same s1,J,m4,gm s1 TA,MW,λt lr H2 s2 T2 BN=>?_⟩;exact z t lr H2 (λb o hb e=>s2 b o hb (s1 b o e)) T2 ⟨s1.free BN.ft,s1.free BN.fl,BN.at_,BN.rooms⟩
abbrev rJ:Bk.Cl:=[(1,0),(0,1)]
def cL (K:Mi)(Pt CB CU:D'):Sp:=λvs H Q E=>∃(x1 x2:V) (m1 m2:Int) (Mo Mj:List Bk.Mg) (f1 f2:Int),vs=[x1,x2]/\Oh K H x1 m1 Mo f1/\Oh K H x2 m2 Mj f2/\Mo.length<70/\Mj.length<70/\
 (¬(Ou m1 Mo f1/\Ou m2 Mj f2)->∀H',ar H H'->E (.ref CB) none H')/\(Ou m1 Mo f1->Ou m2 Mj f2->m1≠m2->∀H',ar H H'->E (.ref CU) none H')/\
 (Ou m1 Mo f1->Ou m2 Mj f2->m1=m2->∃(many:Nat) (g:List Bk.Mg×Nat),m1=many/\Bk.SS many Mo Mj f1 f2/\many<=4/\fA H Pt (jC (fB bV)) qJ/\Bk.eP (Bk.eA rJ Mo Mj) many (Bk.cS rJ f1 f2)=g/\g.1.length<1000/\
  ((g.2=0/\∀(H':Hp),cr Pt H H'->fA H' Pt (jC (fB bV)) qJ->Q .MV H')\/
   (g.2≠0/\∃o,Bk.WF g.1/\g.2<g.1.length+2/\(Bk.bC g.1 g.2).head?=some o/\o.length<=100/\∀(r:D') (H':Hp),cr Pt H H'->fA H' Pt (jC (fB bV)) qJ->H' r=some (.tup (o.map V.int))->Q (.ref r) H')))
theorem qW:NE ["one","other","odd"] ["one","other"] (ak mI):=⟨rfl,rfl,rfl,by decide +kernel,rfl,by decide +kernel,by decide +kernel⟩
theorem xt (F:Nh K "parting" "parting" mI f fd)(T:N9 K mg CO)(WA:Df P w K mg base (Nb P w) 12 "look_alike" ["one","other"] (pK K CB CU))(WJ:Df P w K mg base MM 11 "join_books" ["word","one","other"] (pH K Pt))(WL:Df P w K mg base MM 1 "least_order" ["book"] (v9 K)):MU P w K mg base (Nb P w) 13 f fd ["one","other"] (cL K Pt CB CU):=by
 refine F.QM qW (λvs H Q E h=>?_) (λX MB A outer s H vs Q E hX hp Ot hr h=>?_)
 .obtain⟨x1,x2,m1,m2,Mo,Mj,f1,f2,rfl,_⟩:=h;rfl
 obtain⟨x1,x2,m1,m2,Mo,Mj,f1,f2,rfl,B1,B2,l1,l2,zb,zu,zg⟩:=h;subst hX;obtain⟨t0,m0⟩:=T.no;refine⟨_,af (bA (aF WA hr rfl hp (ac (pv 0) (ac (pv 1) ae))))
  (af (aA (i:=2) qW.nd rfl (MX rfl) (aF WJ (hr.mono (by decide)) rfl (aX (E:=λ_ _ _ _=>False)) (ac aU (ac (pv 0) (ac (pv 1) ae)))))
  (af (aQ (ay dU (aJ (show Nl _ (bF K) from bc) (pv 2) ap (λ_ _=>rfl)) (aH (v:=.int 0) rfl m0 ⟨t0,rfl⟩) (aI _)) (al (aM gP)) az)
  (al (aM (aF WL (hr.mono (by decide)) rfl (aX (E:=λ_ _ _ _=>False)) (ac (pv 2) ae)))))),?_⟩
 refine⟨_,rfl,_,rfl,x1,x2,m1,m2,Mo,Mj,f1,f2,rfl,B1,B2,l1,l2,zb,zu,λo1 o2 e H1 s1=>?_⟩;obtain⟨many,g,em,J,m4,TA,eg,MW,z⟩:=zg o1 o2 e;subst em;subst e;refine⟨_,rfl,_,rfl,"odd",x1,x2,many,Mo,Mj,f1,f2,rJ,rfl,rfl,B1.same s1,B2.same s1,J,m4,gm s1 TA,by rw[eg];exact MW,λt lr H2 s2 T2 BN=>?_⟩;rw[eg] at BN;have Pf:cr Pt H H2:=λb o hb e=>s2 b o hb (s1 b o e);refine⟨_,rfl,t,_,2,.int (g.2:Int),rfl,rfl,.inl (.inl BN.at_),tV,rfl,_,rfl,?_⟩;rcases z with⟨g0,z⟩|⟨g0,o,wf,gl,ho,ol,z⟩
 .rw[g0,M6 (show V.int ((0:Nat):Int)=V.int 0 from rfl)];exact aV (z H2 Pf T2)
 .rw[M4 (λh=>g0 (by have:=V.int.inj h;lia))];refine aK ?_;exact⟨_,rfl,.ref t,many,g.1,g.2,o,rfl,BN.a,wf,by lia,by lia,ho,ol,λr H3 s3 hr3=>z r H3 (λb o hb e=>s3 _ _ (Pf b o hb e)) (gm s3 T2) hr3⟩
end
abbrev xw:Mv:=top 52
abbrev xx:Mv:=top 53
theorem De:Pz "ValueError"=some (.type "ValueError"):=by decide +kernel
section
def Kd (K:Mi)(mg:Me->Option G')(C:D')(x:Me)(b:Bool):Prop:=∃D,mg x=some (.ref D)/\Re K (.ref C) (.ref D)=some b
structure Ref (K)(mg:Me->Option G')(C)(b0 b1 b2 b3 b4 b5 b6)(j:Nat)(word):Prop where
 k0:Kd K mg C "BadBook" b0
 k1:Kd K mg C "BadNumber" b1
 k2:Kd K mg C "BadOrder" b2
 k3:Kd K mg C "BadRule" b3
 k4:Kd K mg C "BadText" b4
 k5:Kd K mg C "BadWeights" b5
 k6:Kd K mg C "Unlike" b6
 ei:Ur K C
 ve:mg "ValueError"=none
 kv:Re K (.ref C) (.type "ValueError")=some true
 cnt:[V.bl b0,V.bl b1,V.bl b2,V.bl b3,V.bl b4,V.bl b5,V.bl b6].countP (λy=>OX y (.bl true))=1
 at_:[b0,b1,b2,b3,b4,b5,b6][j]?=some true
 bef:∀i,i<j->[b0,b1,b2,b3,b4,b5,b6][i]?=some false
 wd:PP [V.str "book",V.str "number",V.str "order",V.str "rule",V.str "text",V.str "weights",V.str "unlike"] (j:Int)=some (.str word)
def zG (K:Mi)(mg:Me->Option G'):Sp:=λvs H Q _=>(vs=[.MV]/\Q (.str "ok") H)\/∃(e C:D') (b0 b1 b2 b3 b4 b5 b6:Bool) (j:Nat) (word:Me),vs=[.ref e]/\H e=some (jU e (.ref C))/\Ref K mg C b0 b1 b2 b3 b4 b5 b6 j word/\∀H',ar H H'->Q (.str word) H'
theorem uE:NE ["_law_kept","_law_kinds"] ["_law_kept"] (ak xw):=⟨rfl,rfl,rfl,by decide +kernel,rfl,by decide +kernel,by decide +kernel⟩
theorem Dg (F:Nh K "_law_refusal" "_law_refusal" xw f fd)(T:N9 K mg CO):MU P w K mg base MM 1 f fd ["_law_kept"] (zG K mg):=by
 refine F.ok uE (λvs H Q E h=>?_) (λMB A outer s H vs Q E hr h=>?_)
 .rcases h with⟨rfl,_⟩|⟨e,C,_,_,_,_,_,_,_,_,_,rfl,_⟩
  .rfl
  .rfl
 rcases h with⟨rfl,q⟩|⟨e,C,b0,b1,b2,b3,b4,b5,b6,j,word,rfl,he,R,q⟩
 .exact⟨_,af (aQ (ay rT (pv 0) gP (aI _)) (al (aM aU)) az) (af aZ (af aZ (af aZ (af aZ (al aZ))))),⟨_,rfl,rfl,_,rfl,aV q⟩⟩
 obtain⟨D0,m0,k0⟩:=R.k0;obtain⟨D1,m1,k1⟩:=R.k1;obtain⟨D2,m2,k2⟩:=R.k2;obtain⟨D3,m3,k3⟩:=R.k3;obtain⟨D4,m4,k4⟩:=R.k4;obtain⟨D5,m5,k5⟩:=R.k5;obtain⟨D6,m6,k6⟩:=R.k6;refine⟨_,af (aQ (ay rT (pv 0) gP (aI _)) (al (aM aU)) az)
  (af (aA (i:=1) uE.nd rfl (MX rfl) (bt
   (ac (aE bO rfl T.t.Qu dy (ac (pv 0) (ac (aH (v:=.ref D0) rfl m0 rfl) ae)))
   (ac (aE bO rfl T.t.Qu dy (ac (pv 0) (ac (aH (v:=.ref D1) rfl m1 rfl) ae)))
   (ac (aE bO rfl T.t.Qu dy (ac (pv 0) (ac (aH (v:=.ref D2) rfl m2 rfl) ae))) ae)))))
  (af (aA (i:=1) uE.nd rfl (MX rfl) (aR se (pv 1) (bt
   (ac (aE bO rfl T.t.Qu dy (ac (pv 0) (ac (aH (v:=.ref D3) rfl m3 rfl) ae)))
   (ac (aE bO rfl T.t.Qu dy (ac (pv 0) (ac (aH (v:=.ref D4) rfl m4 rfl) ae)))
   (ac (aE bO rfl T.t.Qu dy (ac (pv 0) (ac (aH (v:=.ref D5) rfl m5 rfl) ae))) ae))))))
  (af (bA (eG RW T7 T8 cZ (pv 1) (ac (aE bO rfl T.t.Qu dy (ac (pv 0) (ac (aH (v:=.ref D6) rfl m6 rfl) ae))) ae)))
  (af (aQ (PW.pt (kJ (ay dW (eG RW ad4 PySem.F.type_list_count AA (pv 1) (ac mR ae)) ap (aI _))
    (iM (cW (dZ (aE bO rfl T.t.Qu dy (ac (pv 0) (ac (eB (v:=.ty "ValueError") rfl R.ve De rfl) ae))))))))
   (al (aM aU)) az)
  (al (aM (aJ bE (bt (ac aU (ac aU (ac aU (ac aU (ac aU (ac aU (ac aU ae))))))))
   (eG RW aau aeb AB (pv 1) (ac mR ae)) (λ_ _=>rfl)))))))),?_⟩
 have ty:∀H',ar H H'->Wq K H' (.ref e) (.ref C):=λH' s1=>.exc (s1 _ _ he) R.ei;refine⟨_,rfl,rfl,_,rfl,aK ?_⟩;refine⟨_,rfl,_,_,_,_,_,rfl,rfl,ty H (ar.refl H),k0,?_⟩;refine⟨_,rfl,_,_,_,_,_,rfl,rfl,ty H (ar.refl H),k1,?_⟩;refine⟨_,rfl,_,_,_,_,_,rfl,rfl,ty H (ar.refl H),k2,?_⟩;refine⟨by show 3<=Mz;decide,λl1 n1=>?_⟩;have s1:=ai n1 (.lst [V.bl b0,V.bl b1,V.bl b2]);have h1:(upd H l1 (.lst [V.bl b0,V.bl b1,V.bl b2])) l1=some (.lst [V.bl b0,V.bl b1,V.bl b2]):=ag;generalize (upd H l1 (.lst [V.bl b0,V.bl b1,V.bl b2]))=H1 at s1 h1 ⊢;refine⟨_,rfl,?_⟩;refine⟨_,rfl,_,_,_,_,_,rfl,rfl,ty _ s1,k3,?_⟩;refine⟨_,rfl,_,_,_,_,_,rfl,rfl,ty _ s1,k4,?_⟩;refine⟨_,rfl,_,_,_,_,_,rfl,rfl,ty _ s1,k5,?_⟩;refine⟨by show 3<=Mz;decide,λl2 n2=>?_⟩;have s2:=s1.trans (ai n2 (.lst [V.bl b3,V.bl b4,V.bl b5]));have h2:=ai n2 (.lst [V.bl b3,V.bl b4,V.bl b5]) _ _ h1;have h2':(upd H1 l2 (.lst [V.bl b3,V.bl b4,V.bl b5])) l2=some (.lst [V.bl b3,V.bl b4,V.bl b5]):=ag;generalize (upd H1 l2 (.lst [V.bl b3,V.bl b4,V.bl b5]))=H2 at s2 h2 h2' ⊢;refine⟨l1,l2,_,_,rfl,rfl,h2,h2',by show 6<=Mz;decide,λl n3=>?_⟩;have s3:=s2.trans (ai n3 (.lst [V.bl b0,V.bl b1,V.bl b2,V.bl b3,V.bl b4,V.bl b5]));have h3:(upd H2 l (.lst [V.bl b0,V.bl b1,V.bl b2,V.bl b3,V.bl b4,V.bl b5])) l=some (.lst [V.bl b0,V.bl b1,V.bl b2,V.bl b3,V.bl b4,V.bl b5]):=ag;have Q4:H l=none:=s2.free n3;have e6:([V.bl b0,V.bl b1,V.bl b2]++[V.bl b3,V.bl b4,V.bl b5])=[V.bl b0,V.bl b1,V.bl b2,V.bl b3,V.bl b4,V.bl b5]:=rfl;rw[e6];generalize (upd H2 l (.lst [V.bl b0,V.bl b1,V.bl b2,V.bl b3,V.bl b4,V.bl b5]))=H3 at s3 h3 ⊢;refine⟨_,rfl,.inl ⟨rfl,_,MA.of h3⟩,?_⟩;refine⟨_,rfl,_,_,_,_,_,rfl,rfl,ty _ s3,k6,?_⟩;refine⟨l,_,_,rfl,rfl,h3,by show 6<Mz;decide,?_⟩;have e7:([V.bl b0,V.bl b1,V.bl b2,V.bl b3,V.bl b4,V.bl b5]++[V.bl b6])=[V.bl b0,V.bl b1,V.bl b2,V.bl b3,V.bl b4,V.bl b5,V.bl b6]:=rfl;rw[e7];have s4:ar H (upd H3 l (.lst [V.bl b0,V.bl b1,V.bl b2,V.bl b3,V.bl b4,V.bl b5,V.bl b6])):=λb o qq=>by
  rw[ao (aq qq Q4)];exact s3 b o qq
 have h4:(upd H3 l (.lst [V.bl b0,V.bl b1,V.bl b2,V.bl b3,V.bl b4,V.bl b5,V.bl b6])) l=some (.lst [V.bl b0,V.bl b1,V.bl b2,V.bl b3,V.bl b4,V.bl b5,V.bl b6]):=ag;generalize (upd H3 l (.lst [V.bl b0,V.bl b1,V.bl b2,V.bl b3,V.bl b4,V.bl b5,V.bl b6]))=H4 at s4 h4 ⊢;refine⟨_,rfl,.inl ⟨rfl,_,MA.of h4⟩,l,_,_,rfl,rfl,MA.of h4,rfl,rfl,rfl,_,rfl,?_⟩;rw[R.cnt,M6 (show V.int ((1:Nat):Int)=V.int 1 from rfl)];refine aK ?_;refine⟨_,rfl,_,_,_,_,_,rfl,rfl,ty _ s4,R.kv,_,rfl,aK ?_⟩;refine⟨by show 7<=Mz;decide,λl3 n5=>?_⟩;have s5:=ai n5 (.lst [V.str "book",V.str "number",V.str "order",V.str "rule",V.str "text",V.str "weights",V.str "unlike"]);have h5:=MA.of (K:=K) (s5 _ _ h4);have bm:∀i:Nat,[V.bl b0,V.bl b1,V.bl b2,V.bl b3,V.bl b4,V.bl b5,V.bl b6][i]?=([b0,b1,b2,b3,b4,b5,b6][i]?).map V.bl:=λi=>by
  rw[<-O0];rfl
 refine⟨_,rfl,.inl ⟨rfl,_,h5⟩,l,_,_,j,rfl,rfl,h5,rfl,rfl,⟨.bl true,by rw[bm,R.at_];rfl,rfl⟩,λi y hi hy=>?_,l3,_,_,_,rfl,rfl,MA.up,R.wd,q _ (s4.trans s5)⟩;rw[bm,R.bef i hi] at hy;cases hy;rfl
end
structure Tr (K)(mg:Me->Option G')(CE):Prop where
 kn:mg "NestError"=some (.ref CE)
 nt:W.instIn K (.ref CE) (.type "tuple")=some false
 xc:Np K CE (.type "BaseException")=some true
 cl:PB K CE=true
section
abbrev EK (K:Mi)(mg:Me->Option G')(CB:D'):Prop:=Ref K mg CB true false false false false false false 0 "book"
abbrev EL (K:Mi)(mg:Me->Option G')(CR:D'):Prop:=Ref K mg CR false false false true false false false 3 "rule"
abbrev EM (K:Mi)(mg:Me->Option G')(CU:D'):Prop:=Ref K mg CU false false false false false false true 6 "unlike"
variable {CR:D'} in
theorem fD.mono (hq:∀v H',Q v H'->Q' v H')(he:∀c n H',E c n H'->E' c n H')(h:fD K Pt CB CU CR vs H Q E):fD K Pt CB CU CR vs H Q' E':=by
 obtain⟨word,x1,x2,rfl,h⟩:=h;refine⟨word,x1,x2,rfl,h.imp (λ⟨h1,h2⟩=>⟨h1,he _ _ _ h2⟩) λ⟨cl,m1,m2,Mo,Mj,f1,f2,hw,B1,B2,l1,l2,zb,zu,zg⟩=>⟨cl,m1,m2,Mo,Mj,f1,f2,hw,B1,B2,l1,l2,λn H1 s1=>he _ _ _ (zb n H1 s1),λa b c H1 s1=>he _ _ _ (zu a b c H1 s1),λa b c=>?_⟩⟩;obtain⟨many,e,J,m4,TA,MW,z⟩:=zg a b c;exact⟨many,e,J,m4,TA,MW,λt lr H1 s1 T1 B=>hq _ _ (z t lr H1 s1 T1 B)⟩
theorem cL.mono (hq:∀v H',Q v H'->Q' v H')(he:∀c n H',E c n H'->E' c n H')(h:cL K Pt CB CU vs H Q E):cL K Pt CB CU vs H Q' E':=by
 obtain⟨x1,x2,m1,m2,Mo,Mj,f1,f2,rfl,B1,B2,l1,l2,zb,zu,zg⟩:=h;refine⟨x1,x2,m1,m2,Mo,Mj,f1,f2,rfl,B1,B2,l1,l2,λn H1 s1=>he _ _ _ (zb n H1 s1),λa b c H1 s1=>he _ _ _ (zu a b c H1 s1),λa b c=>?_⟩;obtain⟨many,g,e,J,m4,TA,eg,MW,z⟩:=zg a b c;refine⟨many,g,e,J,m4,TA,eg,MW,z.imp (λ⟨g0,z⟩=>⟨g0,λH1 s1 T1=>hq _ _ (z H1 s1 T1)⟩) λ⟨g0,o,wf,gl,ho,ol,z⟩=>⟨g0,o,wf,gl,ho,ol,λr H1 s1 T1 h=>hq _ _ (z r H1 s1 T1 h)⟩⟩
def rK (CB CU CR:D')(Q:VK):XK:=λc _ H=>(c=.ref CB/\∀H',ar H H'->Q (.str "book") H')\/(c=.ref CU/\∀H',ar H H'->Q (.str "unlike") H')\/(c=.ref CR/\∀H',ar H H'->Q (.str "rule") H')
def gE (K:Mi)(Pt CB CU CR:D'):Sp:=λvs H Q _=>∃(word:Me) (x1 x2:V),vs=[.str word,x1,x2]/\((word≠"part"/\fD K Pt CB CU CR [.str word,x1,x2] H Q (rK CB CU CR Q))\/(word="part"/\cL K Pt CB CU [x1,x2] H Q (rK CB CU CR Q)))
theorem jc:NE ["_law_word","_law_one","_law_other","_law_kept","_law_found","e"] ["_law_word","_law_one","_law_other"] (ak xx):=⟨rfl,rfl,rfl,by decide +kernel,rfl,by decide +kernel,by decide +kernel⟩
variable {P:MD}{w:Mt}{K:Mi}{mg:Me->Option G'}{base:Mp}{CB:D'}{CU:D'}{CR:D'}{CE:D'}{Pt:D'} in
theorem Dh {f:D'}{fd:MY}(F:Nh K "_law_told" "_law_told" xx f fd)(E0:Tr K mg CE)(onB:Np K CB (.ref CE)=some true)(onU:Np K CU (.ref CE)=some true)(onR:Np K CR (.ref CE)=some true)(RB:EK K mg CB)(RU:EM K mg CU)(RR:EL K mg CR)(WJ:Df P w K mg base (Nb P w) 13 "joined" ["word","one","other"] (fD K Pt CB CU CR))(WP:Df P w K mg base (Nb P w) 13 "parting" ["one","other"] (cL K Pt CB CU))(WR:Df P w K mg base MM 1 "_law_refusal" ["_law_kept"] (zG K mg)):MU P w K mg base (Nb P w) 14 f fd ["_law_word","_law_one","_law_other"] (gE K Pt CB CU CR):=by
 refine F.QM jc (λvs H Q E h=>?_) (λX MB A outer s H vs Q E hX hp Ot hr h=>?_)
 .obtain⟨word,x1,x2,rfl,_⟩:=h;rfl
 obtain⟨word,x1,x2,rfl,h⟩:=h;subst hX;refine⟨_,af (aA (i:=3) jc.nd rfl (MX rfl) gP)
  (af (aA (i:=4) jc.nd rfl (MX rfl) gP)
  (af (DW rfl rfl rfl rfl rfl E0.kn E0.nt E0.xc E0.cl jc.nd (ie:=5) rfl rfl
   (λQ3 RH E UB=>al (aA (i:=4) jc.nd rfl (MX rfl) (jd (ay dW (pv 0) aU (aI _)) (aF WJ hr rfl UB (ac (pv 0) (ac (pv 1) (ac (pv 2) ae)))) (aF WP hr rfl UB (ac (pv 1) (ac (pv 2) ae))))))
   (λA' Q3 RH=>al (aA (i:=3) jc.nd rfl (MX rfl) (pv 5))))
  (al (aM (jd (ay rT (pv 3) gP (aI _)) (pv 4) (aF WR (hr.mono (by decide)) rfl (aX (E:=λ_ _ _ _=>False)) (ac (pv 3) ae))))))),?_⟩
 refine⟨_,rfl,rfl,_,rfl,?_⟩;rcases h with⟨hw,h⟩|⟨rfl,h⟩
 .rw[M4 (λe=>hw (V.str.inj e))];refine aV ⟨_,rfl,_,rfl,_,rfl,?_⟩;dsimp only[gS];refine fD.mono (λv H1 q=>?_) (λc n H1 q=>?_) h
  .exact⟨_,rfl,rfl,_,rfl,aV ⟨_,rfl,q⟩⟩
  .rcases q with⟨rfl,q⟩|⟨rfl,q⟩|⟨rfl,q⟩
   .exact⟨CB,rfl,onB,λe he=>⟨_,rfl,_,rfl,rfl,_,rfl,aK ⟨_,rfl,.inr ⟨e,CB,true,false,false,false,false,false,false,0,"book",rfl,ag,RB,λH2 s2=>q H2 ((ai he _).trans s2)⟩⟩⟩⟩
   .exact⟨CU,rfl,onU,λe he=>⟨_,rfl,_,rfl,rfl,_,rfl,aK ⟨_,rfl,.inr ⟨e,CU,false,false,false,false,false,false,true,6,"unlike",rfl,ag,RU,λH2 s2=>q H2 ((ai he _).trans s2)⟩⟩⟩⟩
   .exact⟨CR,rfl,onR,λe he=>⟨_,rfl,_,rfl,rfl,_,rfl,aK ⟨_,rfl,.inr ⟨e,CR,false,false,false,true,false,false,false,3,"rule",rfl,ag,RR,λH2 s2=>q H2 ((ai he _).trans s2)⟩⟩⟩⟩
 .rw[M6 rfl];refine aK ⟨_,rfl,_,rfl,?_⟩;dsimp only[gS];refine cL.mono (λv H1 q=>?_) (λc n H1 q=>?_) h
  .exact⟨_,rfl,rfl,_,rfl,aV ⟨_,rfl,q⟩⟩
  .rcases q with⟨rfl,q⟩|⟨rfl,q⟩|⟨rfl,q⟩
   .exact⟨CB,rfl,onB,λe he=>⟨_,rfl,_,rfl,rfl,_,rfl,aK ⟨_,rfl,.inr ⟨e,CB,true,false,false,false,false,false,false,0,"book",rfl,ag,RB,λH2 s2=>q H2 ((ai he _).trans s2)⟩⟩⟩⟩
   .exact⟨CU,rfl,onU,λe he=>⟨_,rfl,_,rfl,rfl,_,rfl,aK ⟨_,rfl,.inr ⟨e,CU,false,false,false,false,false,false,true,6,"unlike",rfl,ag,RU,λH2 s2=>q H2 ((ai he _).trans s2)⟩⟩⟩⟩
   .exact⟨CR,rfl,onR,λe he=>⟨_,rfl,_,rfl,rfl,_,rfl,aK ⟨_,rfl,.inr ⟨e,CR,false,false,false,true,false,false,false,3,"rule",rfl,ag,RR,λH2 s2=>q H2 ((ai he _).trans s2)⟩⟩⟩⟩
end
end Ord
namespace L2
open PySem PySem.Spec PyProof.Rows
theorem Di (xs)(k:Nat):cO xs none (some (k:Int))=xs.take k:=by
 unfold cO;rw[HT.vj,HT.lY];simp only[aaW,Nat.sub_zero]
 by_cases h:k<=xs.length
 .rw[VY h]
 .rw[Nat.min_eq_right (by lia),Xk (MJ _),Xk (by lia)]
theorem zH (xs):cO xs (some (-1)) none=xs.drop (xs.length-1):=by
 unfold cO;have e:HT.Nk xs.length 0 (some (-1))=xs.length-1:=by
  simp only[HT.Nk];rw[Mu (by decide)];lia
 rw[e,HT.lY];exact Xk (by rw[XB];lia)
def BZ (K:Mi):R2:=λx y H Q=>∃a b xs ys,x=.ref a/\y=.ref b/\MR K H a xs/\MR K H b ys/\xs.length+ys.length<=Mz/\∀r H',ar H H'->MR K H' r (xs++ys)->Q (.ref r) H'
theorem Dj:Nr X (binaryOp .Add) (BZ X.K):=by
 intro aa s σ H x y v u Q I rx ry h;obtain⟨a,b,xs,ys,e1,e2,ha,hb,hz,q⟩:=h
 by_cases hx:xs=[]
 .subst hx;exact AD aa s σ H x y v u Q I rx ry ⟨a,b,ys,e1,e2,ha,hb,q b H (ar.refl H) hb⟩
 .refine Cp aa s σ H x y v u Q I rx ry ⟨a,b,xs,ys,e1,e2,ha,hb,hx,hz,λhy=>?_,λhy p hp=>?_⟩
  .subst hy;exact q a H (ar.refl H) (by rw[QD];exact ha)
  .exact q p _ (ai hp _) MR.up
section
variable {α β γ:Type} [DecidableEq α] [DecidableEq β] [DecidableEq γ]
def lC (a b:α×β×γ)(j:Nat):Bool:=match j with
 | 0=>decide (a.1=b.1)
 | 1=>decide (a.2.1=b.2.1)
 | _=>decide (a.2.2=b.2.2)
theorem uF (k1:Dk α)(k2:Dk β)(k3:Dk γ){X:Cx}{aa:List (D'×Mc)}{σ:St}{H:Hp}{s:Md}{A:ML}{x1 x2 x3 y1 y2 y3:V}{a b:α×β×γ}{us vs:List G'}(I:Inv X aa σ H s)(hu:A.units+(k1.N7+k2.N7+k3.N7)<MQ)(p1:k1.rep X.K H x1 a.1)(p2:k2.rep X.K H x2 a.2.1)(p3:k3.rep X.K H x3 a.2.2)(q1:k1.rep X.K H y1 b.1)(q2:k2.rep X.K H y2 b.2.1)(q3:k3.rep X.K H y3 b.2.2)(r1:aw [x1,x2,x3] us)(r2:aw [y1,y2,y3] vs):
  us.toArray.size=3/\vs.toArray.size=3/\∀j (h1:j<us.toArray.size) (h2:j<vs.toArray.size),R3 A s us.toArray[j] vs.toArray[j] (lC a b j):=by
 cases r1 with
 | cons s1 r1=>cases r1 with
 | cons s2 r1=>cases r1 with
 | cons s3 r1=>cases r1 with
 | nil=>cases r2 with
 | cons t1 r2=>cases r2 with
 | cons t2 r2=>cases r2 with
 | cons t3 r2=>cases r2 with
 | nil=>
  refine⟨rfl,rfl,λj h1 h2=>?_⟩
  match j,h1,h2 with
  | 0,_,_=>exact k1.Ts I (by lia) p1 q1 s1 t1
  | 1,_,_=>exact k2.Ts I (by lia) p2 q2 s2 t2
  | 2,_,_=>exact k3.Ts I (by lia) p3 q3 s3 t3
  | n+3,h,_=>exact Mw h (by simp)
theorem pL (a b:α×β×γ):((Ox (min 3 3)).all (lC a b)&&3==3)=decide (a=b):=by
 obtain⟨a1,a2,a3⟩:=a;obtain⟨b1,b2,b3⟩:=b;simp[Ox,Ox.loop,Prod.ext_iff,lC]
theorem ri {p q:Prop}[Decidable p][Decidable q](h:p↔q):decide p=decide q:=by
 by_cases c:p
 .rw[M6 c,M6 (h.mp c)]
 .rw[M4 c,M4 λz=>c (h.mpr z)]
def Ji (k1:Dk α)(k2:Dk β)(k3:Dk γ):Dk (α×β×γ) where
 rep:=λK H x a=>∃p x1 x2 x3,x=.ref p/\MR K H p [x1,x2,x3]/\k1.rep K H x1 a.1/\k2.rep K H x2 a.2.1/\k3.rep K H x3 a.2.2
 N7:=k1.N7+k2.N7+k3.N7+1
 mono:=λs ⟨p,x1,x2,x3,e,q,r1,r2,r3⟩=>⟨p,x1,x2,x3,e,s.Oq q,k1.mono s r1,k2.mono s r2,k3.mono s r3⟩
 fn:=λ{X aa σ H s x a b} I ⟨p,x1,x2,x3,e,q,r1,r2,r3⟩ ⟨p',y1,y2,y3,e',q',t1,t2,t3⟩=>by
  rw[e] at e';cases e';have:=I.XS q q';cases this;exact XU (k1.fn I r1 t1) (XU (k2.fn I r2 t2) (k3.fn I r3 t3))
 Ts:=λ{X aa σ H s A x y a b u v} I hu ⟨p,x1,x2,x3,e,q,r1,r2,r3⟩ ⟨p',y1,y2,y3,e',q',t1,t2,t3⟩ rx ry=>by
  subst e e';cases rx;cases ry
  by_cases hp:p=p'
  .subst hp;have:=I.XS q q';cases this;have:a=b:=XU (k1.fn I r1 t1) (XU (k2.fn I r2 t2) (k3.fn I r3 t3));subst this;rw[M6 rfl];exact XD _
  .obtain⟨Mh,v1,w1,_⟩:=I.tuple q;obtain⟨its',v2,w2,_⟩:=I.tuple q';refine ZE hp ?_;obtain⟨z1,z2,ev⟩:=uF k1 k2 k3 (A:=A.in1) I (by show A.units+1+_<MQ;lia) r1 r2 r3 t1 t2 t3 v1 v2;have h:=Xy (A:=A) (e:=lC a b) w1 w2 (by lia) ev;rw[z1,z2,pL] at h;exact h
 X':=λ{X aa σ H s A x y a b u v} I hu ⟨p,x1,x2,x3,e,q,r1,r2,r3⟩ ⟨p',y1,y2,y3,e',q',t1,t2,t3⟩ rx ry=>by
  subst e e';cases rx;cases ry;obtain⟨Mh,v1,w1,_⟩:=I.tuple q;obtain⟨its',v2,w2,_⟩:=I.tuple q';obtain⟨z1,z2,ev⟩:=uF k1 k2 k3 (A:=A.in1) I (by show A.units+1+_<MQ;lia) r1 r2 r3 t1 t2 t3 v1 v2;have h:=Xy (A:=A) (e:=lC a b) w1 w2 (by lia) ev;rw[z1,z2,pL] at h;exact h
 Yb:=λ{X aa σ H s A x y a b u v} I hu ⟨p,x1,x2,x3,e,q,r1,r2,r3⟩ ⟨p',y1,y2,y3,e',q',t1,t2,t3⟩ rx ry=>by
  subst e e';cases rx;cases ry;obtain⟨Mh,v1,w1,_⟩:=I.tuple q;obtain⟨its',v2,w2,_⟩:=I.tuple q';obtain⟨z1,z2,ev⟩:=uF k1 k2 k3 (A:=A.in1) I (by show A.units+1+_<MQ;lia) r1 r2 r3 t1 t2 t3 v1 v2;have h:=aeq (A:=A) (e:=lC a b) w1 w2 (by lia) ev;rw[z1,z2,pL] at h;exact h
end
end L2
namespace Bk
open Mx
def EN (many:Nat)(o:List Int):am:=((bj many).filter λt=>!o.contains t).map λt=>o++[t]
def ext (many:Nat)(os:am):am:=os.flatMap (EN many)
def mJ (many:Nat):Nat->am
 | 0=>[[]]
 | k+1=>ext many (mJ many k)
def cT (many:Nat):am:=mJ many many
def ltb:List Int->List Int->Bool
 | x::a,y::b=>decide (x<y)||(decide (x=y)&&ltb a b)
 | _,_=>false
theorem qX:∀{a b:List Int},ltb a b=true->lt a b
 | [],_,h=>by cases h
 | _::_,[],h=>by cases h
 | x::a,y::b,h=>by
  simp only[ltb,Bool.or_eq_true,QW,decide_eq_true_eq] at h;rcases h with h|⟨h1,h2⟩
  .exact .inl h
  .exact .inr ⟨h1,qX h2⟩
def xy:am->Bool
 | []=>true
 | o::os=>os.all (ltb o)&&xy os
theorem zI:∀{os:am},xy os=true->cy os
 | [],_=>T'
 | o::os,h=>by
  simp only[xy,QW,Sq] at h;exact List.Pairwise.cons (λo' ho=>qX (h.1 o' ho)) (zI h.2)
theorem Bw:∀m∈[1,2,3,4,5],(cT m).all (λo=>(bj m).isPerm o)=true:=by decide +kernel
theorem Dl:∀m∈[1,2,3,4],xy (cT m)=true:=by decide +kernel
theorem jE:∀m∈[1,2,3,4],(cT m).length<=24:=by decide +kernel
theorem Bx:∀m∈[1,2,3,4,5],∀k∈[0,1,2,3,4,5],(mJ m k).length<=200:=by decide +kernel
theorem in5 (h1:1<=m)(h5:m<=5):m∈[1,2,3,4,5]:=by
 have:m=1\/m=2\/m=3\/m=4\/m=5:=by lia
 rcases this with rfl|rfl|rfl|rfl|rfl <;> decide
theorem in4 (h1:1<=m)(h4:m<=4):m∈[1,2,3,4]:=by
 have:m=1\/m=2\/m=3\/m=4:=by lia
 rcases this with rfl|rfl|rfl|rfl <;> decide
theorem Jj (h:k<=5):k∈[0,1,2,3,4,5]:=by
 have:k=0\/k=1\/k=2\/k=3\/k=4\/k=5:=by lia
 rcases this with rfl|rfl|rfl|rfl|rfl|rfl <;> decide
theorem qY (h1:1<=m)(h5:m<=5)(h:o∈cT m):(bj m).Perm o:=by
 have:=Bw m (in5 h1 h5);rw[Sq] at this;exact List.isPerm_iff.mp (this o h)
theorem gn (h1:1<=m)(h5:m<=5)(h:o∈cT m):o.length=m/\Mx.Ord o:=by
 have p:=qY h1 h5 h;have l:o.length=m:=by rw[<-p.length_eq,dq]
 refine⟨l,?_⟩;unfold Mx.Ord;rw[l];exact(sB p (uS m)).symm
theorem uG:∀(k:Nat),∀o∈mJ m k,o.length=k
 | 0,o,h=>by
  rw[N3.mp h];rfl
 | k+1,o,h=>by
  obtain⟨o',h1,h2⟩:=Uc.mp h;obtain⟨t,_,rfl⟩:=Nm.mp h2;rw[NQ,uG k o' h1];rfl
theorem Bz {os:am}(h:os[i]?=some o):ext m (os.take (i+1))=ext m (os.take i)++EN m o:=by
 unfold ext;rw[So,h];simp
theorem EO (i:Nat):(ext m (os.take i)).length<=(ext m os).length:=by
 have:ext m os=ext m (os.take i)++ext m (os.drop i):=by
  unfold ext;rw[<-List.flatMap_append,T9]
 rw[this,NQ];lia
structure Nn (many:Nat)(os:am):Prop where
 m1:1<=many
 m5:many<=5
 mem:∀o∈os,o∈cT many
 QS:cy os
 len:os.length<=24
 RD:many=5->os.length<=2
theorem Nn.of (m1:1<=many)(m4:many<=4)(h:os.Sublist (cT many)):Nn many os where
 m1:=m1
 m5:=by lia
 mem:=λo ho=>h.subset ho
 QS:=(zI (Dl many (in4 m1 m4))).sublist h
 len:=OT h.length_le (jE many (in4 m1 m4))
 RD:=λe=>by lia
theorem Nn.Yl (S:Nn many os):eV many (λx=>0<=x/\x<(many:Int)) os:=λo ho=>by
 have p:=qY S.m1 S.m5 (S.mem o ho);have mm:∀x,x∈o↔0<=x/\x<(many:Int):=λx=>by rw[<-p.mem_iff];exact cP
 refine⟨(gn S.m1 S.m5 (S.mem o ho)).1,λx hx=>?_,p.nodup_iff.mp (nq many),mm⟩;have:=(mm x).mp hx;have:=S.m5;lia
theorem EQ:∀m∈[1,2,3,4],jq m<=41:=by decide +kernel
theorem Nn.rooms (S:Nn many os)(ne:os≠[]):(lay many os []).2.length<70:=by
 by_cases h:many=5
 .have a:=iz many os [] ne;have b:=S.RD h;have c:os.length*many<=2*5:=acM b S.m5;simp only[Ud] at a;lia
 .have a:=qD many _ os [] S.Yl ne;have b:=EQ many (in4 S.m1 (by have:=S.m5;lia));simp only[Ud] at a;lia
end Bk
namespace Ord
open PySem L2 Mx
theorem io (many:Nat):aW many []=([],0):=by unfold aW;rw[Mu rfl]
theorem pM {os:Bk.am}(h:os≠[]):aW many os=((Bk.lay many os []).2,(Bk.lay many os []).1):=by unfold aW;rw[Mq h]
section
variable {many:Nat}{os:Bk.am}(S:Bk.Nn many os)
include S
theorem Nn.whole:ι many (aW many os).1 (aW many os).2:=by
 have m1:=S.m1;have m5:=S.m5
 by_cases e:os=[]
 .subst e;rw[io];exact wY m1 (by lia)
 .rw[pM e];exact yZ m1 (by lia) S.Yl e (S.rooms e)
theorem Nn.Ow:Bk.Ow (aW many os).1 (aW many os).2=os:=by
 by_cases e:os=[]
 .subst e;rw[io];exact Bk.tP []
 .rw[pM e];obtain⟨a,b⟩:=C5 S.Yl e;exact a.eq S.QS b
end
theorem mK (m1:1<=many)(m5:many<=5)(ho:o∈Bk.cT many):sF many o:=by
 obtain⟨a,b⟩:=Bk.gn m1 m5 ho;exact⟨by lia,by lia,by lia,b⟩
abbrev lD:Dk (Int×List (List (List Int))×Int):=Ji wJ (gG bM) wJ
def xz (many:Nat)(p:List Bk.Mg×Nat):Int×List (List (List Int))×Int:=((many:Int),p.1.map enc,(p.2:Int))
theorem mL {many:Nat}(h:Oh K H x many p.1 p.2):lD.rep K H x (xz many p):=by
 obtain⟨b,l,xs,e,q,ql,pr⟩:=h.ex;exact⟨b,_,_,_,e,q,rfl,⟨l,xs,rfl,ql,fJ pr⟩,rfl⟩
end Ord
namespace L2
open PySem
theorem zJ {α:Type}{xs:List α}{z:Int}{v:α}(h0:0<=z)(h:xs[z.toNat]?=some v):PP xs z=some v:=by
 have:=ck h;rw[show((z.toNat:Nat):Int)=z by lia] at this;exact this
end L2
namespace Ord
open PySem L2 Mx
abbrev xA:Mv:=top 45
abbrev BA:Mv:=top 46
abbrev Tt:Mv:=top 47
abbrev uH:Mv:=top 48
abbrev iL:Mv:=top 49
abbrev kD:Mv:=top 50
abbrev du:Mv:=top 54
section
def RN (K:Mi)(H:Hp)(a:D'):Prop:=∃ns:List Int,MA K H a (ns.map V.int)
theorem RN.same (h:RN K H a)(e:ar H H'):RN K H' a:=let ⟨ns,q⟩:=h;⟨ns,e.OH q⟩
def zK (K:Mi):Sp:=λvs H Q _=>∃(a:D') (k:Int),vs=[.ref a,.int k]/\RN K H a/\∀c:Int,Q (.int c) H
theorem ER:NE ["_law_script","_law_k"] ["_law_script","_law_k"] (ak xA):=⟨rfl,rfl,rfl,by decide +kernel,rfl,by decide +kernel,by decide +kernel⟩
variable {P:MD}{w:Mt}{K:Mi}{mg:Me->Option G'}{base:Mp}{CO:D'} in
theorem Dm {f:D'}{fd:MY}(F:Nh K "_law_cell" "_law_cell" xA f fd)(T:N9 K mg CO):MU P w K mg base MM 1 f fd ["_law_script","_law_k"] (zK K):=by
 refine F.ok ER (λvs H Q E h=>?_) (λMB A outer s H vs Q E hr h=>?_)
 .obtain⟨a,k,rfl,_⟩:=h
  rfl
 obtain⟨a,k,rfl,⟨ns,hs⟩,q⟩:=h
 refine⟨_,af (aQ (lX (pv 0) (λ_=>rfl)) (al (aM (aJ bE (pv 0) (aR cY (pv 1) (aE bh rfl T.t.len dc (ac (pv 0) ae))) (λ_ _=>rfl)))) az) (al (aM ap)),?_⟩
 refine⟨_,rfl,_,.inl ⟨_,hs,rfl⟩,?_⟩
 cases ns with
 | nil=>exact aK (q 0)
 | cons n0 nt=>
  refine aV ?_
  have hl:((n0::nt).map V.int).length=(n0::nt).length:=Ng _
  have pos:(0:Int)<(((n0::nt).map V.int).length:Nat):=by rw[hl];simp only[N'];lia
  have h0:=VX k (Int.ne_of_gt pos)
  have h1:=VM k pos
  have Nw:(k % (((n0::nt).map V.int).length:Nat)).toNat<(n0::nt).length:=by rw[hl] at h0 h1 ⊢;lia
  refine⟨_,rfl,_,rfl,_,rfl,a,_,rfl,.inl hs,_,_,rfl,rfl,pos,a,_,_,V.int ((n0::nt)[(k % (((n0::nt).map V.int).length:Nat)).toNat]'Nw),rfl,rfl,hs,zJ h0 ?_,q _⟩
  rw[O0,Om Nw]
  rfl
def lE (K:Mi):Sp:=λvs H Q _=>∃(a:D') (k:Int),vs=[.ref a,.int k]/\RN K H a/\∀m:Int,0<=m->m<4294967231->Q (.int m) H
theorem xB:NE ["_law_script","_law_k","_law_number"] ["_law_script","_law_k"] (ak BA):=⟨rfl,rfl,rfl,by decide +kernel,rfl,by decide +kernel,by decide +kernel⟩
theorem ES (F:Nh K "_law_mix" "_law_mix" BA f fd)(T:N9 K mg CO)(WC:Df P w K mg base MM 1 "_law_cell" ["_law_script","_law_k"] (zK K)):MU P w K mg base MM 2 f fd ["_law_script","_law_k"] (lE K):=by
 refine F.ok xB (λvs H Q E h=>?_) (λMB A outer s H vs Q E hr h=>?_)
 .obtain⟨a,k,rfl,_⟩:=h;rfl
 obtain⟨a,k,rfl,hs,q⟩:=h;refine⟨_,af (aA (i:=2) xB.nd rfl (MX rfl) (aR cY (aR cN (aF WC hr rfl (aX (E:=λ_ _ _ _=>False)) (ac (pv 0) (ac (pv 1) ae))) (aR rS ap (aR cN (pv 1) ap))) ap))
  (af (aA (i:=2) xB.nd rfl (MX rfl) (aR cY (aR rS (pv 2) ap) ap))
  (al (aM (aR cY (aR cN (aR rS (aR oG (pv 2) ap) ap) (pv 2)) ap)))),?_⟩
 refine⟨_,rfl,_,rfl,a,k,rfl,hs,λc=>?_⟩;refine⟨_,rfl,_,_,rfl,rfl,_,_,rfl,rfl,.inl ⟨by decide,by decide⟩,_,_,rfl,rfl,_,_,rfl,rfl,by show(0:Int)<4294967291;decide,?_⟩;refine⟨_,rfl,_,_,rfl,rfl,.inr ⟨by decide,by decide⟩,_,_,rfl,rfl,by show(0:Int)<4294967279;decide,?_⟩;refine⟨_,rfl,_,_,rfl,rfl,⟨by decide,by decide⟩,_,_,rfl,rfl,.inr ⟨by decide,by decide⟩,_,rfl,_,_,rfl,rfl,_,_,rfl,rfl,by show(0:Int)<4294967231;decide,?_⟩;exact q _ (VX _ (by decide)) (VM _ (by decide))
def OL (K:Mi)(H:Hp)(a:D')(os:Bk.am):Prop:=∃ys,H a=some (.lst ys)/\MC (au.rep K H) ys os
theorem OL.same {os:Bk.am}(s:ar H H')(h:OL K H a os):OL K H' a os:=by
 obtain⟨ys,q,p⟩:=h;exact⟨ys,s _ _ q,aD (λ_ _ z=>au.mono s z) p⟩
theorem OL.rep {os:Bk.am}(h:OL K H a os):(gG au).rep K H (.ref a) os:=by
 obtain⟨ys,q,p⟩:=h;exact⟨a,ys,rfl,MA.of q,p⟩
theorem OL.new {os:Bk.am}(ha:H a=none)(p:MC (au.rep K H) ys os):OL K (upd H a (.lst ys)) a os:=
 ⟨ys,ag,aD (λ_ _ z=>au.mono (ai ha _) z) p⟩
def B0 (K:Mi):Sp:=λvs H Q _=>∃many:Nat,vs=[.int (many:Int)]/\1<=many/\many<=5/\∀(l:D') (H':Hp),ar H H'->H l=none->OL K H' l (Bk.cT many)->Q (.ref l) H'
abbrev NA:List Me:=["_law_many","_law_found","_law_k","_law_longer","_law_order"]
theorem iG:NE NA ["_law_many"] (ak Tt):=⟨rfl,rfl,rfl,by decide +kernel,rfl,by decide +kernel,by decide +kernel⟩
theorem BC {t:Int}{o:List Int}:inV (.int t) (o.map V.int)=o.contains t:=by
 induction o with
 | nil=>rfl
 | cons x o ih=>
  simp only[inV,Nt,Td,List.contains_cons] at ih ⊢;rw[ih]
  congr 1
  simp[OX,gK,eq_comm]
theorem zL (many i:Nat)(o):(((Mx.bj (i+1)).filter λt=>!o.contains t).map λt=>o++[t])=(((Mx.bj i).filter λt=>!o.contains t).map λt=>o++[t])++(if o.contains (i:Int)=true then [] else [o++[(i:Int)]]):=by
 rw[Bk.qx,VO,Qn]
 congr 1
 by_cases h:o.contains (i:Int)=true
 .rw[Mu h,VD (by rw[h];decide)];rfl
 .rw[Mq h,SZ (by rw[ZJ.mpr h];rfl)];rfl
theorem ET (F:Nh K "_law_all" "_law_all" Tt f fd)(T:N9 K mg CO):MU P w K mg base MM 1 f fd ["_law_many"] (B0 K):=by
 refine F.ok iG (λvs H Q E h=>?_) (λMB A outer s H vs Q E hr h=>?_)
 .obtain⟨many,rfl,_⟩:=h;rfl
 obtain⟨many,rfl,m1,m5,z⟩:=h;refine⟨_,af (aA (i:=1) iG.nd rfl (MX rfl) (bt (ac (cb ae) ae)))
  (af (ed Tb rfl (jO rfl T.t.range (ac (pv 0) ae)) (cB (i:=2) iG.nd rfl (MX rfl))
   (af (aA (i:=3) iG.nd rfl (MX rfl) (bt ae))
   (af (ed Tb rfl (cu (pv 1)) (cB (i:=4) iG.nd rfl (NR rfl))
    (al (aA (i:=3) iG.nd rfl (MX rfl) (aR se (pv 3) (fE rfl (show Qb (ak Tt) NA _ _ from by constructor <;> decide +kernel) (jO rfl T.t.range (ac (pv 0) ae))
     (λ_ _ _ _ _ _=>eI (ay (show Nr _ _ (rIn K true) from rZ) (pv 0) (pv 5) rfl))
     (λcl C M1 NF fp aa=>aR (show Nr _ _ (BZ K) from Dj) (pv 5) (cb (ac (pv 0) ae))) iG.nd)))))
   (al (aA (i:=1) iG.nd rfl (MX rfl) (pv 3))))))
  (al (aM (pv 1)))),?_⟩
 refine⟨by show 0<=Mz;decide,λt0 ht0=>?_⟩;have u0:=ai ht0 (.tup []);refine⟨by show 1<=Mz;decide,λl0 Q4=>?_⟩;have u1:=ai Q4 (.lst [V.ref t0]);have r0:au.rep K (upd H t0 (.tup [])) (.ref t0) []:=cg (MR.of ag);refine⟨_,rfl,_,rfl,by lia,by lia,xV (lo:=0) (n:=((many:Int)).toNat) (λk σ H1=>∃v2 v3 v4 l,σ=[some (.int (many:Int)),some (.ref l),v2,v3,v4]/\ar H H1/\H l=none/\OL K H1 l (Bk.mJ many k)) ⟨none,none,none,l0,rfl,u0.trans u1,u0.free Q4,OL.new Q4 (.cons r0 .nil)⟩ ?_ ?_⟩
 .rintro k σ H1 hk ⟨v2,v3,v4,l,rfl,s1,hlf,ol⟩;have hk5:k<many:=by lia
  refine⟨by show 0<=Mz;decide,λg0 Vu=>?_⟩;have s2:=ai Vu (.lst []);obtain⟨ys,hl,py⟩:=ol;have hlen:=py.length;refine⟨_,rfl,l,rfl,⟨_,MA.of (s2 _ _ hl)⟩,e9 (K:=K) (a:=l) (xs:=ys) (λi σ H2=>∃v4 g,σ=[some (.int (many:Int)),some (.ref l),some (.int (0+(k:Int))),some (.ref g),v4]/\ar H1 H2/\H1 g=none/\OL K H2 g (Bk.ext many ((Bk.mJ many k).take i))) ⟨v4,g0,rfl,s2,Vu,[],ag,.nil⟩ ?_ ?_ ?_⟩
  .rintro i σ H2 _ ⟨v4,g,rfl,s3,_⟩;exact MA.of (s3 _ _ hl)
  .rintro i y σ H2 hy ⟨v4,g,rfl,s3,hgf,og⟩;obtain⟨o,ho,ro⟩:=cp py hy;obtain⟨a,rfl,qa⟩:=cj (au.mono s3 ro);have lo:o.length=k:=Bk.uG k o (N1 ho);obtain⟨gs,hg,pg⟩:=og;have afF:=pg.length;have b1:(Bk.ext many ((Bk.mJ many k).take i)).length<=200:=OT (Bk.EO i) (Bk.Bx many (Bk.in5 m1 m5) (k+1) (Bk.Jj (by lia)));refine⟨_,rfl,_,rfl,_,rfl,by lia,by lia,sr (lo:=0) (n:=((many:Int)).toNat) (λj zs H3=>ar H2 H3/\MC (au.rep K H3) zs (((Mx.bj j).filter λt=>!o.contains t).map λt=>o++[t])) ⟨ar.refl H2,.nil⟩ ?_ (by rw[Nf];lia) ?_ ?_⟩
   .rintro j zs H3 hj ⟨_,p3⟩;rw[p3.length,Ng];refine OT (ZC _ _) ?_;rw[Mx.dq];exact MJ _
   .rintro j zs H3 hj ⟨s4,p3⟩;have qa3:=s4.Oq qa;refine⟨_,rfl,_,rfl,a,_,rfl,.inr qa3,rfl,dA _,_,rfl,?_⟩;rw[zL many,Mu rfl,show(0+(j:Int))=(j:Int) by lia,BC]
    by_cases c:o.contains (j:Int)=true
    .rw[c];refine aK ⟨s4,?_⟩;rw[Mu rfl,QD];exact p3
    .rw[ZJ.mpr c];refine aV ⟨_,rfl,_,rfl,by show 1<=Mz;decide,λt1 WU=>?_⟩;have s5:=ai WU (.tup [V.int (j:Int)]);refine⟨a,t1,_,_,rfl,rfl,s5.Oq qa3,MR.up,by rw[Ng,Nf];simp;lia,λr H5 s6 hr=>?_⟩;refine⟨s4.trans (s5.trans s6),?_⟩;rw[Mq Oo];refine cJ (aD (λ_ _ z=>au.mono (s5.trans s6) z) p3) (.cons (cg ?_) .nil);rw[Qn];exact hr
   .rintro zs H3 c0 ⟨s4,p3⟩ Vr;have s5:=ai Vr (.lst zs);have zl:zs.length<=5:=by
     rw[p3.length,Ng];refine OT (ZC _ _) ?_;rw[Mx.dq];lia
    refine⟨g,c0,gs,zs,rfl,rfl,s5 _ _ (s4 _ _ hg),ag,by rw[Nf];lia,λn0 hn0=>?_⟩;have s6:=ai hn0 (.lst (gs++zs));refine⟨_,n0,rfl,s3.trans (s4.trans (s5.trans s6)),s3.free (s4.free (s5.free hn0)),?_⟩;rw[Bk.Bz ho];refine OL.new hn0 (cJ (aD (λ_ _ z=>au.mono (s4.trans s5) z) pg) (aD (λ_ _ z=>au.mono s5 z) p3))
  .rintro σ H2 ⟨v4,g,rfl,s3,hgf,og⟩;rw[hlen,QB] at og;exact⟨_,rfl,_,_,_,g,rfl,s1.trans s3,s1.free hgf,og⟩
 .rintro σ H1 ⟨v2,v3,v4,l,rfl,s1,hlf,ol⟩;exact⟨_,rfl,z l H1 s1 hlf ol⟩
end
section
def rL (K:Mi):Sp:=λvs H Q _=>∃(a:D') (k:Int) (many:Nat),vs=[.ref a,.int k,.int (many:Int)]/\RN K H a/\1<=many/\many<=4/\∀(r:D') (os:Bk.am) (H':Hp),ar H H'->OL K H' r os->os.Sublist (Bk.cT many)->Q (.ref r) H'
abbrev NSt:List Me:=["_law_script","_law_k","_law_many","_law_some","_law_way","_law_number","_law_share"]
theorem jF:NE NSt ["_law_script","_law_k","_law_many"] (ak uH):=⟨rfl,rfl,rfl,by decide +kernel,rfl,by decide +kernel,by decide +kernel⟩
theorem mM {L os:Bk.am}(ho:L[i]?=some o)(h:os.Sublist (L.take i)):os.Sublist (L.take (i+1))/\(os++[o]).Sublist (L.take (i+1)):=by
 rw[bU ho];exact⟨h.trans (List.sublist_append_left _ _),h.append (ZN _)⟩
theorem Ia (h0:0<=i)(h1:i<6):∃c:Int,PP [V.int 0,V.int 0,V.int 1,V.int 3,V.int 6,V.int 4] i=some (.int c):=by
 have:i=0\/i=1\/i=2\/i=3\/i=4\/i=5:=by lia
 rcases this with rfl|rfl|rfl|rfl|rfl|rfl
 .exact⟨0,rfl⟩
 .exact⟨0,rfl⟩
 .exact⟨1,rfl⟩
 .exact⟨3,rfl⟩
 .exact⟨6,rfl⟩
 .exact⟨4,rfl⟩
variable {P:MD}{w:Mt}{K:Mi}{mg:Me->Option G'}{base:Mp}{CO:D'} in
theorem EU {f:D'}{fd:MY}(F:Nh K "_law_set" "_law_set" uH f fd)(T:N9 K mg CO)(WA:Df P w K mg base MM 1 "_law_all" ["_law_many"] (B0 K))(WM:Df P w K mg base MM 2 "_law_mix" ["_law_script","_law_k"] (lE K)):MU P w K mg base MM 3 f fd ["_law_script","_law_k","_law_many"] (rL K):=by
 refine F.ok jF (λvs H Q E h=>?_) (λMB A outer s H vs Q E hr h=>?_)
 .obtain⟨a,k,many,rfl,_⟩:=h
  rfl
 obtain⟨a,k,many,rfl,hs,m1,m4,z⟩:=h
 refine⟨_,af (aA (i:=3) jF.nd rfl (NR rfl) (aF WA (hr.mono (by decide)) rfl (aX (E:=λ_ _ _ _=>False)) (ac (pv 2) ae)))
  (af (aA (i:=4) jF.nd rfl (MX rfl) (aR cY (aF WM hr rfl (aX (E:=λ_ _ _ _=>False)) (ac (pv 0) (ac (pv 1) ae))) ap))
  (af (aA (i:=5) jF.nd rfl (NR rfl) (aF WM hr rfl (aX (E:=λ_ _ _ _=>False)) (ac (pv 0) (ac (aR cN (pv 1) ap) ae))))
  (af (aQ (ay dU (pv 4) ap (aI _)) (al (aM (fE rfl (show Qb (ak uH) NSt _ _ from by constructor <;> decide +kernel) (cu (pv 3))
    (λ_ _ _ _ _ _=>eI (ay dU (aJ (show Nl _ (bF K) from bc) (pv 0) (aR cY (pv 6) (pv 3)) (λ_ _=>rfl)) (aR cY (aR oG (pv 6) ap) (pv 3)) (aI _)))
    (λcl C M1 NF fp aa=>pv 0) jF.nd))) az)
  (af (aQ (ay dU (pv 4) ap (aI _)) (al (aM (aJ bE (bt (ac (bt ae) (ac (pv 3) (ac (ma vo (pv 3) oJ (oK ap)) (ac (ma vo (pv 3) (oK (BI xX ap)) oJ) ae))))) (aR cY (pv 5) ap) (λ_ _=>rfl)))) az)
  (af (aA (i:=6) jF.nd rfl (NR rfl) (aJ bE (bt (ac ap (ac ap (ac ap (ac ap (ac ap (ac ap ae))))))) (pv 4) (λ_ _=>rfl)))
  (al (aM (fE rfl (show Qb (ak uH) NSt _ _ from by constructor <;> decide +kernel) (jO rfl T.t.range (ac (aE bh rfl T.t.len dc (ac (pv 3) ae)) ae))
    (λ_ _ _ _ _ _=>eI (ay kK (aR cY (aR oG (aF WM hr rfl (aX (E:=λ_ _ _ _=>False)) (ac (pv 1) (ac (aR cN (aR cN (pv 2) ap) (pv 0)) ae))) ap) ap) (pv 7) (aI _)))
    (λcl C M1 NF fp aa=>aJ (show Nl _ (dG K) from bE) (pv 4) (pv 0) (λ_ _=>rfl)) jF.nd)))))))),?_⟩
 refine⟨_,rfl,many,rfl,m1,by lia,λl H1 s1 hlf ol=>?_⟩
 obtain⟨ys,hl,py⟩:=ol
 have hlen:=py.length
 have afc:=Bk.jE many (Bk.in4 m1 m4)
 refine⟨_,rfl,_,rfl,a,k,rfl,hs.same s1,λm _ _=>⟨_,_,rfl,rfl,by show(0:Int)<6;decide,?_⟩⟩
 have w0:=VX m (show(6:Int)≠0 by decide)
 have w1:=VM m (show(0:Int)<6 by decide)
 refine⟨_,rfl,_,rfl,_,_,rfl,rfl,a,_,rfl,hs.same s1,λnum n0 _=>?_⟩
 refine⟨_,rfl,rfl,_,rfl,?_⟩
 refine md (λ_=>?_) (λ_=>?_)
 .refine⟨_,rfl,l,rfl,⟨_,MA.of hl⟩,fU (K:=K) (a:=l) (xs:=ys) (λi zs H2=>H2=H1/\zs.length<=i/\∃os,MC (au.rep K H1) zs os/\os.Sublist ((Bk.cT many).take i)) ⟨rfl,NX _,[],.nil,ZN _⟩ ?_ (by rw[Nf];lia) ?_ ?_⟩
  .rintro i zs H2 _ ⟨rfl,zl,_⟩
   exact⟨MA.of hl,zl⟩
  .rintro i y zs H2 hy ⟨rfl,zl,os,po,sub⟩
   obtain⟨o,ho,ro⟩:=cp py hy
   obtain⟨b,rfl,qb⟩:=cj ro
   have lo:=(Bk.gn m1 (by lia) (N1 ho)).1
   have p0:=VX num (show(many:Int)≠0 by lia)
   have p1:=VM num (show(0:Int)<(many:Int) by lia)
   have Nw:(num % (many:Int)).toNat<o.length:=by lia
   obtain⟨t1,t2⟩:=mM ho sub
   refine⟨_,rfl,_,rfl,_,rfl,_,_,rfl,rfl,by show(0:Int)<(many:Int);lia,b,_,_,.int (o[(num % (many:Int)).toNat]'Nw),rfl,rfl,qb,zJ p0 (by rw[O0,Om Nw];rfl),?_⟩
   refine⟨_,rfl,_,_,rfl,rfl,⟨by decide,by decide⟩,_,rfl,_,_,rfl,rfl,by show(0:Int)<(many:Int);lia,rfl,_,rfl,?_⟩
   refine md (λ_=>?_) (λ_=>?_)
   .exact⟨_,rfl,rfl,by rw[NQ];show zs.length+1<=i+1;lia,os++[o],cJ po (.cons ro .nil),t2⟩
   .exact⟨rfl,by lia,os,po,t1⟩
  .rintro zs H2 p ⟨rfl,_,os,po,sub⟩ hp
   exact z p os _ (s1.trans (ai hp _)) (OL.new hp po) (sub.trans (Xw _ _))
 refine⟨_,rfl,rfl,_,rfl,?_⟩
 refine md (λ_=>?_) (λ_=>?_)
 .refine⟨by show 0<=Mz;decide,λe0 Oz=>?_⟩
  have s2:=ai Oz (.lst [])
  refine⟨_,rfl,_,rfl,1,rfl,l,ys,rfl,MA.of (s2 _ _ hl),λf0 hf0=>?_⟩
  have s3:=ai hf0 (.lst (cO ys none (some 1)))
  refine⟨_,rfl,1,rfl,-1,rfl,l,ys,rfl,MA.of (s3 _ _ (s2 _ _ hl)),λg0 Vu=>?_⟩
  have s4:=ai Vu (.lst (cO ys (some (-1)) none))
  refine⟨by show 4<=Mz;decide,λh0 hh0=>?_⟩
  have s5:=ai hh0 (.lst [V.ref e0,V.ref l,V.ref f0,V.ref g0])
  have s6:=s2.trans (s3.trans (s4.trans s5))
  have p0:=VX num (show(4:Int)≠0 by decide)
  have p1:=VM num (show(0:Int)<4 by decide)
  have c1:cO ys none (some 1)=ys.take 1:=Di ys 1
  have e1:OL K (upd (upd (upd (upd H1 e0 (.lst [])) f0 (.lst (cO ys none (some 1)))) g0 (.lst (cO ys (some (-1)) none))) h0 (.lst [V.ref e0,V.ref l,V.ref f0,V.ref g0])) e0 []:=OL.same (s3.trans (s4.trans s5)) ⟨[],ag,.nil⟩
  have e2:=OL.same s6 ⟨ys,hl,py⟩
  have e3:OL K (upd (upd (upd (upd H1 e0 (.lst [])) f0 (.lst (cO ys none (some 1)))) g0 (.lst (cO ys (some (-1)) none))) h0 (.lst [V.ref e0,V.ref l,V.ref f0,V.ref g0])) f0 ((Bk.cT many).take 1):=OL.same (s4.trans s5) ⟨_,ag,by have q:=rB 1 (aD (λ_ _ z=>au.mono (s2.trans s3) z) py);rw[<-c1] at q;exact q⟩
  have e4:OL K (upd (upd (upd (upd H1 e0 (.lst [])) f0 (.lst (cO ys none (some 1)))) g0 (.lst (cO ys (some (-1)) none))) h0 (.lst [V.ref e0,V.ref l,V.ref f0,V.ref g0])) g0 ((Bk.cT many).drop (ys.length-1)):=OL.same s5 ⟨_,ag,by have q:=rC (ys.length-1) (aD (λ_ _ z=>au.mono (s2.trans (s3.trans s4)) z) py);rw[<-zH] at q;exact q⟩
  have cs:num % 4=0\/num % 4=1\/num % 4=2\/num % 4=3:=by lia
  refine⟨_,rfl,_,_,rfl,rfl,by show(0:Int)<4;decide,?_⟩
  show dG _ (V.ref h0) (V.int (num % 4)) _ _
  rcases cs with c|c|c|c
  .rw[c]
   exact⟨h0,_,0,V.ref e0,rfl,rfl,MA.up,rfl,z e0 [] _ (s1.trans s6) e1 (List.nil_sublist _)⟩
  .rw[c]
   exact⟨h0,_,1,V.ref l,rfl,rfl,MA.up,rfl,z l _ _ (s1.trans s6) e2 (ZN _)⟩
  .rw[c]
   exact⟨h0,_,2,V.ref f0,rfl,rfl,MA.up,rfl,z f0 _ _ (s1.trans s6) e3 (Xw _ _)⟩
  .rw[c]
   exact⟨h0,_,3,V.ref g0,rfl,rfl,MA.up,rfl,z g0 _ _ (s1.trans s6) e4 (List.drop_sublist _ _)⟩
 obtain⟨sh,esh⟩:=Ia w0 w1
 refine⟨by show 6<=Mz;decide,λe0 Oz=>?_⟩
 have s2:=ai Oz (.lst [V.int 0,V.int 0,V.int 1,V.int 3,V.int 6,V.int 4])
 refine⟨_,rfl,e0,_,_,V.int sh,rfl,rfl,MA.up,esh,?_⟩
 generalize (upd H1 e0 (.lst [V.int 0,V.int 0,V.int 1,V.int 3,V.int 6,V.int 4]))=H2 at s2 ⊢
 have NC:=s2 _ _ hl
 refine⟨_,rfl,l,_,rfl,.inl (MA.of NC),_,rfl,by lia,by lia,sr (lo:=0) (n:=(((ys.length:Nat):Int)).toNat) (λi zs H3=>H3=H2/\zs.length<=i/\∃os,MC (au.rep K H2) zs os/\os.Sublist ((Bk.cT many).take i)) ⟨rfl,NX _,[],.nil,ZN _⟩ ?_ (by rw[Nf];lia) ?_ ?_⟩
 .rintro i zs H3 _ ⟨_,zl,_⟩
  exact zl
 .rintro i zs H3 hi ⟨rfl,zl,os,po,sub⟩
  have OK:i<ys.length:=by lia
  obtain⟨o,ho,ro⟩:=cp py (Om OK)
  obtain⟨t1,t2⟩:=mM ho sub
  refine⟨_,rfl,_,rfl,_,_,rfl,rfl,_,rfl,_,_,rfl,rfl,a,_,rfl,hs.same (s1.trans s2),λm2 _ _=>?_⟩
  refine⟨_,_,rfl,rfl,⟨by decide,by decide⟩,_,_,rfl,rfl,by show(0:Int)<8;decide,_,rfl,_,_,rfl,rfl,_,rfl,?_⟩
  refine md (λ_=>?_) (λ_=>?_)
  .refine⟨_,rfl,_,rfl,l,ys,_,_,rfl,rfl,MA.of NC,?_,rfl,by rw[NQ];show zs.length+1<=i+1;lia,os++[o],cJ po (.cons (au.mono s2 ro) .nil),t2⟩
   rw[show(0+(i:Int))=(i:Int) by lia]
   exact ck (Om OK)
  .exact⟨rfl,by lia,os,po,t1⟩
 .rintro zs H3 p ⟨rfl,_,os,po,sub⟩ hp
  exact z p os _ (s1.trans (s2.trans (ai hp _))) (OL.new hp po) (sub.trans (Xw _ _))
end
end Ord
namespace Bk
open Mx
theorem EV {l:List Int}(h:l[i]?=some t)(pt:p t=true):(l.filter p)[((l.take i).filter p).length]?=some t/\(l.filter p).take ((l.take i).filter p).length=(l.take i).filter p:=by
 obtain⟨hi,rfl⟩:=NP.mp h;have e:l.filter p=(l.take i).filter p++l[i]::(l.drop (i+1)).filter p:=by
  have e1:l=l.take i++l[i]::l.drop (i+1):=by rw[<-adZ hi,T9]
  have e2:=congrArg (List.filter p) e1;rw[VO,SZ pt] at e2;exact e2
 rw[e];exact⟨by rw[US (MJ _),aa8];rfl,by rw[List.take_left'];rfl⟩
theorem xC {lf:List Int}(QS:lf.Pairwise (· < ·))(S:eV (n+1) (·∈lf) os):lf.filter (λt=>!(rests t os).isEmpty)=heads os:=by
 refine pB (QS.filter _) (cz os) λx=>?_;rw[O9,bz];have em:(!(rests x os).isEmpty)=true↔∃r,x::r∈os:=by
  rw[Bool.not_eq_true',List.isEmpty_eq_false_iff_exists_mem];exact exists_congr λr=>aY
 rw[em];constructor
 .rintro⟨_,r,hr⟩;exact⟨(S _ hr).2.1 x (MO ..),r,hr⟩
 .rintro⟨_,r,hr⟩;exact⟨((S _ hr).2.2.2 x).mp (MO ..),r,hr⟩
theorem xD {os:am}(h:os[j]?=some o):rests t (os.take (j+1))=rests t (os.take j)++(eN t o).toList:=by
 unfold rests;rw[So,h,VN,List.filterMap_append]
 congr 1
theorem zM:∀{rs:List Mg},r∈rs->rs[rs.idxOf r]?=some r/\∀i,i<rs.idxOf r->rs[i]?≠some r
 | [],h=>by cases h
 | x::rs,h=>by
  rw[List.idxOf_cons]
  by_cases e:x=r
  .subst e;rw[beq_self_eq_true];exact⟨rfl,λi hi=>Mw hi (ZR _)⟩
  .rw[beq_false_of_ne e];have hr:r∈rs:=by
    rcases M0.mp h with h|h
    .exact Mw h.symm e
    .exact h
   obtain⟨a,b⟩:=zM hr;refine⟨by simpa using a,λi hi=>?_⟩;cases i with
   | zero=>simpa using e
   | succ i=>simpa using b i (by simp at hi;lia)
theorem Dp {r:Mg}(h:r∉rs):(rs++[r])[rs.length]?=some r/\∀i,i<rs.length->(rs++[r])[i]?≠some r:=by
 refine⟨by simp,λi hi e=>h ?_⟩;rw[SW hi] at e;exact N1 e
end Bk
namespace L2
open PySem
theorem zN (xs)(k:Nat):cO xs (some (k:Int)) none=xs.drop k:=by
 unfold cO;rw[HT.vj,HT.lY]
 by_cases h:k<=xs.length
 .rw[VY h,Xk (by rw[XB];lia)]
 .rw[Nat.min_eq_right (by lia),aeh (MJ _),aeh (by lia)];simp
section
theorem bx.of (s:ar H H'):bx d H H':=λb o _ e=>s b o e
theorem bx.sqT (e:bx d H H')(hd:H d=some o)(so:eW o)(h:MR K H a xs):MR K H' a xs:=by
 rcases h with(h|⟨ob,h⟩)|h
 .exact .inl (.inl (e _ _ (by rintro rfl;rw[hd] at h;cases h;exact so) h))
 .exact .inl (.inr ⟨ob,e _ _ (by rintro rfl;rw[hd] at h;cases h;exact so) h⟩)
 .exact .inr h
end
end L2
namespace Ord
open PySem L2 Mx
section
theorem cK.sb (s:bx d H H')(hd:H d=some o)(so:eW o)(h:cK K H x r):cK K H' x r:=by
 obtain⟨p,e,q⟩:=h;exact⟨p,e,s.sqT hd so q⟩
theorem Dq (s:bx d H H')(hd:H d=some o)(so:eW o)(h:au.rep K H x r):au.rep K H' x r:=by
 obtain⟨p,e,q⟩:=cj h;subst e;exact cg (s.sqT hd so q)
theorem OL.sb {os:Bk.am}(s:bx d H H')(hd:H d=some o)(so:eW o)(n:a≠d)(h:OL K H a os):OL K H' a os:=by
 obtain⟨ys,q,p⟩:=h;exact⟨ys,s _ _ n q,aD (λ_ _ z=>Dq s hd so z) p⟩
def rM (K:Mi)(n:Nat):Sp:=λvs H Q _=>∃(many:Int) (la oa lr:D') (lf:List Int) (os:Bk.am) (rs:List Bk.Mg) (rx:List V),vs=[.int many,.ref la,.ref oa,.ref lr]/\H la=some (.lst (lf.map V.int))/\OL K H oa os/\H lr=some (.lst rx)/\MC (bu K H) rx rs/\
 la≠lr/\oa≠lr/\lf.Pairwise (· < ·)/\lf.length=n/\Bk.eV n (·∈lf) os/\os≠[]/\os.length<=1000/\rs.length+os.length*n<1000/\
 ∀(H':Hp) (rx':List V),bx lr H H'->H' lr=some (.lst rx')->MC (bu K H') rx' (Bk.lay n os rs).2->Q (.int ((Bk.lay n os rs).1:Nat)) H'
abbrev NLy:List Me:=["_law_many","_law_left","_law_orders","_law_rooms","_law_doors","_law_thing","_law_rests"]
abbrev WZ:List Me:=["_law_many","_law_left","_law_orders","_law_rooms"]
theorem oA:NE NLy WZ (ak iL):=⟨rfl,rfl,rfl,by decide +kernel,rfl,by decide +kernel,by decide +kernel⟩
theorem uI:∀{rs:List Bk.Mg},(rs.map enc).any (λa=>decide (a=enc r))=decide (r∈rs)
 | []=>rfl
 | x::rs=>by
  rw[Nt,Td,uI]
  by_cases e:x=r
  .subst e;simp
  .rw[M4 (λz=>e (i4 z)),Bool.false_or];exact ri ⟨λh=>Na _ h,λh=>(M0.mp h).resolve_left λz=>e z.symm⟩
theorem wa (F:Nh K "_law_lay" "_law_lay" iL f fd)(T:N9 K mg CO)(n:Nat)(WS:∀m,n=m+1->Df P w K mg base MM (m+1) "_law_lay" WZ (rM K m)):MU P w K mg base MM (n+1) f fd WZ (rM K n):=by
 refine F.ok oA (λvs H Q E h=>?_) (λMB A outer s H vs Q E hr h=>?_)
 .obtain⟨many,la,oa,lr,lf,os,rs,rx,rfl,_⟩:=h;rfl
 obtain⟨many,la,oa,lr,lf,os,rs,rx,rfl,UQ,ol,NG,prs,nla,noa,QS,adA,st,one,MW,afE,z⟩:=h;cases n with
 | zero=>
  refine⟨_,af (aQ (ay (ss hr.We) (pv 1) (bt ae) (aI _)) (al (aM ap)) az) (af aZ (af aZ (af aZ (al aZ)))),?_⟩;have l0:lf=[]:=SY.mp adA;subst l0;refine⟨_,rfl,by show 0<=Mz;decide,λe0 Oz=>?_⟩;have s1:=ai Oz (.lst []);refine⟨la,e0,[],[],rfl,rfl,MA.of (s1 _ _ UQ),MA.up,rfl,rfl,_,rfl,aV ?_⟩;exact z _ rx (bx.of s1) (s1 _ _ NG) (aD (λ_ _ z=>z.same s1) prs)
 | succ n=>
  have D:=WS n rfl;have hu:(A.deeper (Pl "_law_lay" (ak iL) s.heap.objs.size f MB)).units+64<MQ:=hr.units;have Y1:(A.deeper (Pl "_law_lay" (ak iL) s.heap.objs.size f MB)).units+2<MQ:=by lia
  have Y2:(A.deeper (Pl "_law_lay" (ak iL) s.heap.objs.size f MB)).units+1+2<MQ:=by lia
  have hu6:(A.deeper (Pl "_law_lay" (ak iL) s.heap.objs.size f MB)).units+4+2<MQ:=by lia
  refine⟨_,af (aQ (ay (ss hr.We) (pv 1) (bt ae) (aI _)) (al aZ) az)
   (af (aA (i:=4) oA.nd rfl (MX rfl) (bt ae))
   (af (ed Tb rfl (cu (pv 1)) (cB (i:=5) oA.nd rfl (NR rfl))
    (af (lh (i0:=6) oA.nd rfl (MX rfl) rfl (show Qb (ak iL) NLy _ _ from by constructor <;> decide +kernel) (cu (pv 2))
      (λ_ _ _ _ _ _=>eI (ay dU (aJ (show Nl _ (bF K) from bc) (pv 0) ap (λ_ _=>rfl)) (pv 6) (aI _)))
      (λcl C M1 NF fp aa=>ma (show SlR _ (DL K) from DM) (pv 0) (oK ap) oJ) rfl)
    (al (aQ (ay (nv (gG au) Y1) (pv 6) (bt ae) (aI _))
     (al (bA (eG RW T7 T8 cZ (pv 4) (ac (cb (ac (pv 5) (ac
      (aF D hr rfl (aX (E:=λ_ _ _ _=>False)) (ac (pv 0) (ac (fE rfl (show Qb (ak iL) NLy _ _ from by constructor <;> decide +kernel) (cu (pv 1))
        (λ_ _ _ _ _ _=>eI (ay dW (pv 0) (pv 6) (aI _))) (λcl C M1 NF fp aa=>pv 0) oA.nd) (ac (pv 6) (ac (pv 3) ae))))) ae))) ae)))) az))))
   (af (aQ (ay (jV bM Y2) (bp cU rfl T.t.tuple dM (ac (pv 4) ae)) (pv 3) rfl)
    (al (bA (eG RW T7 T8 cZ (pv 3) (ac (bp cU rfl T.t.tuple dM (ac (pv 4) ae)) ae)))) az)
   (al (aM (aR cN (eG RW aau aeb (yp bM hu6) (pv 3) (ac (bp cU rfl T.t.tuple dM (ac (pv 4) ae)) ae)) ap)))))),?_⟩
  have mul:Rw os*(n+1)=Rw os*n+Rw os:=aa9 _ _;have afS:0<os.length:=ZD.mpr one;refine⟨_,rfl,by show 0<=Mz;decide,λe0 Oz=>?_⟩;have s0:=ai Oz (.lst []);refine⟨la,e0,lf.map V.int,[],rfl,rfl,MA.of (s0 _ _ UQ),MA.up,dA _,rfl,_,rfl,?_⟩;rw[show(if false=true then !fb (lf.map V.int) [] else fb (lf.map V.int) [])=false from by
   rw[Mq Oo];exact oP (by rw[Ng,adA];simp)]
  refine aK ?_;refine⟨by show 0<=Mz;decide,λg Vu=>?_⟩;have s1:=s0.trans (ai Vu (.lst []));have gH:H g=none:=s0.free Vu;have glr:g≠lr:=(aq NG gH).symm;have hh:lf.filter (λt=>!(Bk.rests t os).isEmpty)=Bk.heads os:=Bk.xC QS st;refine⟨_,rfl,la,rfl,⟨_,MA.of (s1 _ _ UQ)⟩,e9 (K:=K) (a:=la) (xs:=lf.map V.int) (λi σ H2=>∃v5 v6 dv Ql,σ=[some (.int many),some (.ref la),some (.ref oa),some (.ref lr),some (.ref g),v5,v6]/\bx lr H H2/\H2 g=some (.lst dv)/\dv.length<=i/\
    MC (cK K H2) dv (Bk.aG (Bk.lay n) os ((lf.take i).filter (λt=>!(Bk.rests t os).isEmpty)) rs).1/\H2 lr=some (.lst Ql)/\MC (bu K H2) Ql (Bk.aG (Bk.lay n) os ((lf.take i).filter (λt=>!(Bk.rests t os).isEmpty)) rs).2)
   ⟨none,none,[],rx,rfl,bx.of s1,ag,NX _,.nil,s1 _ _ NG,aD (λ_ _ z=>z.same s1) prs⟩ ?_ ?_ ?_⟩
  .rintro i σ H2 _ ⟨v5,v6,dv,Ql,rfl,sb,_⟩;exact MA.of (sb _ _ nla UQ)
  .rintro i x σ H2 hx ⟨v5,v6,dv,Ql,rfl,sb,hg,dl,pd,NC,ST⟩;obtain⟨t,rfl,ht⟩:=oX hx;obtain⟨ys,hoa,pos⟩:=OL.sb sb NG trivial noa ol;have afT:=pos.length;have hi:=(NP.mp ht).1;refine⟨_,rfl,oa,rfl,⟨_,MA.of hoa⟩,fU (K:=K) (a:=oa) (xs:=ys) (λj zs H3=>ar H2 H3/\zs.length<=j/\MC (au.rep K H3) zs (Bk.rests t (os.take j))) ⟨ar.refl _,NX _,.nil⟩ ?_ (by rw[Nf];lia) ?_ ?_⟩
   .rintro j zs H3 _ ⟨s3,zl,_⟩;exact⟨MA.of (s3 _ _ hoa),zl⟩
   .rintro j y zs H3 hy ⟨s3,zl,pz⟩;obtain⟨o,ho,ro⟩:=cp pos hy;obtain⟨b,rfl,qb⟩:=cj (au.mono s3 ro);have afU:=(st o (N1 ho)).1;cases o with
    | nil=>simp at afU
    | cons h r=>
     refine⟨_,rfl,b,_,0,.int h,rfl,rfl,qb,hV,_,rfl,rfl,_,rfl,?_⟩;rw[Bk.xD ho]
     by_cases c:h=t
     .subst c;rw[M6 rfl];have e1:Bk.eN h (h::r)=some r:=by show(if h=h then some r else none)=some r;rw[Mu rfl]
      rw[e1];refine aV ⟨_,rfl,1,rfl,b,_,rfl,qb,?_,λp hp=>?_⟩
      .rw[Ng];simp[HT.Nk]
      have s4:=ai hp (.tup (cO ((h::r).map V.int) (some 1) none));refine⟨s3.trans s4,by rw[NQ];show zs.length+1<=j+1;lia,cJ (aD (λ_ _ z=>au.mono s4 z) pz) (.cons (cg (MR.of ?_)) .nil)⟩;rw[ag,show cO ((h::r).map V.int) (some 1) none=r.map V.int from by rw[show(1:Int)=((1:Nat):Int) from rfl,zN];rfl]
     .rw[M4 (λz=>c (V.int.inj z))];have e1:Bk.eN t (h::r)=none:=by show(if h=t then some r else none)=none;rw[Mq c]
      rw[e1];refine aK ⟨s3,by lia,?_⟩;rw[Option.toList_none,QD];exact pz
   rintro zs H3 c0 ⟨s3,zl,pz⟩ Vr;rw[afT,QB] at pz;have s4:=ai Vr (.lst zs);have oc:OL K (upd H3 c0 (.lst zs)) c0 (Bk.rests t os):=OL.new Vr pz;have s34:=s3.trans s4;generalize (upd H3 c0 (.lst zs))=H4 at s4 oc s34 ⊢;refine⟨_,rfl,by show 0<=Mz;decide,λe1 Vp=>?_⟩;have s5:=ai Vp (.lst []);have oc5:=OL.same s5 oc;refine⟨Bk.rests t os,[],oc5.rep,⟨e1,[],rfl,MA.up,.nil⟩,_,rfl,?_⟩;have QT:=s34.trans s5;generalize (upd H4 e1 (.lst []))=H5 at s5 oc5 QT ⊢;have tk:(lf.take (i+1)).filter (λt=>!(Bk.rests t os).isEmpty)=(lf.take i).filter (λt=>!(Bk.rests t os).isEmpty)++(if Bk.rests t os=[] then [] else [t]):=by
    rw[bU ht,VO]
    congr 1
    by_cases e:Bk.rests t os=[]
    .rw[Mu e,VD (by rw[e];decide)];rfl
    .rw[Mq e,SZ (by rw[ad0.mpr e];rfl)];rfl
   by_cases e:Bk.rests t os=[]
   .rw[Mu rfl,M6 e];refine aK ?_;refine⟨_,_,dv,Ql,rfl,sb.trans (bx.of QT),QT _ _ hg,by lia,?_,QT _ _ NC,?_⟩
    .rw[tk,Mu e,QD];exact aD (λ_ _ z=>z.same QT) pd
    .rw[tk,Mu e,QD];exact aD (λ_ _ z=>z.same QT) ST
   .rw[Mu rfl,M4 e];refine aV ?_;have pt:(λt=>!(Bk.rests t os).isEmpty) t=true:=by show(!(Bk.rests t os).isEmpty)=true;rw[ad0.mpr e];rfl
    obtain⟨f1,f2⟩:=Bk.EV (p:=λt=>!(Bk.rests t os).isEmpty) ht pt;rw[hh] at f1 f2;obtain⟨bd1,bd2⟩:=Bk.nS (n:=n) (rs:=rs) f1;rw[f2] at bd1 bd2;have adB:H5 la=some (.lst (lf.map V.int)):=QT _ _ (sb _ _ nla UQ);have lfl:(lf.map V.int).length=lf.length:=Ng _;have l8:lf.length<=os.length*(n+1):=by
     have:1*(n+1)<=os.length*(n+1):=VG _ afS;lia
    refine⟨_,rfl,.inl ⟨rfl,_,MA.of (QT _ _ hg)⟩,_,rfl,_,rfl,_,rfl,la,rfl,⟨_,MA.of adB⟩,fU (K:=K) (a:=la) (xs:=lf.map V.int) (λj zs H6=>H6=H5/\zs.length<=j/\zs=((lf.take j).filter (λy=>decide (y≠t))).map V.int) ⟨rfl,NX _,rfl⟩ ?_ (by rw[Nf];lia) ?_ ?_⟩
    .rintro j zs H6 _ ⟨rfl,zl,_⟩;exact⟨MA.of adB,zl⟩
    .rintro j y zs H6 hy ⟨rfl,zl,rfl⟩;obtain⟨yy,rfl,hyy⟩:=oX hy;refine⟨_,rfl,_,rfl,rfl,_,rfl,?_⟩;rw[bU hyy,VO,Qn]
     by_cases c:yy=t
     .subst c;rw[M6 rfl];refine aK ⟨rfl,by lia,?_⟩;rw[VD (by simp)];simp
     .rw[M4 (λz=>c (V.int.inj z))];refine aV ⟨_,rfl,rfl,by rw[NQ];show _+1<=j+1;lia,?_⟩;rw[SZ (by simpa using c)];rfl
    rintro zs2 H6 d0 ⟨rfl,_,rfl⟩ hd0;rw[lfl,QB];have s6:=ai hd0 (.lst ((lf.filter (λy=>decide (y≠t))).map V.int));have hd6:(upd H6 d0 (.lst ((lf.filter (λy=>decide (y≠t))).map V.int))) d0=some (.lst ((lf.filter (λy=>decide (y≠t))).map V.int)):=ag;have RP:=QT.trans s6;generalize (upd H6 d0 (.lst ((lf.filter (λy=>decide (y≠t))).map V.int)))=H7 at s6 hd6 RP ⊢;have hl7:=RP _ _ NC;have oc7:=OL.same s6 oc5;have afV:d0≠lr:=(aq (QT _ _ NC) hd0).symm;have afW:c0≠lr:=(aq (s3 _ _ NC) Vr).symm;have tm:t∈lf:=N1 ht;have fm:∀x,x∈lf.filter (λy=>decide (y≠t))↔x∈lf/\x≠t:=λx=>by rw[O9,decide_eq_true_eq]
    have S2:Bk.eV n (·∈lf.filter (λy=>decide (y≠t))) (Bk.rests t os):=λo ho=>by
     obtain⟨a1,a2,a3,a4⟩:=st.rests t o ho;exact⟨a1,a2,a3,λx=>(a4 x).trans (fm x).symm⟩
    have afX:(lf.filter (λy=>decide (y≠t))).length=n:=by
     obtain⟨o,ho⟩:=SX _ e;obtain⟨a1,_,a3,a4⟩:=S2 o ho;have Y3:(lf.filter (λy=>decide (y≠t))).Nodup:=(QS.filter _).imp λh e=>Mw h (by rw[e];lia);rw[<-a1];exact((Zw a3 Y3).mpr a4).length_eq.symm
    have rl:(Bk.rests t os).length<=os.length:=by
     have:=List.length_filterMap_le (Bk.eN t) os;exact this
    refine⟨_,rfl,_,rfl,many,d0,c0,lr,_,Bk.rests t os,_,Ql,rfl,hd6,oc7,hl7,aD (λ_ _ z=>z.same RP) ST,afV,afW,QS.filter _,afX,S2,e,by lia,by lia,λH8 rx8 sb8 hl8 pr8=>?_⟩;refine⟨by show 2<=Mz;decide,λtq UL=>?_⟩;have s9:=ai UL (.tup [V.int t,V.int ((Bk.lay n (Bk.rests t os) (Bk.aG (Bk.lay n) os ((lf.take i).filter (λt=>!(Bk.rests t os).isEmpty)) rs).2).1:Nat)]);have hg9:=s9 _ _ (sb8 _ _ glr (RP _ _ hg));refine⟨g,dv,_,rfl,rfl,hg9,by rw[Nf];lia,?_⟩;have tqg:tq≠g:=(aq (sb8 _ _ glr (RP _ _ hg)) UL).symm;refine⟨_,_,dv++[.ref tq],rx8,rfl,λb u nb q=>?_,ag,by rw[NQ];show dv.length+1<=i+1;lia,?_,?_,?_⟩
    .rw[ao (aq q gH)];exact s9 _ _ (sb8 _ _ nb (RP _ _ (sb _ _ nb q)))
    .rw[tk,Mq e,Bk.iA];refine cJ (aD (λ_ _ z=>?_) pd) (.cons ⟨tq,rfl,MR.of ?_⟩ .nil)
     .obtain⟨p,e,q⟩:=(cK.sb sb8 hl7 trivial (z.same RP)).same s9;exact⟨p,e,q.soft hg9 trivial⟩
     .rw[ao tqg,ag]
    .rw[ao glr.symm];exact s9 _ _ hl8
    .rw[tk,Mq e,Bk.iA];exact aD (λ_ _ z=>(z.same s9).soft hg9 trivial) pr8
  .rintro σ H2 ⟨v5,v6,dv,Ql,rfl,sb,hg,dl,pd,NC,ST⟩;rw[show(lf.map V.int).length=lf.length from Ng _,QB,hh] at pd ST;have db:=Bk.lS (n:=n) (os:=os) (rs:=rs);have rl:=ST.length;refine⟨_,rfl,g,dv,rfl,.inl ⟨MA.of hg,λt1 WU=>?_⟩⟩;have s3:=ai WU (.tup dv);have ra:∀{H':Hp}{p:D'},ar H2 H'->H' p=some (.tup dv)->bu K H' (.ref p) (Bk.aG (Bk.lay n) os (Bk.heads os) rs).1:=λs hp=>⟨_,dv,rfl,MR.of hp,aD (λ_ _ z=>z.same s) pd⟩
   have hk:Bk.lay (n+1) os rs=Bk.keep (Bk.aG (Bk.lay n) os (Bk.heads os) rs).2 (Bk.aG (Bk.lay n) os (Bk.heads os) rs).1:=rfl;rw[hk] at z;generalize (Bk.aG (Bk.lay n) os (Bk.heads os) rs).2=Mj at ST z db rl ra;generalize (Bk.aG (Bk.lay n) os (Bk.heads os) rs).1=rm at pd z ra;refine⟨_,rfl,enc rm,Mj.map enc,(ra s3 ag).rep,⟨lr,Ql,rfl,MA.of (s3 _ _ NC),fJ (aD (λ_ _ z=>z.same s3) ST)⟩,_,rfl,?_⟩;rw[Mu rfl,uI]
   by_cases c:rm∈Mj
   .rw[M6 c];have zk:Bk.keep Mj rm=(Mj.idxOf rm+2,Mj):=by unfold Bk.keep;rw[Mu c]
    rw[zk] at z;refine aK ?_;obtain⟨i1,i2⟩:=Bk.zM c;refine⟨_,rfl,.inl ⟨rfl,_,MA.of (s3 _ _ NC)⟩,_,rfl,g,dv,rfl,.inl ⟨MA.of (s3 _ _ hg),λt2 RL=>?_⟩⟩;have s4:=s3.trans (ai RL (.tup dv));refine⟨_,enc rm,Mj.map enc,Mj.idxOf rm,rfl,(ra s4 ag).rep,⟨lr,Ql,rfl,MA.of (s4 _ _ NC),fJ (aD (λ_ _ z=>z.same s4) ST)⟩,by rw[O0,i1];rfl,λi hi h=>?_,?_⟩
    .rw[O0] at h;cases hq:Mj[i]? with
     | none=>rw[hq] at h;cases h
     | some y=>
      rw[hq] at h;have:=i4 (Rv h);subst this;exact i2 i hi hq
    .refine⟨_,_,rfl,rfl,?_⟩;have:=z _ Ql (sb.trans (bx.of s4)) (s4 _ _ NC) (aD (λ_ _ z=>z.same s4) ST);exact this
   .rw[M4 c];have zk:Bk.keep Mj rm=(Mj.length+2,Mj++[rm]):=by unfold Bk.keep;rw[Mq c]
    rw[zk] at z;refine aV ?_;obtain⟨i1,i2⟩:=Bk.Dp c;refine⟨_,rfl,.inl ⟨rfl,_,MA.of (s3 _ _ NC)⟩,_,rfl,g,dv,rfl,.inl ⟨MA.of (s3 _ _ hg),λt2 RL=>?_⟩⟩;have s4:=s3.trans (ai RL (.tup dv));have Y4:=s4 _ _ NC;refine⟨lr,Ql,.ref t2,rfl,rfl,Y4,by rw[Nf];lia,?_⟩;have agh:t2≠lr:=(aq (s3 _ _ NC) RL).symm;have r2:=ra s4 ag;have pr4:=cJ (aD (λ_ _ z=>(z.same s4).soft (u:=.lst (Ql++[.ref t2])) Y4 trivial) ST) (.cons (r2.soft (u:=.lst (Ql++[.ref t2])) Y4 trivial) .nil);have sb4:bx lr H2 (upd (upd (upd H2 t1 (.tup dv)) t2 (.tup dv)) lr (.lst (Ql++[.ref t2]))):=λb u nb q=>by rw[ao nb];exact s4 _ _ q
    have Vt:=sb4 _ _ glr hg;have W':(upd (upd (upd H2 t1 (.tup dv)) t2 (.tup dv)) lr (.lst (Ql++[.ref t2]))) lr=some (.lst (Ql++[.ref t2])):=ag;have pd4:=aD (λ_ _ z=>cK.sb sb4 NC trivial z) pd;generalize (upd (upd (upd H2 t1 (.tup dv)) t2 (.tup dv)) lr (.lst (Ql++[.ref t2])))=H5 at pr4 sb4 Vt W' pd4 ⊢;refine⟨_,rfl,.inl ⟨rfl,_,MA.of W'⟩,_,rfl,g,dv,rfl,.inl ⟨MA.of Vt,λt3 ht3=>?_⟩⟩;have s6:=ai ht3 (.tup dv);have r6:bu K (upd H5 t3 (.tup dv)) (.ref t3) rm:=⟨_,dv,rfl,MR.of ag,aD (λ_ _ z=>z.same s6) pd4⟩
    refine⟨_,enc rm,(Mj++[rm]).map enc,Mj.length,rfl,r6.rep,⟨lr,_,rfl,MA.of (s6 _ _ W'),fJ (aD (λ_ _ z=>z.same s6) pr4)⟩,by rw[O0,i1];rfl,λi hi h=>?_,?_⟩
    .rw[O0] at h;cases hq:(Mj++[rm])[i]? with
     | none=>rw[hq] at h;cases h
     | some y=>
      rw[hq] at h;have:=i4 (Rv h);subst this;exact i2 i hi hq
    .refine⟨_,_,rfl,rfl,?_⟩;have:=z _ _ (sb.trans (sb4.trans (bx.of s6))) (s6 _ _ W') (aD (λ_ _ z=>z.same s6) pr4);exact this
theorem zO (F:Nh K "_law_lay" "_law_lay" iL f fd)(T:N9 K mg CO)(b:bK K fd WZ [])(m:mg "_law_lay"=some (.ref f)):∀n,MU P w K mg base MM (n+1) f fd WZ (rM K n)
 | 0=>wa F T 0 λm h=>nomatch h
 | n+1=>wa F T (n+1) λk h=>by
  cases h;exact⟨f,fd,zO F T b m n,b,F.kp,m⟩
end
section
def pN (K:Mi):Sp:=λvs H Q _=>∃(many:Nat) (oa:D') (os:Bk.am),vs=[.int (many:Int),.ref oa]/\OL K H oa os/\Bk.Nn many os/\
 ∀(t lr:D') (H':Hp),ar H H'->Uo K H H' t lr many (aW many os).1 (aW many os).2->Q (.ref t) H'
theorem pO:NE ["_law_many","_law_orders","_law_rooms","_law_first"] ["_law_many","_law_orders"] (ak kD):=⟨rfl,rfl,rfl,by decide +kernel,rfl,by decide +kernel,by decide +kernel⟩
theorem zP (n:Nat):(Mx.bj n).Pairwise (· < ·):=by
 unfold Mx.bj;rw[Sn];exact aaw.imp λh=>by lia
theorem BD (F:Nh K "_law_book" "_law_book" kD f fd)(T:N9 K mg CO)(WL:∀n,Df P w K mg base MM (n+1) "_law_lay" WZ (rM K n)):MU P w K mg base MM 7 f fd ["_law_many","_law_orders"] (pN K):=by
 refine F.ok pO (λvs H Q E h=>?_) (λMB A outer s H vs Q E hr h=>?_)
 .obtain⟨many,oa,os,rfl,_⟩:=h;rfl
 obtain⟨many,oa,os,rfl,ol,S,z⟩:=h;have m1:=S.m1;have m5:=S.m5;have len:=S.len;have hu:(A.deeper (Pl "_law_book" (ak kD) s.heap.objs.size f MB)).units+64<MQ:=hr.units;have Y1:(A.deeper (Pl "_law_book" (ak kD) s.heap.objs.size f MB)).units+2<MQ:=by lia
 refine⟨_,af (aA (i:=2) pO.nd rfl (MX rfl) (bt ae))
  (af (aQ (ay (yo (gG au) Y1) (pv 1) (bt ae) (aI _)) (al (aM (cb (ac (pv 0) (ac (bt ae) (ac ap ae)))))) az)
  (af (aA (i:=3) pO.nd rfl (MX rfl) (aF (WL many) (hr.mono (by lia)) rfl (aX (E:=λ_ _ _ _=>False)) (ac (pv 0) (ac
    (bp (gF rfl) rfl T.t.list gY (ac (bp jS rfl T.t.range oU (ac (pv 0) ae)) ae))
    (ac (aE j2 rfl T.t.sorted gZ (ac (pv 1) ae)) (ac (pv 2) ae))))))
  (al (aM (cb (ac (pv 0) (ac (pv 2) (ac (pv 3) ae)))))))),?_⟩
 refine⟨by show 0<=Mz;decide,λlr NG=>?_⟩;have s1:=ai NG (.lst []);have Qi:(upd H lr (.lst [])) lr=some (.lst []):=ag;generalize (upd H lr (.lst []))=H1 at s1 Qi ⊢;refine⟨_,rfl,by show 0<=Mz;decide,λe0 Oz=>?_⟩;have s2:=ai Oz (.lst []);refine⟨os,[],(OL.same (s1.trans s2) ol).rep,⟨e0,[],rfl,MA.up,.nil⟩,_,rfl,?_⟩;rw[Mq Oo];have NC:=s2 _ _ Qi;generalize (upd H1 e0 (.lst []))=H2 at s2 NC ⊢;have Pf:=s1.trans s2
 by_cases e:os=[]
 .rw[M6 e];subst e;refine aV ⟨_,rfl,by show 0<=Mz;decide,λl0 Q4=>?_⟩;have s3:=Pf.trans (ai Q4 (.lst []));refine⟨by show 3<=Mz;decide,λt ht=>?_⟩;have s4:=ai ht (.tup [V.int (many:Int),V.ref l0,V.int 0]);exact z t l0 _ (s3.trans s4) ⟨s3.free ht,Pf.free Q4,by rw[io];exact ag,[],s4 _ _ ag,by rw[io];exact .nil⟩
 .rw[M4 e];refine aK ?_;refine⟨_,rfl,_,rfl,(many:Int),rfl,λr0 OY=>⟨r0,0,(many:Int),rfl,ag,by decide,by decide,by lia,by lia,by lia,λla UQ=>?_⟩⟩;have s3:=(ai OY (.Rj 0 (many:Int))).trans (ai UQ (.lst (fV 0 ((many:Int)-0).toNat)));have ei:fV 0 ((many:Int)-0).toNat=(Mx.bj many).map V.int:=by rw[fF,show((many:Int)-0).toNat=many by lia]
  have adC:(upd (upd H2 r0 (.Rj 0 (many:Int))) la (.lst (fV 0 ((many:Int)-0).toNat))) la=some (.lst ((Mx.bj many).map V.int)):=by rw[ag,ei]
  have laf:H2 la=none:=(ai OY (.Rj 0 (many:Int))).free UQ;generalize (upd (upd H2 r0 (.Rj 0 (many:Int))) la (.lst (fV 0 ((many:Int)-0).toNat)))=H3 at s3 adC ⊢;have o3:=OL.same (Pf.trans s3) ol;refine⟨_,rfl,.ref oa,os,rfl,o3.rep,λks hk=>?_,by lia,λl2 RJ OB abL YX perm QS=>?_⟩
  .have:=(S.Yl ks hk).1;intro e;subst e;simp at this;lia
  have s4:=ai abL (.lst RJ);have mem:∀o,o∈OB↔o∈os:=λo=>perm.mem_iff;have kl:OB.length=os.length:=perm.length_eq;have Y4:=s4 _ _ (s3 _ _ NC);have st:Bk.eV many (·∈Mx.bj many) OB:=λo ho=>by
   obtain⟨a1,a2,a3,a4⟩:=S.Yl o ((mem o).mp ho);exact⟨a1,a2,a3,λx=>(a4 x).trans cP.symm⟩
  have ne':OB≠[]:=λh=>e (SY.mp (by rw[<-kl,h];rfl));have bnd:OB.length*many<=24*5:=acM (by lia) m5;refine⟨_,rfl,(many:Int),la,l2,lr,Mx.bj many,OB,[],[],rfl,s4 _ _ adC,OL.new abL YX,Y4,.nil,(aq NC laf).symm,(aq (s3 _ _ NC) abL).symm,zP many,dq many,st,ne',by lia,by show 0+_<_;lia,λH5 rx5 sb W' pr5=>?_⟩;rw[Bk.hR many [] mem] at pr5 ⊢;have s5:ar H H5:=λb u q=>sb b u (aq q NG) (s4 _ _ (s3 _ _ (Pf _ _ q)));refine⟨_,rfl,_,rfl,_,rfl,by show 3<=Mz;decide,λt ht=>?_⟩;have s6:=ai ht (.tup [V.int (many:Int),V.ref lr,V.int (((Bk.lay many os []).1:Nat):Int)]);rw[pM e] at z;exact z t lr _ (s5.trans s6) ⟨s5.free ht,NG,ag,rx5,s6 _ _ W',aD (λ_ _ z=>z.same s6) pr5⟩
end
end Ord
namespace L2
open PySem PySem.Spec PyProof.Rows
def HS (X:Cx)(R:VK)(st:Mv)(A B:St->Hp->Prop):Prop:=∃t,PS X st t/\∀(D:Ends) (σ:St) (H:Hp),A σ H->(∀MP H',B MP H'->D.nx MP H')->(∀v H',R v H'->D.rt v H')->t D σ H
def QU (X:Cx)(R:VK)(sts:List Mv)(A B:St->Hp->Prop):Prop:=∃t,PY X sts t/\∀(D:Ends) (σ:St) (H:Hp),A σ H->(∀MP H',B MP H'->D.nx MP H')->(∀v H',R v H'->D.rt v H')->t D σ H
theorem QU.nil:QU X R [] A A:=⟨_,az,λ_ σ H a q _=>q σ H a⟩
theorem HS.cons {st:Mv}(h1:HS X R st A B)(h2:QU X R rest B C):QU X R (st::rest) A C:=by
 obtain⟨t,ht,h⟩:=h1;obtain⟨u,hu,k⟩:=h2;exact⟨_,af ht hu,λD σ H a q r=>h { D with nx:=u D } σ H a (λMP H' m=>k D MP H' m q r) r⟩
end L2
namespace Ord
open PySem L2 Mx
abbrev pP:Mv:=top 51
theorem fL (W:ι m rs f):Ou m rs f:=by
 have m1:=W.m1;have m8:=W.m8;refine⟨⟨by lia,by lia⟩,λi r e=>?_,?_,W.nd,W.walk⟩
 .have ok:=W.rooms.wf i r e;obtain⟨mt,_⟩:=Bk.wW W.rooms.mask W.rooms.wf e;have mem:=N1 e;refine⟨⟨ok.ne,ok.rise,λd hd=>?_⟩,λd hd=>(mt d hd).2.2.2.2.1,λd hd=>?_⟩
  .have ah:=ok.ahead d hd;exact⟨(mt d hd).1,W.rooms.less r mem d hd,ah.1,by lia⟩
  .rw[(mt d hd).2.2.2.2.2];obtain⟨d0,r',rfl⟩:=TY ok.ne;exact(mt d0 MO).2.2.2.2.2.symm
 .rw[UV];rcases W.fst with h|⟨h1,h2,h3⟩
  .exact .inl (by lia)
  .exact .inr ⟨by lia,by rw[Bk.dD];lia,h3⟩
section
variable {os:Bk.am} in
theorem gp (S:Bk.Nn many os):Bk.bC (aW many os).1 (aW many os).2=os:=by
 unfold Bk.bC;rw[UV];exact Nn.Ow S
variable {os:Bk.am} in
theorem qZ (m4:many<=4)(S:Bk.Nn many os):∀r∈(aW many os).1,∀d∈r,0<=d.1/\d.1<4:=λr hr d hd=>by
 have W:=Nn.whole S;obtain⟨i,e⟩:=List.getElem?_of_mem hr;have h1:=(W.rooms.mask i r e d hd).1;have h2:=W.rooms.less r hr d hd;lia
variable {os:Bk.am} in
theorem uJ (S:Bk.Nn many os):Bk.Rn (aW many os).1 (aW many os).2:=by
 rcases(Nn.whole S).fst with h|⟨h1,h2,_⟩
 .exact .inl (by lia)
 .exact .inr ⟨by lia,by lia⟩
variable {os:Bk.am} in
theorem jG (S:Bk.Nn many os):∀o∈os,o.length=many:=λo ho=>(Bk.gn S.m1 S.m5 (S.mem o ho)).1
theorem jok (m4:many<=4)(S1:Bk.Nn many MF)(S2:Bk.Nn many MH):Bk.SS many (aW many MF).1 (aW many MH).1 (aW many MF).2 (aW many MH).2 where
 w1:=(Nn.whole S1).rooms.wf
 w2:=(Nn.whole S2).rooms.wf
 s1:=qZ m4 S1
 s2:=qZ m4 S2
 pg:=⟨uJ S1,uJ S2,by rw[gp S1];exact jG S1,by rw[gp S2];exact jG S2⟩
def Due (cl:Bk.Cl)(MF MH os:Bk.am):Prop:=∀o,o∈os↔((if o∈MF then 1 else 0:Int),(if o∈MH then 1 else 0:Int))∈cl
variable {os:Bk.am} in
theorem uK (c0:(0,0)∉cl)(m4:many<=4)(S1:Bk.Nn many MF)(S2:Bk.Nn many MH)(S:Bk.Nn many os)(h:Due cl MF MH os):
  Bk.eP (Bk.eA cl (aW many MF).1 (aW many MH).1) many (Bk.cS cl (aW many MF).2 (aW many MH).2)=aW many os:=by
 have J:=jok m4 S1 S2;obtain⟨gd,lk,lv⟩:=Bk.ls J.w1 J.w2 c0 J.pg;refine(Bk.ze (many:=many) (os':=os) (Bk.jw J.w1 J.w2 J.abq J.abr c0) rfl rfl (λk h=>h) gd (lv.imp id V5) (λo=>(lk o).symm.trans ((Bk.gN c0).trans ?_)) (jG S)).trans ?_
 .rw[h o];unfold Bk.bit;rw[gp S1,gp S2]
 .unfold aW;rfl
variable {os:Bk.am} in
theorem dN (S:Bk.Nn many os):(aW many os).1.length<70:=(Nn.whole S).MW
variable {os:Bk.am} in
theorem uL (S:Bk.Nn many os):(aW many os).2=0↔os=[]:=by
 constructor
 .intro h;have:=gp S;rw[h] at this;rw[<-this];exact Bk.dE _
 .rintro rfl;rw[io]
variable {os:Bk.am} in
theorem zQ (S:Bk.Nn many os)(ne:os≠[]):(aW many os).2≠0/\∃o,os[0]?=some o/\Bk.WF (aW many os).1/\(aW many os).2<(aW many os).1.length+2/\(Bk.bC (aW many os).1 (aW many os).2).head?=some o/\o.length<=100:=by
 have n0:(aW many os).2≠0:=λh=>ne ((uL S).mp h);obtain⟨o,l,rfl⟩:=TY ne;have len:=jG S o MO;have m5:=S.m5;refine⟨n0,o,rfl,(Nn.whole S).rooms.wf,?_,by rw[gp S];rfl,by lia⟩;rcases uJ S with h|h
 .omega
 .omega
end
section
theorem EW (h:∀o,o∈ev↔o∈MF\/o∈MH):Due [(1,0),(0,1),(1,1)] MF MH ev:=λo=>by
 rw[h]
 by_cases a:o∈MF <;> by_cases b:o∈MH <;> simp[a,b]
theorem Ds (h:∀o,o∈an↔o∈MF/\o∈MH):Due [(1,1)] MF MH an:=λo=>by
 rw[h]
 by_cases a:o∈MF <;> by_cases b:o∈MH <;> simp[a,b]
theorem BE (h:∀o,o∈le↔o∈MF/\o∉MH):Due [(1,0)] MF MH le:=λo=>by
 rw[h]
 by_cases a:o∈MF <;> by_cases b:o∈MH <;> simp[a,b]
theorem Dt (h:∀o,o∈od↔(o∈MF\/o∈MH)/\¬(o∈MF/\o∈MH)):Due [(1,0),(0,1)] MF MH od:=λo=>by
 rw[h]
 by_cases a:o∈MF <;> by_cases b:o∈MH <;> simp[a,b]
end
section
def xE (K:Mi):Sp:=λvs H Q _=>∃(a:D') (k:Int) (many:Nat),vs=[.ref a,.int k,.int (many:Int)]/\RN K H a/\1<=many/\many<=4/\∀(r sa sb:D') (MF MH:Bk.am) (H':Hp),ar H H'->H' r=some (.tup [.ref sa,.ref sb])->OL K H' sa MF->OL K H' sb MH->MF.Sublist (Bk.cT many)->MH.Sublist (Bk.cT many)->Q (.ref r) H'
abbrev NTw:List Me:=["_law_script","_law_k","_law_many","_law_one","_law_other","_law_way"]
theorem lF:NE NTw ["_law_script","_law_k","_law_many"] (ak pP):=⟨rfl,rfl,rfl,by decide +kernel,rfl,by decide +kernel,by decide +kernel⟩
theorem EX (F:Nh K "_law_two" "_law_two" pP f fd)(T:N9 K mg CO)(WS:Df P w K mg base MM 3 "_law_set" ["_law_script","_law_k","_law_many"] (rL K))(WM:Df P w K mg base MM 2 "_law_mix" ["_law_script","_law_k"] (lE K)):MU P w K mg base MM 4 f fd ["_law_script","_law_k","_law_many"] (xE K):=by
 refine F.ok lF (λvs H Q E h=>?_) (λMB A outer s H vs Q E hr h=>?_)
 .obtain⟨a,k,many,rfl,_⟩:=h;rfl
 obtain⟨a,k,many,rfl,hs,m1,m4,z⟩:=h;have tail:QU (cH MM P w K mg base NTw "_law_two" (ak pP) f MB A outer s H E).Qt Q ((cm pP).drop 4) (λσ H2=>∃(sa sb:D') (MF MH:Bk.am) (v5:V),σ=[some (.ref a),some (.int k),some (.int (many:Int)),some (.ref sa),some (.ref sb),some v5]/\(∃i,v5=.int i)/\ar H H2/\OL K H2 sa MF/\OL K H2 sb MH/\MF.Sublist (Bk.cT many)/\MH.Sublist (Bk.cT many)) (λ_ _=>False):=by
  refine⟨_,af (aQ (ay dU (pv 5) ap (aI _)) (al (lh (i0:=4) lF.nd rfl (by first|exact MX rfl|exact NR rfl) rfl (show Qb (ak pP) NTw _ _ from by constructor <;> decide +kernel) (cu (pv 3))
    (λ_ _ _ _ _ _=>eI (ay dW (aJ (show Nl _ (bF K) from bc) (pv 0) ap (λ_ _=>rfl)) ap (aI _)))
    (λcl C M1 NF fp aa=>pv 0) rfl)) az)
   (al (aM (cb (ac (pv 3) (ac (pv 4) ae))))),?_⟩
  rintro D σ H2 ⟨sa,sb,MF,MH,v5,rfl,⟨i5,rfl⟩,s2,o1,o2,u1,u2⟩ qn qr;refine⟨_,rfl,rfl,_,rfl,?_⟩;have fin:∀(sb':D') (os':Bk.am) (H3:Hp),ar H2 H3->OL K H3 sb' os'->os'.Sublist (Bk.cT many)->∀r,H3 r=none->Q (.ref r) (upd H3 r (.tup [.ref sa,.ref sb'])):=λsb' os' H3 s3 o3 u3 r OY=>
   z r sa sb' MF os' _ (s2.trans (s3.trans (ai OY _))) ag (OL.same (s3.trans (ai OY _)) o1) (OL.same (ai OY _) o3) u1 u3
  refine md (λ_=>?_) (λ_=>?_)
  .obtain⟨ys,hl,py⟩:=id o1;have hlen:=py.length;have afc:=Bk.jE many (Bk.in4 m1 m4);have ul:=u1.length_le;refine⟨_,rfl,sa,rfl,⟨_,MA.of hl⟩,fU (K:=K) (a:=sa) (xs:=ys) (λi zs H3=>H3=H2/\zs.length<=i/\∃os,MC (au.rep K H2) zs os/\os.Sublist (MF.take i)) ⟨rfl,NX _,[],.nil,ZN _⟩ ?_ (by rw[Nf];lia) ?_ ?_⟩
   .rintro i zs H3 _ ⟨rfl,zl,_⟩;exact⟨MA.of hl,zl⟩
   .rintro i y zs H3 hy ⟨rfl,zl,os,po,sub⟩;obtain⟨o,ho,ro⟩:=cp py hy;obtain⟨b,rfl,qb⟩:=cj ro;have lo:=(Bk.gn m1 (by lia) (u1.subset (N1 ho))).1;have h0:0<o.length:=by lia
    obtain⟨t1,t2⟩:=mM ho sub;refine⟨_,rfl,b,_,0,.int (o[0]'h0),rfl,rfl,qb,ck (j:=0) (by rw[O0,Om h0];rfl),rfl,_,rfl,?_⟩;refine md (λ_=>?_) (λ_=>?_)
    .exact⟨_,rfl,rfl,by rw[NQ];show zs.length+1<=i+1;lia,os++[o],cJ po (.cons ro .nil),t2⟩
    .exact⟨rfl,by lia,os,po,t1⟩
   .rintro zs H3 p ⟨rfl,_,os,po,sub⟩ hp;have u3:os.Sublist (Bk.cT many):=(sub.trans (Xw _ _)).trans u1;exact⟨_,rfl,_,rfl,by show 2<=Mz;decide,λr OY=>qr _ _ (fin p os _ (ai hp _) (OL.new hp po) u3 r OY)⟩
  .exact⟨_,rfl,_,rfl,by show 2<=Mz;decide,λr OY=>qr _ _ (fin sb MH H2 (ar.refl _) o2 u2 r OY)⟩
 obtain⟨u,hu,kk⟩:=tail;refine⟨_,af (aA (i:=3) lF.nd rfl (by first|exact MX rfl|exact NR rfl) (aF WS hr rfl (aX (E:=λ_ _ _ _=>False)) (ac (pv 0) (ac (pv 1) (ac (pv 2) ae)))))
  (af (aA (i:=4) lF.nd rfl (by first|exact MX rfl|exact NR rfl) (aF WS hr rfl (aX (E:=λ_ _ _ _=>False)) (ac (pv 0) (ac (aR cN (pv 1) ap) (ac (pv 2) ae)))))
  (af (aA (i:=5) lF.nd rfl (by first|exact MX rfl|exact NR rfl) (aR cY (aF WM (hr.mono (by decide)) rfl (aX (E:=λ_ _ _ _=>False)) (ac (pv 0) (ac (aR cN (pv 1) ap) ae))) ap))
  (af (aQ (ay dU (pv 5) ap (aI _)) (al (aA (i:=4) lF.nd rfl (by first|exact MX rfl|exact NR rfl) (bp jQ rfl T.t.list gY (ac (pv 3) ae)))) az) hu))),?_⟩
 refine⟨_,rfl,_,rfl,_,rfl,a,k,many,rfl,hs,m1,m4,λsa MF H1 s1 o1 u1=>?_⟩;refine⟨_,rfl,_,rfl,_,_,rfl,rfl,_,rfl,a,_,many,rfl,hs.same s1,m1,m4,λsb MH H2 s2 o2 u2=>?_⟩;refine⟨_,rfl,_,rfl,_,_,rfl,rfl,a,_,rfl,hs.same (s1.trans s2),λm _ _=>⟨_,_,rfl,rfl,by show(0:Int)<5;decide,?_⟩⟩;refine⟨_,rfl,rfl,_,rfl,?_⟩;refine md (λ_=>?_) (λ_=>?_)
 .obtain⟨ys,hl,py⟩:=OL.same s2 o1;refine⟨_,rfl,sa,ys,rfl,.inl (MA.of hl),λc hc=>?_⟩;have s3:=ai hc (.lst ys);exact kk _ _ _ ⟨sa,c,MF,MF,_,rfl,⟨_,rfl⟩,s1.trans (s2.trans s3),OL.same (s2.trans s3) o1,OL.new hc py,u1,u1⟩ (λ_ _ z=>z.elim) (λ_ _ q=>q)
 .exact kk _ _ _ ⟨sa,sb,MF,MH,_,rfl,⟨_,rfl⟩,s1.trans s2,OL.same s2 o1,o2,u1,u2⟩ (λ_ _ z=>z.elim) (λ_ _ q=>q)
end
end Ord
namespace L2
open PySem PySem.Spec PyProof.Rows
theorem EY (h:Nr X f r)(h':Nr X f r'):Nr X f (λx y H Q=>r x y H Q\/r' x y H Q):=λaa s σ H x y v u Q I rx ry q=>q.elim (h aa s σ H x y v u Q I rx ry) (h' aa s σ H x y v u Q I rx ry)
end L2
namespace Ord
open PySem L2 Mx
abbrev dS (H:Hp)(Pt:D'):Prop:=fA H Pt (jC (fB bV)) qJ
theorem zR {M7:Bk.am}(r:j1 M7)(nd:M7.Nodup):Bk.cy M7:=by
 refine List.Pairwise.imp₂ (λa b h1 h2=>?_) r nd;rcases Bk.tL a b with h|h|h
 .exact h
 .exact Mw h h2
 .rw[kA h] at h1;cases h1
section
theorem Id (T:dS H Pt)(s:cr Pt H H')(B:Oh K H x m rs f):Oh K H' x m rs f:=by
 obtain⟨ps,hT,_⟩:=T;obtain⟨b,l,xs,e,q,ql,pr⟩:=B.ex;exact⟨⟨b,l,xs,e,s.l.OG (jD hT) q,s.l.OH (kB hT) ql,aD (λ_ _ z=>s.l.room (jD hT) z) pr⟩⟩
theorem EZ (T:dS H Pt)(s:cr Pt H H')(h:RN K H a):RN K H' a:=by
 obtain⟨ps,hT,_⟩:=T;obtain⟨ns,q⟩:=h;exact⟨ns,s.l.OH (kB hT) q⟩
theorem Ie (T:dS H Pt)(s:cr Pt H H')(h:au.rep K H x o):au.rep K H' x o:=by
 obtain⟨ps,hT,_⟩:=T;obtain⟨a,rfl,q⟩:=cj h;exact cg (s.l.OG (jD hT) q)
theorem neT (T:dS H Pt)(h:H a=some o)(n:∀ps,o≠.Pu ps):a≠Pt:=by
 obtain⟨ps,hT,_⟩:=T;rintro rfl;rw[hT] at h;cases h;exact n _ rfl
theorem Xa {os:Bk.am}(T:dS H Pt)(s:cr Pt H H')(h:OL K H a os):OL K H' a os:=by
 obtain⟨ys,q,p⟩:=h;exact⟨ys,s _ _ (neT T q λ_ z=>nomatch z) q,aD (λ_ _ z=>Ie T s z) p⟩
def PV (K:Mi)(H:Hp)(l:D')(many:Nat)(SU:List Bk.am):Prop:=∃xs,H l=some (.lst xs)/\MC (λv os=>Oh K H v many (aW many os).1 (aW many os).2) xs SU
theorem PV.t (T:dS H Pt)(s:cr Pt H H')(h:PV K H l many SU):PV K H' l many SU:=by
 obtain⟨xs,q,p⟩:=h;exact⟨xs,s _ _ (neT T q λ_ z=>nomatch z) q,aD (λ_ _ z=>Id T s z) p⟩
theorem PV.same (s:ar H H')(h:PV K H l many SU):PV K H' l many SU:=by
 obtain⟨xs,q,p⟩:=h;exact⟨xs,s _ _ q,aD (λ_ _ z=>z.same s) p⟩
theorem PV.rep (h:PV K H l many SU):(gG lD).rep K H (.ref l) (SU.map λos=>xz many (aW many os)):=by
 obtain⟨xs,q,p⟩:=h;refine⟨l,xs,rfl,MA.of q,?_⟩;clear q
 induction p with
 | nil=>exact .nil
 | cons h _ ih=>exact .cons (mL h) ih
theorem PV.two (h:PV K H l many [MF,MH]):∃x1 x2,H l=some (.lst [x1,x2])/\Oh K H x1 many (aW many MF).1 (aW many MF).2/\Oh K H x2 many (aW many MH).1 (aW many MH).2:=by
 obtain⟨xs,q,p⟩:=h;cases p with
 | cons h1 p=>
  cases p with
  | cons h2 p=>
   cases p;exact⟨_,_,q,h1,h2⟩
theorem ar.t (s:ar H H'):cr Pt H H':=λb o _ e=>s b o e
end
theorem uM:¬Ou m [[(0,5)]] 2:=λh=>by
 have:=(h.fo 0 [(0,5)] rfl).1.2.all (0,5) (by simp);have h2:=this.2.2.2;revert h2;decide
section
variable {K:Mi}{H:Hp}{Pt:D'}{CB:D'}{CU:D'}{CR:D'}{Q:VK}{E:XK} in
theorem mO {word:Me}{x1 x2:V}{m1 m2:Int}{Mo Mj:List Bk.Mg}{f1 f2:Int}(hw:word="part"\/∃cl,Qy word=some cl)(B1:Oh K H x1 m1 Mo f1)(B2:Oh K H x2 m2 Mj f2)(l1:Mo.length<70)(l2:Mj.length<70)(hb:¬(Ou m1 Mo f1/\Ou m2 Mj f2)->∀H',ar H H'->Q (.str "book") H')(hu:Ou m1 Mo f1->Ou m2 Mj f2->m1≠m2/\∀H',ar H H'->Q (.str "unlike") H'):gE K Pt CB CU CR [.str word,x1,x2] H Q E:=by
 refine⟨word,x1,x2,rfl,?_⟩;have gb:¬(Ou m1 Mo f1/\Ou m2 Mj f2)->∀H',ar H H'->rK CB CU CR Q (.ref CB) none H':=λn H1 s1=>.inl ⟨rfl,λH2 s2=>hb n H2 (s1.trans s2)⟩;have gu:Ou m1 Mo f1->Ou m2 Mj f2->m1≠m2->∀H',ar H H'->rK CB CU CR Q (.ref CU) none H':=λa b _ H1 s1=>.inr (.inl ⟨rfl,λH2 s2=>(hu a b).2 H2 (s1.trans s2)⟩);rcases hw with rfl|⟨cl,hw⟩
 .exact .inr ⟨rfl,x1,x2,m1,m2,Mo,Mj,f1,f2,rfl,B1,B2,l1,l2,gb,gu,λa b e=>Mw e (hu a b).1⟩
 .refine .inl ⟨?_,word,x1,x2,rfl,.inr ⟨cl,m1,m2,Mo,Mj,f1,f2,hw,B1,B2,l1,l2,gb,gu,λa b e=>Mw e (hu a b).1⟩⟩;rintro rfl;exact nomatch (show(none:Option Bk.Cl)=some cl from hw)
variable {CR:D'} in
theorem zS (h:∀H',ar H H'->Q (.str "rule") H'):gE K Pt CB CU CR [.str "xor",x1,x2] H Q E:=
 ⟨_,x1,x2,rfl,.inl ⟨by decide,_,x1,x2,rfl,.inl ⟨rfl,.inr (.inr ⟨rfl,h⟩)⟩⟩⟩
variable {K:Mi}{H:Hp}{Pt:D'}{CB:D'}{CU:D'}{CR:D'}{Q:VK}{E:XK}{many:Nat}{MF:Bk.am}{MH:Bk.am}{os:Bk.am} in
theorem zT {word:Me}{cl:Bk.Cl}{x1 x2:V}(hw:Qy word=some cl)(c0:(0,0)∉cl)(m4:many<=4)(S1:Bk.Nn many MF)(S2:Bk.Nn many MH)(S:Bk.Nn many os)(D:Due cl MF MH os)(B1:Oh K H x1 many (aW many MF).1 (aW many MF).2)(B2:Oh K H x2 many (aW many MH).1 (aW many MH).2)(T:dS H Pt)(h:∀(t lr:D') (H':Hp),cr Pt H H'->dS H' Pt->Uo K H H' t lr many (aW many os).1 (aW many os).2->Q (.ref t) H'):gE K Pt CB CU CR [.str word,x1,x2] H Q E:=by
 have o1:=fL (Nn.whole S1);have o2:=fL (Nn.whole S2);have e:=uK c0 m4 S1 S2 S D;refine⟨word,x1,x2,rfl,.inl ⟨?_,word,x1,x2,rfl,.inr ⟨cl,many,many,_,_,_,_,hw,B1,B2,dN S1,dN S2,λn=>Mw ⟨o1,o2⟩ n,λ_ _ n=>Mw rfl n,λ_ _ _=>⟨many,rfl,jok m4 S1 S2,m4,T,?_,?_⟩⟩⟩⟩
 .rintro rfl;exact nomatch (show(none:Option Bk.Cl)=some cl from hw)
 .rw[e];exact NH (dN S) (by decide)
 .rw[e];exact h
variable {K:Mi}{H:Hp}{Pt:D'}{CB:D'}{CU:D'}{Q:VK}{E:XK}{many:Nat}{MF:Bk.am}{MH:Bk.am}{os:Bk.am} in
theorem zU {x1 x2:V}(m4:many<=4)(S1:Bk.Nn many MF)(S2:Bk.Nn many MH)(S:Bk.Nn many os)(D:Due rJ MF MH os)(B1:Oh K H x1 many (aW many MF).1 (aW many MF).2)(B2:Oh K H x2 many (aW many MH).1 (aW many MH).2)(T:dS H Pt)(h0:os=[]->∀(H':Hp),cr Pt H H'->dS H' Pt->Q .MV H')(h1:∀o (r:D') (H':Hp),os[0]?=some o->cr Pt H H'->dS H' Pt->H' r=some (.tup (o.map V.int))->Q (.ref r) H'):cL K Pt CB CU [x1,x2] H Q E:=by
 have o1:=fL (Nn.whole S1);have o2:=fL (Nn.whole S2);have e:=uK (by decide) m4 S1 S2 S D;refine⟨x1,x2,many,many,_,_,_,_,rfl,B1,B2,dN S1,dN S2,λn=>Mw ⟨o1,o2⟩ n,λ_ _ n=>Mw rfl n,λ_ _ _=>⟨many,_,rfl,jok m4 S1 S2,m4,T,e,NH (dN S) (by decide),?_⟩⟩
 by_cases ne:os=[]
 .exact .inl ⟨(uL S).mpr ne,h0 ne⟩
 .obtain⟨g0,o,ho,wf,gl,hh,ol⟩:=zQ S ne;exact .inr ⟨g0,o,wf,gl,hh,ol,λr H1 s1 T1 q=>h1 o r H1 ho s1 T1 q⟩
end
abbrev bD (i:Nat):Mv:=(cm du).getD i (.Pass ⟨0,0,0,0⟩)
abbrev NW:List Me:=["_law_script","_law_many","_law_one","_law_other","_law_books","_law_kept","_law_every","_law_due","_law_word","_law_third","_law_bad"]
theorem dJ:NE NW ["_law_script"] (ak du):=⟨rfl,rfl,rfl,by decide +kernel,rfl,by decide +kernel,by decide +kernel⟩
abbrev XL (P:MD)(w:Mt)(K:Mi)(mg:Me->Option G')(base:Mp)(f:D')(MB:G')(A:ML)(outer:List NK)(s:Md)(H:Hp)(E:XK):Cx:=(cH MM P w K mg base NW "law" (ak du) f MB A outer s H E).Qt
abbrev RT:VK:=λv _=>v=.bl true
abbrev RM (n:Nat)(A:ML)(s:Md)(f:D')(MB:G'):Prop:=Mg n (A.deeper (Pl "law" (ak du) s.heap.objs.size f MB))
section
def D0 (K:Mi)(Pt:D'):St->Hp->Prop:=λσ H=>∃a:D',σ=[some (.ref a),none,none,none,none,none,none,none,none,none,none]/\RN K H a/\dS H Pt
structure TH (K)(Pt)(H)(a sa sb)(many:Nat)(MF MH):Prop where
 Xb:RN K H a
 tab:dS H Pt
 m4:many<=4
 S1:Bk.Nn many MF
 S2:Bk.Nn many MH
 o1:OL K H sa MF
 o2:OL K H sb MH
theorem TH.t (h:TH K Pt H a sa sb many MF MH)(s:cr Pt H H')(T:dS H' Pt):TH K Pt H' a sa sb many MF MH:=⟨EZ h.tab s h.Xb,T,h.m4,h.S1,h.S2,Xa h.tab s h.o1,Xa h.tab s h.o2⟩
theorem TH.same (h:TH K Pt H a sa sb many MF MH)(s:ar H H'):TH K Pt H' a sa sb many MF MH:=h.t (ar.t s) (gm s h.tab)
def D1 (K:Mi)(Pt:D'):St->Hp->Prop:=λσ H=>∃(a sa sb:D') (many:Nat) (MF MH:Bk.am),σ=[some (.ref a),some (.int (many:Int)),some (.ref sa),some (.ref sb),none,none,none,none,none,none,none]/\TH K Pt H a sa sb many MF MH
def D3 (K:Mi)(Pt:D'):St->Hp->Prop:=λσ H=>∃(a sa sb lb lk:D') (many:Nat) (MF MH:Bk.am),σ=[some (.ref a),some (.int (many:Int)),some (.ref sa),some (.ref sb),some (.ref lb),some (.ref lk),none,none,none,none,none]/\TH K Pt H a sa sb many MF MH/\PV K H lb many [MF,MH]/\PV K H lk many [MF,MH]
theorem Jk (hr:RM 14 A s f MB)(WM:Df P w K mg base MM 2 "_law_mix" ["_law_script","_law_k"] (lE K))(W2:Df P w K mg base MM 4 "_law_two" ["_law_script","_law_k","_law_many"] (xE K))(h:QU (XL P w K mg base f MB A outer s H0 E) RT rest (D1 K Pt) B):QU (XL P w K mg base f MB A outer s H0 E) RT (bD 0::bD 1::rest) (D0 K Pt) B:=by
 obtain⟨u,hu,kk⟩:=h;refine⟨_,af (aA (i:=1) dJ.nd rfl (by first|exact MX rfl|exact NR rfl) (aR cN ap (aR cY (aF WM (hr.mono (by decide)) rfl (aX (E:=λ_ _ _ _=>False)) (ac (pv 0) (ac ap ae))) ap)))
  (af (DF (aF W2 (hr.mono (by decide)) rfl (aX (E:=λ_ _ _ _=>False)) (ac (pv 0) (ac ap (ac (pv 1) ae)))) (xR rfl (je (cB (i:=2) dJ.nd rfl (by first|exact MX rfl|exact NR rfl)) (je (cB (i:=3) dJ.nd rfl (by first|exact MX rfl|exact NR rfl)) vd)))) hu),λD σ H b qn qr=>?_⟩
 obtain⟨a,rfl,hs,tj⟩:=b;refine⟨_,rfl,a,0,rfl,hs,λm0 h0 h1=>⟨_,_,rfl,rfl,by show(0:Int)<4;decide,_,_,rfl,rfl,?_⟩⟩;obtain⟨many,hm⟩:∃many:Nat,1+m0 % 4=(many:Int):=⟨(1+m0 % 4).toNat,by lia⟩
 have m1:1<=many:=by lia
 have m4:many<=4:=by lia
 dsimp only;rw[hm];refine⟨_,rfl,_,rfl,a,10,many,rfl,hs,m1,m4,λr sa sb MF MH H1 s1 Vq o1 o2 u1 u2=>?_⟩;refine⟨r,_,rfl,MR.of Vq,rfl,_,_,rfl,_,_,rfl,rfl,?_⟩;exact kk D _ _ ⟨a,sa,sb,many,MF,MH,rfl,hs.same s1,gm s1 tj,m4,Bk.Nn.of m1 m4 u1,Bk.Nn.of m1 m4 u2,o1,o2⟩ qn qr
theorem Jl (hr:RM 14 A s f MB)(T:N9 K mg CO)(WB:Df P w K mg base (Nb P w) 12 "book_of" ["many","orders"] (jz K))(h:QU (XL P w K mg base f MB A outer s H0 E) RT rest (D3 K Pt) B):QU (XL P w K mg base f MB A outer s H0 E) RT (bD 2::bD 3::rest) (D1 K Pt) B:=by
 obtain⟨u,hu,kk⟩:=h;refine⟨_,af (aA (i:=4) dJ.nd rfl (by first|exact MX rfl|exact NR rfl) (bt (ac (aF WB (hr.mono (by decide)) rfl gv (ac (pv 1) (ac (pv 2) ae))) (ac (aF WB (hr.mono (by decide)) rfl gv (ac (pv 1) (ac (pv 3) ae))) ae))))
  (af (lh (i0:=5) dJ.nd rfl (by first|exact MX rfl|exact NR rfl) rfl (show Qb (ak du) NW _ _ from by constructor <;> decide +kernel) (cu (pv 4)) (λ_ _ _ _ _ _=>kO)
   (λcl C M1 NF fp aa=>cb (ac (aJ (show Nl _ (bF K) from bc) (pv 0) ap (λ_ _=>rfl)) (ac (bp (show cC _ _ (λxs H Q=>∃p ys,xs=[V.ref p]/\(MA K H p ys\/MR K H p ys)/\∀l,H l=none->Q (V.ref l) (upd H l (.lst ys))) from jQ) rfl T.t.list gY (ac (aJ (show Nl _ (bF K) from bc) (pv 0) ap (λ_ _=>rfl)) ae)) (ac (aJ (show Nl _ (bF K) from bc) (pv 0) ap (λ_ _=>rfl)) ae)))) rfl) hu),λD σ H b qn qr=>?_⟩
 obtain⟨a,sa,sb,many,MF,MH,rfl,tw⟩:=b;have m1:=tw.S1.m1;have m4:=tw.m4;have l1:=tw.S1.len;have l2:=tw.S2.len;obtain⟨Xc,hy1,py1⟩:=tw.o1;refine⟨_,rfl,_,rfl,many,sa,Xc,MF,rfl,MA.of hy1,py1,λo ho=>mK m1 (by lia) (tw.S1.mem o ho),m1,by lia,by lia,λt1 lr1 H1 s1 b1=>?_⟩;obtain⟨Xd,hy2,py2⟩:=(tw.same s1).o2;refine⟨_,rfl,_,rfl,many,sb,Xd,MH,rfl,MA.of hy2,py2,λo ho=>mK m1 (by lia) (tw.S2.mem o ho),m1,by lia,by lia,λt2 lr2 H2 s2 b2=>?_⟩;refine⟨by show 2<=Mz;decide,λlb hlb=>?_⟩;have s3:=ai hlb (.lst [.ref t1,.ref t2]);have Y5:=tw.same (s1.trans (s2.trans s3));have bk3:PV K (upd H2 lb (.lst [.ref t1,.ref t2])) lb many [MF,MH]:=⟨_,ag,.cons (b1.a.same (s2.trans s3)) (.cons (b2.a.same s3) .nil)⟩
 generalize (upd H2 lb (.lst [.ref t1,.ref t2]))=H3 at s3 Y5 bk3 ⊢;obtain⟨xs,hx,px⟩:=id bk3;have xl:=px.length;refine⟨_,rfl,lb,rfl,⟨_,MA.of hx⟩,fU (K:=K) (a:=lb) (xs:=xs) (λi zs H4=>ar H3 H4/\zs.length=i/\MC (λv os=>Oh K H4 v many (aW many os).1 (aW many os).2) zs ([MF,MH].take i)) ⟨ar.refl _,rfl,.nil⟩ ?_ (by rw[Nf,xl];show 2<=16777216;decide) ?_ ?_⟩
 .rintro i zs H4 _ ⟨s4,zl,_⟩;exact⟨MA.of (s4 _ _ hx),by lia⟩
 .rintro i y zs H4 hy ⟨s4,zl,pz⟩;obtain⟨os,NB,bk⟩:=cp px hy;obtain⟨b,l,rs,rfl,q,ql,pr⟩:=(bk.same s4).ex;refine goT (aV ?_);refine⟨_,rfl,b,_,0,_,rfl,rfl,q,hV,_,rfl,b,_,1,_,rfl,rfl,q,jp,l,rs,rfl,.inl ql,λl2 NC=>?_⟩;have s5:=ai NC (.lst rs);refine⟨_,rfl,b,_,2,_,rfl,rfl,s5.Oq q,tV,by show 3<=Mz;decide,λu Y6=>?_⟩;have s6:=ai Y6 (.tup [.int (many:Int),.ref l2,.int ((aW many os).2:Int)]);have s56:=s5.trans s6;refine⟨s4.trans s56,by rw[NQ];show zs.length+1=i+1;lia,?_⟩;rw[bU NB];exact cJ (aD (λ_ _ z=>z.same s56) pz) (.cons ⟨⟨u,l2,rs,rfl,MR.of ag,MA.of (s6 _ _ ag),aD (λ_ _ z=>z.same s56) pr⟩⟩ .nil)
 .rintro zs H4 p ⟨s4,zl,pz⟩ hp;have s5:=ai hp (.lst zs);rw[xl] at pz;exact kk D _ _ ⟨a,sa,sb,lb,p,many,MF,MH,rfl,Y5.same (s4.trans s5),bk3.same (s4.trans s5),⟨zs,ag,aD (λ_ _ z=>z.same s5) pz⟩⟩ qn qr
structure Ev (many:Nat)(MF MH ev:Bk.am):Prop where
 S:Bk.Nn many ev
 mem:∀o,o∈ev↔o∈MF\/o∈MH
def D4 (K:Mi)(Pt:D'):St->Hp->Prop:=λσ H=>∃(a sa sb lb lk le:D') (many:Nat) (MF MH ev:Bk.am),σ=[some (.ref a),some (.int (many:Int)),some (.ref sa),some (.ref sb),some (.ref lb),some (.ref lk),some (.ref le),none,none,none,none]/\TH K Pt H a sa sb many MF MH/\PV K H lb many [MF,MH]/\PV K H lk many [MF,MH]/\Ev many MF MH ev/\OL K H le ev
theorem zV {os:Bk.am}(m1:1<=many)(m4:many<=4)(nd:os.Nodup)(h:∀o∈os,o∈Bk.cT many):os.length<=24:=OT (cx os _ nd h) (Bk.jE many (Bk.in4 m1 m4))
theorem Jm (hr:RM 14 A s f MB)(T:N9 K mg CO):HS (XL P w K mg base f MB A outer s H0 E) RT (bD 4) (D3 K Pt) (D4 K Pt):=by
 refine⟨_,aA (i:=6) dJ.nd rfl (by first|exact MX rfl|exact NR rfl) (aE (tK rfl) rfl T.t.sorted gZ (ac
    (bp (qk au (itE P w) (by have:=hr.un;show(A.deeper _).units+1+1+1<MQ;lia) rfl (λI h=>nA I h) (λ⟨p,_,e,_⟩=>⟨p,e⟩)) rfl T.set rF (ac
     (aR se (pv 2) (pv 3)) ae)) ae)),λD σ H b qn qr=>?_⟩
 obtain⟨a,sa,sb,lb,lk,many,MF,MH,rfl,tw,bb,bk⟩:=b;have m1:=tw.S1.m1;have m4:=tw.m4;have l1:=tw.S1.len;have l2:=tw.S2.len;obtain⟨Xc,hy1,py1⟩:=tw.o1;obtain⟨Xd,hy2,py2⟩:=tw.o2;have e1:=py1.length;have e2:=py2.length;refine⟨_,rfl,_,rfl,sa,sb,_,_,rfl,rfl,hy1,hy2,by rw[Nf];lia,λc hc=>?_⟩;have s1:=ai hc (.lst (Xc++Xd));have pk:MC (au.rep K (upd H c (.lst (Xc++Xd)))) (Xc++Xd) (MF++MH):=cJ (aD (λ_ _ z=>au.mono s1 z) py1) (aD (λ_ _ z=>au.mono s1 z) py2);refine⟨.ref c,MF++MH,rfl,⟨c,_,rfl,MA.up,pk⟩,by rw[NQ];lia,λp bs N8 hp pb nd mem=>?_⟩;generalize (upd H c (.lst (Xc++Xd)))=H1 at s1 hp pb ⊢;have s2:=ai hp (hJ w p bs);have all:∀o∈N8,o∈Bk.cT many:=λo ho=>(Ny.mp ((mem o).mp ho)).elim (tw.S1.mem o) (tw.S2.mem o);have kl:=zV m1 m4 nd all;refine⟨p,bs,N8,rfl,ag,aD (λ_ _ z=>au.mono s2 z) pb,λo ho=>?_,by lia,λl RJ OB hl YX perm QS=>?_⟩
 .have:=(Bk.gn m1 (by lia) (all o ho)).1;intro e;subst e;simp at this;lia
 have s3:=ai hl (.lst RJ);have st:=s1.trans (s2.trans s3);have UF:OB.Nodup:=perm.nodup_iff.mpr nd;have pl:=perm.length_eq;exact qn _ _ ⟨a,sa,sb,lb,lk,l,many,MF,MH,OB,rfl,tw.same st,bb.same st,bk.same st,⟨⟨m1,by lia,λo ho=>all o (perm.mem_iff.mp ho),zR QS UF,by lia,λe=>by lia⟩,λo=>perm.mem_iff.trans ((mem o).trans Ny)⟩,OL.new hl YX⟩
end
theorem kE (h:Qy x=some cl):(x="or"/\cl=[(1,0),(0,1),(1,1)])\/(x="and"/\cl=[(1,1)])\/(x="less"/\cl=[(1,0)])\/(x="odd"/\cl=[(1,0),(0,1)]):=by
 unfold Qy at h
 split at h
 .cases h;exact .inl ⟨by assumption,rfl⟩
 .split at h
  .cases h;exact .inr (.inl ⟨by assumption,rfl⟩)
  .split at h
   .cases h;exact .inr (.inr (.inl ⟨by assumption,rfl⟩))
   .split at h
    .cases h;exact .inr (.inr (.inr ⟨by assumption,rfl⟩))
    .cases h
theorem Ig (h:Qy x=some cl):(0,0)∉cl:=by
 rcases kE h with⟨_,rfl⟩|⟨_,rfl⟩|⟨_,rfl⟩|⟨_,rfl⟩ <;> decide
theorem kF {os os':Bk.am}(S:Bk.Nn many os)(h:os'.Sublist os):Bk.Nn many os' where
 m1:=S.m1
 m5:=S.m5
 mem:=λo ho=>S.mem o (h.subset ho)
 QS:=List.Pairwise.sublist h S.QS
 len:=OT h.length_le S.len
 RD:=λe=>OT h.length_le (S.RD e)
section
theorem OL.put {os:Bk.am}(h:OL K H a os)(hd:H d=some o)(so:eW o)(n:a≠d):OL K (upd H d o') a os:=by
 obtain⟨ys,q,p⟩:=h;refine⟨ys,by rw[ao n];exact q,aD (λ_ _ z=>?_) p⟩;obtain⟨b,rfl,qb⟩:=cj z;exact cg (qb.soft hd so)
theorem kH {os:Bk.am}(keep:List Int->Bool)(ol:OL K H la os)(MW:os.length<=24)(step:∀x o (R:Bool->Hp->Prop),au.rep K H x o->R (keep o) H->tt (some x::σ) H R)(done:∀p zs,H p=none->OL K (upd H p (.lst zs)) p (os.filter keep)->Q (.ref p) (upd H p (.lst zs))):∃a,V.ref la=.ref a/\(∃xs,MA K H a xs)/\kN (Vd K a) σ tt (dF 0) Q H:=by
 obtain⟨ys,hl,py⟩:=ol;have hlen:=py.length;refine⟨la,rfl,⟨_,MA.of hl⟩,fU (K:=K) (a:=la) (xs:=ys) (λi zs H3=>H3=H/\zs.length<=i/\MC (au.rep K H) zs ((os.take i).filter keep)) ⟨rfl,NX _,.nil⟩ ?_ (by rw[Nf];lia) ?_ ?_⟩
 .rintro i zs H3 _ ⟨rfl,zl,_⟩;exact⟨MA.of hl,zl⟩
 .rintro i y zs H3 hy ⟨rfl,zl,po⟩;obtain⟨o,ho,ro⟩:=cp py hy;refine step y o _ ro ?_;rw[bU ho,VO]
  by_cases k:keep o=true
  .rw[k];refine aV ⟨_,rfl,rfl,by rw[NQ];show zs.length+1<=i+1;lia,cJ po ?_⟩;rw[SZ k,List.filter_nil];exact .cons ro .nil
  .rw[ZJ.mpr k];refine aK ⟨rfl,by lia,?_⟩;rw[VD k,List.filter_nil,QD];exact po
 .rintro zs H3 p ⟨rfl,_,po⟩ hp;rw[hlen,QB] at po;exact done p zs hp (OL.new hp po)
def xF (K:Mi)(H:Hp)(dd:D')(many:Nat)(MF MH:Bk.am):Prop:=∃kvs,H dd=some (.dK kvs)/\∀word cl,Qy word=some cl->∃l os,ce kvs (.inr word)=some (.ref l)/\OL K H l os/\Bk.Nn many os/\Due cl MF MH os
theorem xF.t (T:dS H Pt)(s:cr Pt H H')(h:xF K H dd many MF MH):xF K H' dd many MF MH:=by
 obtain⟨kvs,q,z⟩:=h;refine⟨kvs,s _ _ (neT T q λ_ z=>nomatch z) q,λword cl hw=>?_⟩;obtain⟨l,os,h1,h2,h3⟩:=z word cl hw;exact⟨l,os,h1,Xa T s h2,h3⟩
end
section
structure Dr (K)(Pt)(H)(a lb lk dd)(many:Nat)(MF MH):Prop where
 Xb:RN K H a
 tab:dS H Pt
 m4:many<=4
 S1:Bk.Nn many MF
 S2:Bk.Nn many MH
 bb:PV K H lb many [MF,MH]
 bk:PV K H lk many [MF,MH]
 Vv:xF K H dd many MF MH
theorem Dr.t (h:Dr K Pt H a lb lk dd many MF MH)(s:cr Pt H H')(T:dS H' Pt):Dr K Pt H' a lb lk dd many MF MH:=⟨EZ h.tab s h.Xb,T,h.m4,h.S1,h.S2,h.bb.t h.tab s,h.bk.t h.tab s,h.Vv.t h.tab s⟩
theorem Dr.same (h:Dr K Pt H a lb lk dd many MF MH)(s:ar H H'):Dr K Pt H' a lb lk dd many MF MH:=h.t (ar.t s) (gm s h.tab)
def D7 (K:Mi)(Pt:D'):St->Hp->Prop:=λσ H=>∃(a lb lk dd:D') (v2 v3 v6:V) (v8:Option V) (many:Nat) (MF MH:Bk.am),σ=[some (.ref a),some (.int (many:Int)),some v2,some v3,some (.ref lb),some (.ref lk),some v6,some (.ref dd),v8,none,none]/\Dr K Pt H a lb lk dd many MF MH
theorem lG {os:Bk.am}:os.any (λa=>decide (a=o))=decide (o∈os):=by
 rw[Ta];simp
theorem Jn (hr:RM 14 A s f MB)(h:QU (XL P w K mg base f MB A outer s H0 E) RT rest (D7 K Pt) B):QU (XL P w K mg base f MB A outer s H0 E) RT (bD 5::bD 6::bD 7::rest) (D4 K Pt) B:=by
 have Y6:(A.deeper (Pl "law" (ak du) s.heap.objs.size f MB)).units+64<MQ:=hr.units;have TK:(A.deeper (Pl "law" (ak du) s.heap.objs.size f MB)).units+1<MQ:=by lia
 have Y2:(A.deeper (Pl "law" (ak du) s.heap.objs.size f MB)).units+1+1<MQ:=by lia
 obtain⟨u,hu,kk⟩:=h;refine⟨_,af (aA (i:=7) dJ.nd rfl (by first|exact MX rfl|exact NR rfl) (o0 (fY aU (pv 6) (fY aU
    (fE rfl (show Qb (ak du) NW _ _ from by constructor <;> decide +kernel) (cu (pv 2)) (λ_ _ _ _ _ _=>eI (ay (show Nr _ _ (sG au K false) from Ec au Y2) (pv 0) (pv 4) rfl)) (λcl C M1 NF fp aa=>pv 0) dJ.nd) oZ)) rfl rfl (by decide) (by decide)))
  (af (oY TK (pv 7) aU
    (fE rfl (show Qb (ak du) NW _ _ from by constructor <;> decide +kernel) (cu (pv 2)) (λ_ _ _ _ _ _=>eI (ay (show Nr _ _ (sG au K true) from jV au Y2) (pv 0) (pv 4) rfl)) (λcl C M1 NF fp aa=>pv 0) dJ.nd) rfl)
  (af (oY TK (pv 7) aU
    (fE rfl (show Qb (ak du) NW _ _ from by constructor <;> decide +kernel) (cu (pv 6)) (λ_ _ _ _ _ _=>eI (ay (show Nr _ _ (sG au K true) from jV au Y2) (pv 0) (iX TK (pv 8) aU (λ_ _=>rfl)) rfl)) (λcl C M1 NF fp aa=>pv 0) dJ.nd) rfl) hu)),λD σ H b qn qr=>?_⟩
 obtain⟨a,sa,sb,lb,lk,le,many,MF,MH,ev,rfl,tw,bb,bk,ve,oe⟩:=b;have l1:=tw.S1.len;have afY:=ve.S.len;intro dd hdd;have s1:=ai hdd (.dK []);have h1:(upd H dd (.dK [])) dd=some (.dK []):=ag;generalize (upd H dd (.dK []))=H1 at s1 h1 ⊢;have tw1:=tw.same s1;refine⟨_,rfl,_,rfl,kH (λo=>MH.any (λa=>decide (a=o))) tw1.o1 l1 (λx o R ro q=>?_) (λd2 zs2 hd2 o2=>?_)⟩
 .exact⟨_,rfl,_,rfl,o,MH,ro,tw1.o2.rep,_,rfl,q⟩
 have s2:=ai hd2 (.lst zs2);have Y3:d2≠dd:=(aq h1 hd2).symm;have h2:=s2 _ _ h1;generalize (upd H1 d2 (.lst zs2))=H2 at s2 o2 h2 ⊢;refine⟨h2,[(.inr "or",.ref le),(.inr "and",.ref d2)],rfl,by show 2<=15;decide,?_⟩;have o2':OL K (upd H2 dd (.dK (dL [] [(.inr "or",.ref le),(.inr "and",.ref d2)]))) d2 _:=o2.put h2 trivial Y3;have s3:ar H (upd H2 dd (.dK (dL [] [(.inr "or",.ref le),(.inr "and",.ref d2)]))):=λb o e=>by
  rw[ao (aq e hdd)];exact s2 _ _ (s1 _ _ e)
 have h3:(upd H2 dd (.dK (dL [] [(.inr "or",.ref le),(.inr "and",.ref d2)]))) dd=some (.dK [(.inr "or",.ref le),(.inr "and",.ref d2)]):=ag;generalize (upd H2 dd (.dK (dL [] [(.inr "or",.ref le),(.inr "and",.ref d2)])))=H3 at o2' s3 h3 ⊢;have Y5:=tw.same s3;refine⟨_,rfl,kH (λo=>!MH.any (λa=>decide (a=o))) Y5.o1 l1 (λx o R ro q=>?_) (λd3 zs3 hd3 o3=>?_)⟩
 .exact⟨_,rfl,_,rfl,o,MH,ro,Y5.o2.rep,_,rfl,q⟩
 have s4:=ai hd3 (.lst zs3);have nd3:d3≠dd:=(aq h3 hd3).symm;have h4:=s4 _ _ h3;have o24:=OL.same s4 o2';generalize (upd H3 d3 (.lst zs3))=H4 at s4 o3 h4 o24 ⊢;refine⟨_,rfl,dd,_,rfl,.inl ⟨_,.inr "less",h4,rfl,by rw[Nf];show 2<16777216;decide,rfl⟩,?_⟩;have Y7:OL K (upd H4 dd (.dK (bP [(.inr "or",.ref le),(.inr "and",.ref d2)] (.inr "less") (.ref d3)))) d2 _:=o24.put h4 trivial Y3;have Nc:OL K (upd H4 dd (.dK (bP [(.inr "or",.ref le),(.inr "and",.ref d2)] (.inr "less") (.ref d3)))) d3 _:=o3.put h4 trivial nd3;have s5:ar H (upd H4 dd (.dK (bP [(.inr "or",.ref le),(.inr "and",.ref d2)] (.inr "less") (.ref d3)))):=λb o e=>by
  rw[ao (aq e hdd)];exact s4 _ _ (s3 _ _ e)
 have h5:(upd H4 dd (.dK (bP [(.inr "or",.ref le),(.inr "and",.ref d2)] (.inr "less") (.ref d3)))) dd=some (.dK [(.inr "or",.ref le),(.inr "and",.ref d2),(.inr "less",.ref d3)]):=ag;generalize (upd H4 dd (.dK (bP [(.inr "or",.ref le),(.inr "and",.ref d2)] (.inr "less") (.ref d3))))=H5 at Y7 Nc s5 h5 ⊢;refine⟨_,rfl,kH (λo=>!(MF.filter λo=>MH.any (λa=>decide (a=o))).any (λa=>decide (a=o))) (OL.same s5 oe) afY (λx o R ro q=>?_) (λd4 zs4 hd4 o4=>?_)⟩
 .exact⟨_,rfl,_,rfl,dd,.ref d2,rfl,eS.k (k:=.inr "and") h5,o,_,ro,Y7.rep,_,rfl,q⟩
 have s6:=ai hd4 (.lst zs4);have nd4:d4≠dd:=(aq h5 hd4).symm;have h6:=s6 _ _ h5;have o26:=OL.same s6 Y7;have Y8:=OL.same s6 Nc;generalize (upd H5 d4 (.lst zs4))=H6 at s6 o4 h6 o26 Y8 ⊢;refine⟨_,rfl,dd,_,rfl,.inl ⟨_,.inr "odd",h6,rfl,by rw[Nf];show 3<16777216;decide,rfl⟩,?_⟩;have o27:OL K (upd H6 dd (.dK (bP [(.inr "or",.ref le),(.inr "and",.ref d2),(.inr "less",.ref d3)] (.inr "odd") (.ref d4)))) d2 _:=o26.put h6 trivial Y3;have Y9:OL K (upd H6 dd (.dK (bP [(.inr "or",.ref le),(.inr "and",.ref d2),(.inr "less",.ref d3)] (.inr "odd") (.ref d4)))) d3 _:=Y8.put h6 trivial nd3;have o47:OL K (upd H6 dd (.dK (bP [(.inr "or",.ref le),(.inr "and",.ref d2),(.inr "less",.ref d3)] (.inr "odd") (.ref d4)))) d4 _:=o4.put h6 trivial nd4;have s7:ar H (upd H6 dd (.dK (bP [(.inr "or",.ref le),(.inr "and",.ref d2),(.inr "less",.ref d3)] (.inr "odd") (.ref d4)))):=λb o e=>by
  rw[ao (aq e hdd)];exact s6 _ _ (s5 _ _ e)
 have h7:(upd H6 dd (.dK (bP [(.inr "or",.ref le),(.inr "and",.ref d2),(.inr "less",.ref d3)] (.inr "odd") (.ref d4)))) dd=some (.dK [(.inr "or",.ref le),(.inr "and",.ref d2),(.inr "less",.ref d3),(.inr "odd",.ref d4)]):=ag;generalize (upd H6 dd (.dK (bP [(.inr "or",.ref le),(.inr "and",.ref d2),(.inr "less",.ref d3)] (.inr "odd") (.ref d4))))=H7 at o27 Y9 o47 s7 h7 ⊢;have tw7:=tw.same s7;refine kk D _ _ ⟨a,lb,lk,dd,_,_,_,none,many,MF,MH,rfl,tw7.Xb,tw7.tab,tw.m4,tw.S1,tw.S2,bb.same s7,bk.same s7,_,h7,λword cl hw=>?_⟩ qn qr;rcases kE hw with⟨rfl,rfl⟩|⟨rfl,rfl⟩|⟨rfl,rfl⟩|⟨rfl,rfl⟩
 .exact⟨le,ev,rfl,OL.same s7 oe,ve.S,EW ve.mem⟩
 .exact⟨d2,_,rfl,o27,kF tw.S1 VL,Ds λo=>by rw[O9,lG,decide_eq_true_iff]⟩
 .exact⟨d3,_,rfl,Y9,kF tw.S1 VL,BE λo=>by rw[O9,lG];simp⟩
 .exact⟨d4,_,rfl,o47,kF ve.S VL,Dt λo=>by rw[O9,lG,ve.mem];simp only[O9,lG,Bool.not_eq_true',decide_eq_false_iff_not,decide_eq_true_iff]⟩
end
theorem E1 {i:Nat}(h:[V.str "or",V.str "and",V.str "less",V.str "odd"][i]?=some y):∃word cl,y=.str word/\Qy word=some cl:=by
 match i,h with
 | 0,h=>cases h;exact⟨_,_,rfl,rfl⟩
 | 1,h=>cases h;exact⟨_,_,rfl,rfl⟩
 | 2,h=>cases h;exact⟨_,_,rfl,rfl⟩
 | 3,h=>cases h;exact⟨_,_,rfl,rfl⟩
theorem E2 (h0:0<=i)(h1:i<5):∃word,PP [V.str "or",V.str "and",V.str "less",V.str "odd",V.str "part"] i=some (.str word)/\(word="part"\/∃cl,Qy word=some cl):=by
 have:i=0\/i=1\/i=2\/i=3\/i=4:=by lia
 rcases this with rfl|rfl|rfl|rfl|rfl
 .exact⟨_,rfl,.inr ⟨_,rfl⟩⟩
 .exact⟨_,rfl,.inr ⟨_,rfl⟩⟩
 .exact⟨_,rfl,.inr ⟨_,rfl⟩⟩
 .exact⟨_,rfl,.inr ⟨_,rfl⟩⟩
 .exact⟨_,rfl,.inl rfl⟩
section
variable {P:MD}{w:Mt}{K:Mi}{mg:Me->Option G'}{base:Mp}{Pt:D'}{CB:D'}{CU:D'}{CR:D'}{f:D'}{MB:G'}{A:ML}{outer:List NK}{s:Md}{H0:Hp}{E:XK} in
theorem Jo (hr:RM 14 A s f MB)(WT:Df P w K mg base (Nb P w) 14 "_law_told" ["_law_word","_law_one","_law_other"] (gE K Pt CB CU CR))(WLB:Df P w K mg base MM 7 "_law_book" ["_law_many","_law_orders"] (pN K)):HS (XL P w K mg base f MB A outer s H0 E) RT (bD 8) (D7 K Pt) (D7 K Pt):=by
 have Y6:(A.deeper (Pl "law" (ak du) s.heap.objs.size f MB)).units+64<MQ:=hr.units;have TK:(A.deeper (Pl "law" (ak du) s.heap.objs.size f MB)).units+1<MQ:=by lia
 have hu4:(A.deeper (Pl "law" (ak du) s.heap.objs.size f MB)).units+lD.N7<MQ:=by show _+4<MQ;lia
 refine⟨_,ed Tb rfl (jN (cb (ac aU (ac aU (ac aU (ac aU ae)))))) (cB (i:=8) dJ.nd rfl (by first|exact MX rfl|exact NR rfl))
   (al (aQ (ay (nv lD hu4) (aF WT hr rfl gv (ac (pv 8) (ac (aJ (show Nl _ (dG K) from bE) (pv 4) ap (λ_ _=>rfl)) (ac (aJ (show Nl _ (dG K) from bE) (pv 4) ap (λ_ _=>rfl)) ae))))
    (aF WLB (hr.mono (by decide)) rfl (aX (E:=λ_ _ _ _=>False)) (ac (pv 1) (ac (iX TK (pv 7) (pv 8) (λ_ _=>rfl)) ae))) (aI _)) (al aZ) az)),λD σ H b qn qr=>?_⟩
 obtain⟨a,lb,lk,dd,v2,v3,v6,v8,many,MF,MH,rfl,dr⟩:=b;refine⟨by show 4<=Mz;decide,λtp htp=>?_⟩;have s1:=ai htp (.tup [V.str "or",V.str "and",V.str "less",V.str "odd"]);have h1:(upd H tp (.tup [V.str "or",V.str "and",V.str "less",V.str "odd"])) tp=some (.tup [V.str "or",V.str "and",V.str "less",V.str "odd"]):=ag;generalize (upd H tp (.tup [V.str "or",V.str "and",V.str "less",V.str "odd"]))=H1 at s1 h1 ⊢;refine⟨tp,rfl,⟨_,MR.of h1⟩,oE (K:=K) (a:=tp) (xs:=[V.str "or",V.str "and",V.str "less",V.str "odd"]) (λi σ H2=>∃v8,σ=[some (.ref a),some (.int (many:Int)),some v2,some v3,some (.ref lb),some (.ref lk),some v6,some (.ref dd),v8,none,none]/\Dr K Pt H2 a lb lk dd many MF MH/\H2 tp=some (.tup [V.str "or",V.str "and",V.str "less",V.str "odd"])) ⟨v8,rfl,dr.same s1,h1⟩ ?_ ?_ ?_⟩
 .rintro i σ H2 _ ⟨v8,rfl,QV,h2⟩;exact MR.of h2
 .rintro i y σ H2 hy ⟨v8,rfl,QV,h2⟩;obtain⟨word,cl,rfl,hw⟩:=E1 hy;obtain⟨x1,x2,NC,B1,B2⟩:=QV.bb.two;obtain⟨kvs,hk,z⟩:=QV.Vv;obtain⟨l,os,hv,ol,S,Vv⟩:=z word cl hw;refine⟨_,rfl,_,rfl,lb,_,0,x1,rfl,rfl,MA.of NC,rfl,_,rfl,lb,_,1,x2,rfl,rfl,MA.of NC,rfl,?_⟩;refine zT (E:=λ_ _ _=>False) hw (Ig hw) QV.m4 QV.S1 QV.S2 S Vv B1 B2 QV.tab λt lr H3 s3 T3 b3=>?_;have Y':=QV.t s3 T3;have Xe:=s3 _ _ (neT QV.tab hk λ_ z=>nomatch z) hk;have h3:=s3 _ _ (neT QV.tab h2 λ_ z=>nomatch z) h2;refine⟨_,rfl,_,rfl,_,rfl,dd,.ref l,rfl,?_,?_⟩
  .rw[<-hv];exact eS.k (k:=.inr word) Xe
  refine⟨many,l,os,rfl,Xa QV.tab s3 ol,S,λt2 lr2 H4 s4 b4=>?_⟩;refine⟨xz many (aW many os),xz many (aW many os),mL (b3.a.same s4),mL b4.a,_,rfl,?_⟩;rw[Mu rfl,M6 rfl];exact aK ⟨_,rfl,Y'.same s4,s4 _ _ h3⟩
 .rintro σ H2 ⟨v8,rfl,QV,_⟩;exact qn _ _ ⟨a,lb,lk,dd,v2,v3,v6,v8,many,MF,MH,rfl,QV⟩
theorem Jp (hr:RM 14 A s f MB)(WP:Df P w K mg base (Nb P w) 13 "parting" ["one","other"] (cL K Pt CB CU)):HS (XL P w K mg base f MB A outer s H0 E) RT (bD 9) (D7 K Pt) (D7 K Pt):=by
 have Y6:(A.deeper (Pl "law" (ak du) s.heap.objs.size f MB)).units+64<MQ:=hr.units;have TK:(A.deeper (Pl "law" (ak du) s.heap.objs.size f MB)).units+1<MQ:=by lia
 have Y1:(A.deeper (Pl "law" (ak du) s.heap.objs.size f MB)).units+2<MQ:=by lia
 refine⟨_,aQ (ay (EY dW (nv au TK)) (aF WP (hr.mono (by decide)) rfl gv (ac (aJ (show Nl _ (dG K) from bE) (pv 4) ap (λ_ _=>rfl)) (ac (aJ (show Nl _ (dG K) from bE) (pv 4) ap (λ_ _=>rfl)) ae)))
   (jd (ay (nv (gG au) Y1) (iX TK (pv 7) aU (λ_ _=>rfl)) (bt ae) (aI _)) (aJ (show Nl _ (dG K) from bE) (iX TK (pv 7) aU (λ_ _=>rfl)) ap (λ_ _=>rfl)) gP) (aI _)) (al aZ) az,λD σ H b qn qr=>?_⟩
 obtain⟨a,lb,lk,dd,v2,v3,v6,v8,many,MF,MH,rfl,dr⟩:=b;obtain⟨x1,x2,NC,B1,B2⟩:=dr.bb.two;obtain⟨kvs,hk,z⟩:=dr.Vv;obtain⟨l,os,hv,ol,S,Vv⟩:=z "odd" _ rfl;refine⟨_,rfl,lb,_,0,x1,rfl,rfl,MA.of NC,rfl,_,rfl,lb,_,1,x2,rfl,rfl,MA.of NC,rfl,?_⟩;dsimp only[gS];refine zU dr.m4 dr.S1 dr.S2 S Vv B1 B2 dr.tab (λne H3 s3 T3=>?_) (λo r H3 ho s3 T3 hr3=>?_)
 .have Y':=dr.t s3 T3;have Xe:=s3 _ _ (neT dr.tab hk λ_ z=>nomatch z) hk;have ol3:=Xa dr.tab s3 ol;refine⟨_,rfl,dd,.ref l,rfl,by rw[<-hv];exact eS.k (k:=.inr "odd") Xe,by show 0<=Mz;decide,λe0 Oz=>?_⟩;have s4:=ai Oz (.lst []);refine⟨os,[],(OL.same s4 ol3).rep,⟨e0,[],rfl,MA.up,.nil⟩,_,rfl,?_⟩;rw[Mu rfl,M6 ne];refine aK (.inl ⟨rfl,_,rfl,?_⟩);rw[M6 rfl];exact aK (qn _ _ ⟨a,lb,lk,dd,v2,v3,v6,v8,many,MF,MH,rfl,Y'.same s4⟩)
 .have Y':=dr.t s3 T3;have Xe:=s3 _ _ (neT dr.tab hk λ_ z=>nomatch z) hk;have ol3:=Xa dr.tab s3 ol;have ne:os≠[]:=λe=>by rw[e] at ho;cases ho
  refine⟨_,rfl,dd,.ref l,rfl,by rw[<-hv];exact eS.k (k:=.inr "odd") Xe,by show 0<=Mz;decide,λe0 Oz=>?_⟩;have s4:=ai Oz (.lst []);have ol4:=OL.same s4 ol3;have hk4:=s4 _ _ Xe;have hr4:=s4 _ _ hr3;refine⟨os,[],ol4.rep,⟨e0,[],rfl,MA.up,.nil⟩,_,rfl,?_⟩;rw[Mu rfl,M4 ne];refine aV ?_;obtain⟨ys,hy,py⟩:=ol4;obtain⟨y,hy0,ro⟩:=dX py ho;refine⟨_,rfl,dd,.ref l,rfl,by rw[<-hv];exact eS.k (k:=.inr "odd") hk4,l,ys,0,y,rfl,rfl,MA.of hy,ck (j:=0) hy0,.inr ⟨o,o,cg (MR.of hr4),ro,_,rfl,?_⟩⟩;rw[Mu rfl,M6 rfl];exact aK (qn _ _ ⟨a,lb,lk,dd,v2,v3,v6,v8,many,MF,MH,rfl,Y'.same s4⟩)
def D12 (K:Mi)(Pt:D'):St->Hp->Prop:=λσ H=>∃(v0:V) (lb lk:D') (v2 v3 v6 v7:V) (t3 bd:D') (word:Me) (many m3:Nat) (MF MH TL:Bk.am),σ=[some v0,some (.int (many:Int)),some v2,some v3,some (.ref lb),some (.ref lk),some v6,some v7,some (.str word),some (.ref t3),some (.ref bd)]/\
 Bk.Nn many MF/\Bk.Nn m3 TL/\many≠m3/\(word="part"\/∃cl,Qy word=some cl)/\PV K H lb many [MF,MH]/\PV K H lk many [MF,MH]/\Oh K H (.ref t3) m3 (aW m3 TL).1 (aW m3 TL).2/\Oh K H (.ref bd) many [[(0,5)]] 2
theorem Ih (hr:RM 14 A s f MB)(WM:Df P w K mg base MM 2 "_law_mix" ["_law_script","_law_k"] (lE K))(WS:Df P w K mg base MM 3 "_law_set" ["_law_script","_law_k","_law_many"] (rL K))(WB:Df P w K mg base (Nb P w) 12 "book_of" ["many","orders"] (jz K))(h:QU (XL P w K mg base f MB A outer s H0 E) RT rest (D12 K Pt) B):QU (XL P w K mg base f MB A outer s H0 E) RT (bD 10::bD 11::bD 12::rest) (D7 K Pt) B:=by
 obtain⟨u,hu,kk⟩:=h;refine⟨_,af (aA (i:=9) dJ.nd rfl (by first|exact MX rfl|exact NR rfl) (aF WB (hr.mono (by decide)) rfl gv (ac (aR cN (aR cY (pv 1) ap) ap) (ac (aF WS (hr.mono (by decide)) rfl (aX (E:=λ_ _ _ _=>False)) (ac (pv 0) (ac ap (ac (aR cN (aR cY (pv 1) ap) ap) ae)))) ae))))
  (af (aA (i:=10) dJ.nd rfl (by first|exact MX rfl|exact NR rfl) (cb (ac (pv 1) (ac (bt (ac (cb (ac (cb (ac ap (ac ap ae))) ae)) ae)) (ac ap ae)))))
  (af (aA (i:=8) dJ.nd rfl (by first|exact MX rfl|exact NR rfl) (aJ (show Nl _ (dG K) from bE) (bt (ac aU (ac aU (ac aU (ac aU (ac aU ae)))))) (aR cY (aF WM (hr.mono (by decide)) rfl (aX (E:=λ_ _ _ _=>False)) (ac (pv 0) (ac ap ae))) ap) (λ_ _=>rfl))) hu)),λD σ H b qn qr=>?_⟩
 obtain⟨a,lb,lk,dd,v2,v3,v6,v8,many,MF,MH,rfl,dr⟩:=b;have m1:=dr.S1.m1;have m4:=dr.m4;obtain⟨m3,hm⟩:∃m3:Nat,(many:Int) % 4+1=(m3:Int):=⟨((many:Int) % 4+1).toNat,by lia⟩
 have n1:1<=m3:=by lia
 have n4:m3<=4:=by lia
 refine⟨_,rfl,_,_,rfl,rfl,by show(0:Int)<4;decide,_,_,rfl,rfl,?_⟩;refine⟨_,rfl,_,rfl,_,_,rfl,rfl,by show(0:Int)<4;decide,_,_,rfl,rfl,?_⟩;refine⟨a,90,m3,?_,dr.Xb,n1,n4,λsa TL H1 s1 ol sub=>?_⟩
 .show [V.ref a,V.int 90,V.int ((many:Int) % 4+1)]=_;rw[hm]
 have S3:=Bk.Nn.of n1 n4 sub;have l3:=S3.len;obtain⟨ys,hy,py⟩:=id ol;refine⟨m3,sa,ys,TL,?_,MA.of hy,py,λo ho=>mK n1 (by lia) (S3.mem o ho),n1,by lia,by lia,λt3 lr3 H2 s2 b3=>?_⟩
 .show [V.int ((many:Int) % 4+1),V.ref sa]=_;rw[hm]
 have QV:=dr.same (s1.trans s2);refine⟨_,rfl,by show 2<=Mz;decide,λp1 hp1=>⟨by show 1<=Mz;decide,λp2 Ws=>⟨by show 1<=Mz;decide,λp3 hp3=>⟨by show 3<=Mz;decide,λbd hbd=>?_⟩⟩⟩⟩;have a1:=ai hp1 (.tup [.int 0,.int 5]);have a2:=ai Ws (.tup [.ref p1]);have a3:=ai hp3 (.lst [.ref p2]);have a4:=ai hbd (.tup [.int (many:Int),.ref p3,.int 2]);have bad:Oh K (upd (upd (upd (upd H2 p1 (.tup [.int 0,.int 5])) p2 (.tup [.ref p1])) p3 (.lst [.ref p2])) bd (.tup [.int (many:Int),.ref p3,.int 2])) (.ref bd) many [[(0,5)]] 2:=
  ⟨⟨bd,p3,[.ref p2],rfl,MR.of ag,MA.of (a4 _ _ ag),.cons ⟨p2,[.ref p1],rfl,MR.of (a4 _ _ (a3 _ _ ag)),.cons ⟨p1,rfl,MR.of (a4 _ _ (a3 _ _ (a2 _ _ ag)))⟩ .nil⟩ .nil⟩⟩
 have s5:=a1.trans (a2.trans (a3.trans a4));generalize (upd (upd (upd (upd H2 p1 (.tup [.int 0,.int 5])) p2 (.tup [.ref p1])) p3 (.lst [.ref p2])) bd (.tup [.int (many:Int),.ref p3,.int 2]))=H5 at bad s5 ⊢;have dr5:=QV.same s5;refine⟨by show 5<=Mz;decide,λlw hlw=>?_⟩;have s6:=ai hlw (.lst [V.str "or",V.str "and",V.str "less",V.str "odd",V.str "part"]);have dr6:=dr5.same s6;refine⟨_,rfl,a,1,rfl,dr6.Xb,λm _ _=>⟨_,_,rfl,rfl,by show(0:Int)<5;decide,?_⟩⟩;obtain⟨word,hw,RD⟩:=E2 (VX m (show(5:Int)≠0 by decide)) (VM m (show(0:Int)<5 by decide));refine⟨lw,_,_,.str word,rfl,rfl,MA.up,hw,?_⟩;exact kk D _ _ ⟨_,lb,lk,_,_,_,_,t3,bd,word,many,m3,MF,MH,TL,rfl,dr.S1,S3,by lia,RD,dr6.bb,dr6.bk,b3.a.same (s5.trans s6),bad.same s6⟩ qn qr
variable {CR:D'} in
theorem Ii (hr:RM 14 A s f MB)(WT:Df P w K mg base (Nb P w) 14 "_law_told" ["_law_word","_law_one","_law_other"] (gE K Pt CB CU CR)):HS (XL P w K mg base f MB A outer s H0 E) RT (bD 13) (D12 K Pt) (D12 K Pt):=by
 refine⟨_,aQ (PW.pt (kJ (ay dW (aF WT hr rfl gv (ac (pv 8) (ac (aJ (show Nl _ (dG K) from bE) (pv 4) ap (λ_ _=>rfl)) (ac (pv 9) ae)))) aU (aI _))
   (iM (ay dW (aF WT hr rfl gv (ac aU (ac (pv 10) (ac (pv 9) ae)))) aU (aI _))))) (al aZ) az,λD σ H b qn qr=>?_⟩
 obtain⟨v0,lb,lk,v2,v3,v6,v7,t3,bd,word,many,m3,MF,MH,TL,rfl,S1,S3,n3,RD,bb,bk,b3,bad⟩:=b;obtain⟨x1,x2,NC,B1,B2⟩:=bb.two;refine⟨_,rfl,_,rfl,lb,_,0,x1,rfl,rfl,MA.of NC,rfl,_,rfl,?_⟩;refine mO (E:=λ_ _ _=>False) RD B1 b3 (dN S1) (dN S3) (λn=>Mw ⟨fL (Nn.whole S1),fL (Nn.whole S3)⟩ n) λ_ _=>⟨by lia,λH1 s1=>?_⟩
 refine⟨rfl,_,rfl,?_⟩;rw[M6 rfl];refine aK ⟨_,rfl,_,rfl,zS (E:=λ_ _ _=>False) λH2 s2=>?_⟩;refine⟨rfl,_,rfl,?_⟩;rw[M6 rfl];have Pf:=s1.trans s2;exact aK (qn _ _ ⟨v0,lb,lk,v2,v3,v6,v7,t3,bd,word,many,m3,MF,MH,TL,rfl,S1,S3,n3,RD,bb.same Pf,bk.same Pf,b3.same Pf,bad.same Pf⟩)
variable {P:MD}{w:Mt}{K:Mi}{mg:Me->Option G'}{base:Mp}{Pt:D'}{CB:D'}{CU:D'}{CR:D'}{f:D'}{MB:G'}{A:ML}{outer:List NK}{s:Md}{H0:Hp}{E:XK} in
theorem Ij (hr:RM 14 A s f MB)(WT:Df P w K mg base (Nb P w) 14 "_law_told" ["_law_word","_law_one","_law_other"] (gE K Pt CB CU CR)){B:St->Hp->Prop}:HS (XL P w K mg base f MB A outer s H0 E) RT (bD 14) (D12 K Pt) B:=by
 have Y6:(A.deeper (Pl "law" (ak du) s.heap.objs.size f MB)).units+64<MQ:=hr.units;have hu5:(A.deeper (Pl "law" (ak du) s.heap.objs.size f MB)).units+(gG lD).N7<MQ:=by show _+5<MQ;lia
 refine⟨_,aM (iO (iP (ss hr.We)
   (bt (ac (aF WT hr rfl gv (ac (pv 8) (ac (pv 10) (ac (pv 9) ae)))) (ac (aF WT hr rfl gv (ac (pv 8) (ac (pv 9) (ac (pv 10) ae)))) ae)))
   (aR ye (bt (ac aU ae)) ap) (aI _)) (jM (iP (yo (gG lD) hu5) (pv 4) (pv 5) (aI _)))),λD σ H b qn qr=>?_⟩
 obtain⟨v0,lb,lk,v2,v3,v6,v7,t3,bd,word,many,m3,MF,MH,TL,rfl,S1,S3,n3,RD,bb,bk,b3,bad⟩:=b;refine⟨_,rfl,_,rfl,_,rfl,?_⟩;refine mO (E:=λ_ _ _=>False) RD bad b3 (by decide) (dN S3) (λ_ H1 s1=>?_) λh _=>Mw h uM;refine⟨_,rfl,_,rfl,_,rfl,?_⟩;refine mO (E:=λ_ _ _=>False) RD (b3.same s1) (bad.same s1) (dN S3) (by decide) (λ_ H2 s2=>?_) λ_ h=>Mw h uM;refine⟨by show 2<=Mz;decide,λl1 Qi=>⟨by show 1<=Mz;decide,λl0 Q4=>?_⟩⟩;have a1:=ai Qi (.lst [V.str "book",V.str "book"]);have a2:=ai Q4 (.lst [V.str "book"]);refine⟨l0,2,_,rfl,rfl,ag,by decide,by decide,by show 2<=Mz;decide,λl3 hl3=>?_⟩;have a3:=ai hl3 (.lst (O1 (2:Int).toNat [V.str "book"]).flatten);have tot:=s1.trans (s2.trans (a1.trans (a2.trans a3)));refine⟨l1,l3,_,_,rfl,rfl,MA.of ((a2.trans a3) _ _ ag),MA.up,rfl,rfl,_,rfl,?_⟩;rw[Mq Oo,show fb [V.str "book",V.str "book"] (O1 (2:Int).toNat [V.str "book"]).flatten=true from by decide +kernel];refine aV ⟨_,rfl,_,rfl,_,_,(bb.same tot).rep,(bk.same tot).rep,qr _ _ ?_⟩;rw[Mq Oo,M6 rfl]
def rN (K:Mi)(Pt:D'):Sp:=λvs H Q _=>∃(a:D') (ns:List Int),vs=[.ref a]/\MA K H a (ns.map V.int)/\dS H Pt/\∀H',Q (.bl true) H'
variable {P:MD}{w:Mt}{K:Mi}{mg:Me->Option G'}{base:Mp}{CO:D'}{Pt:D'}{CB:D'}{CU:D'}{CR:D'}{f:D'} in
theorem E3 {fd:MY}(F:Nh K "law" "law" du f fd)(T:N9 K mg CO)(WM:Df P w K mg base MM 2 "_law_mix" ["_law_script","_law_k"] (lE K))(W2:Df P w K mg base MM 4 "_law_two" ["_law_script","_law_k","_law_many"] (xE K))(WS:Df P w K mg base MM 3 "_law_set" ["_law_script","_law_k","_law_many"] (rL K))(WLB:Df P w K mg base MM 7 "_law_book" ["_law_many","_law_orders"] (pN K))(WB:Df P w K mg base (Nb P w) 12 "book_of" ["many","orders"] (jz K))(WT:Df P w K mg base (Nb P w) 14 "_law_told" ["_law_word","_law_one","_law_other"] (gE K Pt CB CU CR))(WP:Df P w K mg base (Nb P w) 13 "parting" ["one","other"] (cL K Pt CB CU)):MU P w K mg base MM 15 f fd ["_law_script"] (rN K Pt):=by
 refine F.ok dJ (λvs H Q E h=>?_) (λMB A outer s H vs Q E hr h=>?_)
 .obtain⟨a,ns,rfl,_⟩:=h;rfl
 obtain⟨a,ns,rfl,hs,tj,q⟩:=h;have all:QU (XL P w K mg base f MB A outer s H E) RT [bD 0,bD 1,bD 2,bD 3,bD 4,bD 5,bD 6,bD 7,bD 8,bD 9,bD 10,bD 11,bD 12,bD 13,bD 14] (D0 K Pt) (λ_ _=>False):=
  Jk hr WM W2<|Jl hr T WB<|(Jm hr T).cons<|Jn hr<|(Jo hr WT WLB).cons<|(Jp hr WP).cons<|Ih hr WM WS WB<|(Ii hr WT).cons<|(Ij hr WT).cons QU.nil
 obtain⟨t,ht,k⟩:=all;refine⟨t,ht,k _ _ _ ⟨a,rfl,⟨ns,hs⟩,tj⟩ (λ_ _ z=>z.elim) λv H' e=>?_⟩;subst e;exact q H'
end
end Ord
namespace L2
open PySem PySem.Spec PyProof.Rows
theorem Nh.code {K:Mi}{h:Mp}{mg:Me->Option G'}{x qual:Me}{st:Mv}{f c Pt:D'}{fd:MY}(F:Nh K x qual st f fd)(X:K.In h)(G:h.Ns No mg)(tj:ε K x=some (c,Pt))(hm:mg x=some (.ref f)):fd.code=.ref c:=by
 obtain⟨oc,od,kV,doc,pm,an,MB,ct,PN,rfl,lk,O6⟩:=F.ex;exact W.law_code X G tj hm (X _ _ lk) rfl
theorem zW {K:Mi}(KX:K.In MN.heap)(P1:MN.heap.Ns No mg)(hb:MN.heap.Ns builtinsNs mb)(hbb:∀x:Me,x≠"__name__"->mb x=Pz x)(afZ:MN.heap.NoLimit)(hg:MN.gens=#[])(hC:Ui MN.heap c Pt)(hP:MN.heap.get? Pt=some (W.tabObj #[]))(hKP:K.lookup Pt=none)(hbm:Bm mg MN.heap)(ha:MN.heap.get? a=some { cls:=.type "list",data:=.seq vs.toArray })(hi:Ry vs ns)(hl:ns.length<=Mz)(hr:Mg k callerA)(F:∀base:Mp,K.In base->base.Ns No mg->Ui base c Pt->Bm mg base->MU P w K mg base CX k fa fd [x] sp)(afd:∀(s:Md) (u:G'),XW s fd ⟨[u],[]⟩ [(x,u)])(Nj:∀H:Hp,H Pt=some (.Pu #[])->MA K H a (ns.map V.int)->sp [.ref a] H (λv _=>v=.bl true) λ_ _ _=>False)(hCX:∀H e s',CX [] H MN (λ_ _ _=>False) e s'->False):
  codeAny (Mr P w) callerA (.call (.ref fa) ⟨[.ref a],[]⟩) (λr s'=>r=.ok (.ret (.bool true))/\OldK MN.heap s'.heap/\s'.os=MN.os/\Sy s'.gens) MN:=by
 have rv:=ir hi;have af0:=hi.length;have aP:a≠Pt:=by
  rintro rfl;rw[ha] at hP;cases hP
 have core:∀H:Hp,(∀b,b≠Pt->H b=none\/∃o xs,H b=some (.NO o (.lst xs)))->H Pt=some (.Pu #[])->MA K H a (ns.map V.int)->N5 P w H MN.heap->(∀b,H b≠none->b=a\/b=Pt)->(H a≠none->K.lookup a=none)->
   codeAny (Mr P w) callerA (.call (.ref fa) ⟨[.ref a],[]⟩) (λr s'=>r=.ok (.ret (.bool true))/\OldK MN.heap s'.heap/\s'.os=MN.os/\Sy s'.gens) MN:=by
  intro H hO hT hS My hA hK;have η:∀{b:D'}{o:Mc},MN.heap.get? b=some o->H b=none->(gO MN.heap H).get? b=some o:=λe n=>Ai e n;have abm:∀{b:D'}{o:Mc},MN.heap.get? b=some o->o≠{ cls:=.type "list",data:=.seq vs.toArray }->o≠W.tabObj #[]->H b=none:=λ{b o} e d1 d2=>by
   cases q:H b with
   | none=>rfl
   | some u=>
    rcases hA b (by rw[q];simp) with rfl|rfl
    .rw[ha] at e;cases e;exact Mw rfl d1
    .rw[hP] at e;cases e;exact Mw rfl d2
  have nsK:∀{b:D'}{m:Me->Option G'},MN.heap.Ns b m->(gO MN.heap H).Ns b m:=λ{b m} ⟨o,es,ep,e,d,r⟩=>⟨o,es,ep,η e (abm e (by rintro rfl;cases d) (by rintro rfl;cases d)),d,r⟩
  have hKb:K.In (gO MN.heap H):=λb o e=>η (KX b o e) (by
   cases q:H b with
   | none=>rfl
   | some u=>
    rcases hA b (by rw[q];simp) with rfl|rfl
    .rw[hK (by rw[q];simp)] at e;cases e
    .rw[hKP] at e;cases e)
  have hM:Mod K mg (gO MN.heap H):=⟨hKb,nsK P1,⟨mb,nsK hb,hbb⟩,let ⟨mc,h1,h2⟩:=afZ;⟨mc,nsK h1,h2⟩⟩
  have hCb:Ui (gO MN.heap H) c Pt:=by
   obtain⟨o,Wt,file,tf,flags,tg,inF,text,tt,e1,e2,e3,r⟩:=hC;exact⟨o,Wt,file,tf,flags,tg,inF,text,tt,η e1 (abm e1 (by rintro rfl;cases e3) (by rintro rfl;cases e2)),e2,e3,r⟩
  have hBb:Bm mg (gO MN.heap H):=by
   obtain⟨bm,o,b1,b2,b3,b4,b5,b6,b7⟩:=hbm;exact⟨bm,o,b1,b2,b3,η b4 (abm b4 (by rintro rfl;cases b7) (by rintro rfl;cases b7)),b5,b6,b7⟩
  have e0:SB P w K mg (gO MN.heap H) callerA [] MN H:=⟨rfl,hM,λb o e=>Ci e,V5 (xN _ _),trivial,λb hb=>Mw (show b∈([]:List D') from hb) (by simp),My,.of_eq hg⟩
  refine Ug ((F _ hKb (nsK P1) hCb hBb).run callerA [] MN H ⟨[.ref a],[]⟩ [.ref a] [.ref a] _ _ hr e0 (afd MN (.ref a)) (.cons rfl .nil) (Nj H hT hS)) λr s' h=>?_;cases r with
  | error e=>exact(hCX H e s' h).elim
  | ok fl=>
   cases fl with
   | next=>exact Pp h
   | brk=>exact Pp h
   | cont=>exact Pp h
   | ret u=>
    obtain⟨v,H',os,bare,un,aai,r',q⟩:=h;have q':v=.bl true:=q;subst q';obtain rfl:u=R0 true:=r';have kept:∀b o,b≠Pt->MN.heap.get? b=some o->s'.heap.get? b=some o:=λb o P5 e=>by
     cases q:H b with
     | none=>exact un.keep b o e q (by intro z;exact Mw (show b∈([]:List D') from z) (by simp)) (by simp)
     | some u=>
      rcases hO b P5 with z|⟨ob,xs,z⟩
      .rw[q] at z;cases z
      .have z2:=un.QF b ob _ z;obtain⟨e1,_⟩:=My b _ z;obtain⟨e2,_⟩:=aai b _ z2;rw[e] at e1;cases e1;exact e2
    obtain⟨more,hT'⟩:=un.QG Pt _ hT;have grown:s'.heap.get? Pt=some (W.tabObj (#[]++more)):=aai Pt _ hT';refine⟨rfl,⟨λb o e=>?_,λb o e=>?_⟩,os,bare⟩
    .by_cases P5:b=Pt
     .subst P5;rw[hP] at e;cases e;exact .inr (.inl ⟨(hC.tab hP).isCodeTable,rfl,#[],more,rfl,grown⟩)
     .exact .inl (kept b o P5 e)
    .by_cases P5:b=Pt
     .subst P5;exact⟨_,grown⟩
     .exact⟨o,kept b o P5 e⟩
 cases hk:K.lookup a with
 | some o=>
  have e:=KX a o hk;rw[ha] at e;cases e;refine core (λb=>if b=Pt then some (.Pu #[]) else none) (λb hb=>.inl (Mq hb)) (Mu rfl) (.inr ⟨_,vs.toArray,_,hk,rfl,rfl,rfl,by rw[ND,af0];exact hl,by simpa using rv⟩) (λb u z=>?_) (λb z=>?_) λz=>Mw (Mq aP) z
  .by_cases hb:b=Pt
   .have z':=(Mu hb).symm.trans z;cases z';subst hb;exact hP
   .have z':=(Mq hb).symm.trans z;cases z'
  .by_cases hb:b=Pt
   .exact .inr hb
   .exact Mw (Mq hb) z
 | none=>
  refine core (λb=>if b=Pt then some (.Pu #[]) else if b=a then some (.NO { cls:=.type "list",data:=.seq vs.toArray } (.lst (ns.map V.int))) else none) (λb P5=>?_) (Mu rfl) (.inl (.inr ⟨{ cls:=.type "list",data:=.seq vs.toArray },(Mq aP).trans (Mu rfl)⟩)) (λb u z=>?_) (λb z=>?_) λ_=>hk
  .by_cases hb:b=a
   .exact .inr ⟨_,_,(Mq P5).trans (Mu hb)⟩
   .exact .inl ((Mq P5).trans (Mq hb))
  .by_cases P5:b=Pt
   .have z':=(Mu P5).symm.trans z;cases z';subst P5;exact hP
   .by_cases hb:b=a
    .have z':=((Mq P5).trans (Mu hb)).symm.trans z;cases z';subst hb;exact⟨ha,by rw[Ng];exact hl,vs,_,rv,ha⟩
    .have z':=((Mq P5).trans (Mq hb)).symm.trans z;cases z'
  .by_cases P5:b=Pt
   .exact .inr P5
   .by_cases hb:b=a
    .exact .inl hb
    .exact Mw ((Mq P5).trans (Mq hb)) z
theorem BF {l:W.OpenLaw}{n k:Nat}{q:MD}{loose:List Me}{XP:(Me->Option G')->Mp->Prop}{YP:Mt->Mp->Prop}{d dj:DefRec}{K:U2->Mi}{CX:Mt->Pd}{sp:Mt->D'->Sp}{x xj:Me}(hn:l.most=some n)(hn2:n<=Mz)(Yt:d.params.defaults=[])(hr:Mg k callerA)(hj:(recsOf q).find? (λe=>e.name==xj)=some dj)(hY:∀(w:Mt) (h:Mp),YP w h->(K w.params).In h)(F:∀(w:Mt) (mg:Me->Option G') (fa:D') (h:Mp),(K w.params).In h->h.Ns No mg->mg d.name=some (.ref fa)->
   ∃(fd:MY) (c Pt:D'),ε (K w.params) xj=some (c,Pt)/\(K w.params).lookup Pt=none/\(∀(s:Md) (u:G'),XW s fd ⟨[u],[]⟩ [(x,u)])/\
    ∀base:Mp,(K w.params).In base->base.Ns No mg->Ui base c Pt->Bm mg base->MU l.prog w (K w.params) mg base (CX w) k fa fd [x] (sp w Pt))(Nj:∀(w:Mt) (H:Hp) (a Pt:D') (ns:List Int),ns.length<=n->H Pt=some (.Pu #[])->MA (K w.params) H a (ns.map V.int)->sp w Pt [.ref a] H (λv _=>v=.bl true) λ_ _ _=>False)(hCX:∀(w:Mt) (H:Hp) (s:Md) (e:G') (s':Md),CX w [] H s (λ_ _ _=>False) e s'->False):
  W.WalkO q loose XP YP l.row.toRowW d [] (λf vs=>ac1 f vs):=by
 refine Att.uP hn Yt λw Nv MN mg mb fa o pm cd doc a vs ns G Y ho hd O6 Yu abA hints hlen hg=>?_;have KX:=hY w _ Y;obtain⟨fd,c,Pt,tj,hKP,hb,hF⟩:=F w mg fa _ KX G.T.g Yu;obtain⟨hC,hP⟩:=W.tab_of G.T KX hj tj;obtain⟨bm,ob,a1,a2,a3,a4,a5,a6⟩:=G.T.bmain;have a7:bm≠No:=by
  rintro rfl;obtain⟨o',es,ep,e,d',_⟩:=G.T.g;rw[a3] at e;cases e;rw[a6] at d';cases d'
 exact zW KX G.T.g G.T.b G.T.builtins G.T.nolimit hg hC hP hKP ⟨bm,ob,a1,a2,a7,a3,a4,a5,a6⟩ abA hints (OT hlen hn2) hr hF hb (λH hO hS=>Nj w H a Pt ns hlen hO hS) λH e s'=>hCX w H MN e s'
end L2
namespace Ord
open PySem L2 Mx
section
abbrev gq (l:List G')(m:Nat):Mc:=⟨.type "tuple",none,.seq ⟨l⟩ m,#[]⟩
theorem mP (hk:K.lookup p=some (gq [.int a u,.int b v] m)):au.rep K H (.ref p) [a,b]:=
 cg (o:=[a,b]) (.inr ⟨_,_,_,hk,rfl,rfl,by show 2<=Mz;decide,.cons ⟨u,rfl⟩ (.cons ⟨v,rfl⟩ .nil),rfl⟩)
theorem uN:∀ps:List D',aw (ps.map V.ref) (ps.map Nd)
 | []=>.nil
 | _::ps=>.cons rfl (uN ps)
theorem xG (hk:K.lookup c=some (gq (ps.map Nd) m))(MW:ps.length<=3)(hp:MC (λp ks=>au.rep K H (.ref p) ks) ps M7):bM.rep K H (.ref c) M7:=by
 refine⟨c,ps.map V.ref,rfl,.inr ⟨_,_,_,hk,rfl,rfl,?_,uN ps,rfl⟩,?_⟩
 .show(ps.map Nd).length<=Mz;rw[Ng,Nf];lia
 .clear hk MW
  induction hp with
  | nil=>exact .nil
  | cons h _ ih=>exact .cons h ih
theorem E4 (X:K.In h)(G:h.Ns No mg)(na:Og K No "CLOSES"=some (some (.ref aC)))(hs:(aC==Po)=false)(lk:K.lookup aC=some ⟨.type "dict",none,.dict #[⟨ZY w.params "or",.str "or" t1,.ref c1⟩,⟨ZY w.params "and",.str "and" t2,.ref c2⟩,⟨ZY w.params "less",.str "less" t3,.ref c3⟩,⟨ZY w.params "odd",.str "odd" t4,.ref c4⟩] n,#[]⟩)(k1:K.lookup c1=some (gq [.ref p1,.ref p2,.ref p3] n1))(k2:K.lookup c2=some (gq [.ref p4] n2))(k3:K.lookup c3=some (gq [.ref p5] n3))(k4:K.lookup c4=some (gq [.ref p6,.ref p7] n4))(q1:K.lookup p1=some (gq [.int 1 u1,.int 0 v1] m1))(q2:K.lookup p2=some (gq [.int 0 u2,.int 1 v2] m2))(q3:K.lookup p3=some (gq [.int 1 u3,.int 1 v3] m3))(q4:K.lookup p4=some (gq [.int 1 u4,.int 1 v4] m4))(q5:K.lookup p5=some (gq [.int 1 u5,.int 0 v5] m5))(q6:K.lookup p6=some (gq [.int 1 u6,.int 0 v6] m6))(q7:K.lookup p7=some (gq [.int 0 u7,.int 1 v7] m7)):
  TxC P w K mg aC [(.inr "or",.ref c1),(.inr "and",.ref c2),(.inr "less",.ref c3),(.inr "odd",.ref c4)] where
 at_:=PK X G na
 d:=⟨hs,_,_,_,lk,⟨rfl,rfl,rfl⟩,rfl,λe he=>by
   rcases(show e=_\/e=_\/e=_\/e=_ by simpa using he) with rfl|rfl|rfl|rfl
   .exact⟨.inr "or",cw _ _ _ _,rfl⟩
   .exact⟨.inr "and",cw _ _ _ _,rfl⟩
   .exact⟨.inr "less",cw _ _ _ _,rfl⟩
   .exact⟨.inr "odd",cw _ _ _ _,rfl⟩,
  .cons (cw _ _ _ _) rfl (.cons (cw _ _ _ _) rfl (.cons (cw _ _ _ _) rfl (.cons (cw _ _ _ _) rfl .nil))),by show([.inr "or",.inr "and",.inr "less",.inr "odd"]:List Key).Nodup;decide⟩
 val:=λx cl h=>by
  rcases kE h with⟨rfl,rfl⟩|⟨rfl,rfl⟩|⟨rfl,rfl⟩|⟨rfl,rfl⟩
  .exact⟨c1,rfl,λH=>xG (ps:=[p1,p2,p3]) k1 (aax rfl) (.cons (mP q1) (.cons (mP q2) (.cons (mP q3) .nil)))⟩
  .exact⟨c2,rfl,λH=>xG (ps:=[p4]) k2 (aax rfl) (.cons (mP q4) .nil)⟩
  .exact⟨c3,rfl,λH=>xG (ps:=[p5]) k3 (aax rfl) (.cons (mP q5) .nil)⟩
  .exact⟨c4,rfl,λH=>xG (ps:=[p6,p7]) k4 (aax rfl) (.cons (mP q6) (.cons (mP q7) .nil))⟩
 MV:=λx h=>by
  unfold Qy at h;unfold valueAt;have n1:x≠"or":=λe=>by rw[Mu e] at h;cases h
  rw[Mq n1] at h;have n2:x≠"and":=λe=>by rw[Mu e] at h;cases h
  rw[Mq n2] at h;have n3:x≠"less":=λe=>by rw[Mu e] at h;cases h
  rw[Mq n3] at h;have n4:x≠"odd":=λe=>by rw[Mu e] at h;cases h
  have f:∀y:Me,x≠y->decide ((Tj y:Key)=.inr x)=false:=λy hy=>M4 λe=>hy (Tj.inj e).symm;simp only[VU,f _ n1,f _ n2,f _ n3,f _ n4,List.find?_nil,Option.map_none]
end
end Ord
set_option maxHeartbeats 0
namespace Vw
open PySem PySem.W L2
noncomputable section
abbrev pw:MD:=PySem.Challenge.pw_ordernest_k10_whole_joined
def at_ (i:Nat):Mv:=pw.main.body.getD i (.Pass ⟨0,0,0,0⟩)
def s0:Mv:=at_ 0
def s1:Mv:=at_ 1
def s2:Mv:=at_ 2
def s3:Mv:=at_ 3
def s4:Mv:=at_ 4
def s5:Mv:=at_ 5
def s6:Mv:=at_ 6
def s7:Mv:=at_ 7
def s8:Mv:=at_ 8
def s9:Mv:=at_ 9
def SQ:Mv:=at_ 10
def TD:Mv:=at_ 11
def Pf:Mv:=at_ 12
def WX:Mv:=at_ 13
def s14:Mv:=at_ 14
def s15:Mv:=at_ 15
def s16:Mv:=at_ 16
def s17:Mv:=at_ 17
def s18:Mv:=at_ 18
def Xf:Mv:=at_ 19
def s20:Mv:=at_ 20
def s21:Mv:=at_ 21
def s22:Mv:=at_ 22
def s23:Mv:=at_ 23
def s24:Mv:=at_ 24
def QT:Mv:=at_ 25
def RP:Mv:=at_ 26
def s27:Mv:=at_ 27
def s28:Mv:=at_ 28
def s29:Mv:=at_ 29
def s30:Mv:=at_ 30
def s31:Mv:=at_ 31
def s32:Mv:=at_ 32
def s33:Mv:=at_ 33
def s34:Mv:=at_ 34
def s35:Mv:=at_ 35
def s36:Mv:=at_ 36
def s37:Mv:=at_ 37
def s38:Mv:=at_ 38
def s39:Mv:=at_ 39
def s40:Mv:=at_ 40
def s41:Mv:=at_ 41
def s42:Mv:=at_ 42
def s43:Mv:=at_ 43
def s44:Mv:=at_ 44
def UN:Mv:=at_ 45
def s46:Mv:=at_ 46
def s47:Mv:=at_ 47
def s48:Mv:=at_ 48
def s49:Mv:=at_ 49
def s50:Mv:=at_ 50
def s51:Mv:=at_ 51
def s52:Mv:=at_ 52
def s53:Mv:=at_ 53
def s54:Mv:=at_ 54
def dk (P:U2)(x:Me)(t:Nat)(v:G'):Op:=⟨ZY P x,.str x t,v⟩
def kf (x q:Me)(s:Mv)(kV doc pm MB ct:G'):Mc:=⟨.type "function",none,.func (fnOf x q (dz s) (cm s) (ak s) .none kV doc pm none MB ct),#[]⟩
def kg (c:G')(x q:Me)(s:Mv)(g:Nat)(dV kV doc pm MB ct:G'):Mc:=⟨c,none,.func { name:=x,qualname:=q,params:=dz s,body:=.stmts (cm s),scope:=ak s,globals:=g,closure:=[],defaults:=dV,kwdefaults:=kV,doc:=doc,pyModule:=pm,code:=MB,closureTuple:=ct },#[]⟩
def kj (c:G')(d:Data):Mc:=⟨c,none,d,#[]⟩
def kt (l:List G'):Mc:=⟨.type "tuple",none,.seq ⟨l⟩ 0,#[]⟩
def rO (s:Mv)(i:Nat):Mv:=match s with
 | .ClassDef _ _ _ b _ _ _ _ _ _ _=>b.getD i (.Pass ⟨0,0,0,0⟩)
 | s=>s
def r (a:Nat):G':=.ref a
def i (a:Int)(t:Nat):G':=.int a t
def z (x:Me)(t:Nat):G':=.str x t
def kc (x q:Me)(a b c l n f r1 r2 r3 r4 r5 t m u:Nat):Mc:=kj (.type "code") (.fields #[z x a,z q b,z "/claim/cut.py" c,i l 0,i n 0,i 0 0,i 0 0,i f 0,r r1,.bool true,i 181 0,r r2,.none,r r3,r r4,r r5,i t 0,i m 0,z "/claim/cut.py" u])
variable (P:U2)
def lt (n a:Nat):List G':=[i n 0,i 0 0,r a]
def kl (l:List G'):Mc:=kj .none (.fields ⟨l⟩)
def PX:=z "ordernest.errors" 187
def Pk:=z "ordernest.books" 350
def RQ:=z "law_ordernest_k10_whole_joined" 633
def zz3:=z "NestError" 197
def TM:=z "ordernest.joining" 527
def zz5:=z "NestError" 189
def zz6:=z "ordernest.orders" 319
def o11:Mc:=kt []
def o12:Mc:=kj .none (.fields #[])
def SV (a:Me)(b:Nat)(c:Nat)(d:Nat):Mc:=kj (.type "code") (.fields #[z a b,z a (b+1),z "/claim/cut.py" (b+2),i c 0,i 0 0,i 0 0,i 0 0,i 0 0,r d,.bool false,i 181 0,r (d+1),.none,.none,.none,.none,i (b+3) 0,i c 0,z "/claim/cut.py" (b+4)])
def o13:Mc:=SV "<module>" 182 1 11
def o14:Mc:=⟨(.type "frame"),none,.plain,#[(some (r 13)),(some (r 3)),(some (r 3)),none,(some (z "__main__" 164)),none,(some (r 0))]⟩
def eo3:List Op:=[dk P "__doc__" 166 .none,dk P "__package__" 167 .none,dk P "__loader__" 168 (.builtin "__main__.__loader__#opaque"),dk P "__spec__" 169 .none,dk P "__annotations__" 170 (r 6),dk P "__builtins__" 171 (r 4),dk P "__file__" 173 (z "/claim/cut.py" 172),dk P "__cached__" 174 .none,dk P "NestError" 206 (r 24)]
def o3:Mc:=kj (.type "dict") (.dict ⟨dk P "__name__" 165 PX::eo3 P⟩ 10)
def zX:=lt 2 20
def Ik:Mc:=kl zX
def o15:Mc:=kt [.type "ValueError"]
def TN:Mc:=kj (.type "builtin_function_or_method") (.fields #[.builtin "type.__prepare__",.type "type"])
def o17:Mc:=kj (.type "dict") (.dict #[dk P "__module__" 196 PX,dk P "__qualname__" 198 zz3,dk P "__firstlineno__" 200 (i 2 199),dk P "__static_attributes__" 201 (r 22)] 4)
def o20:Mc:=SV "NestError" 191 2 18
def TQ (a:Nat)(b:G'):Mc:=⟨(.type "frame"),none,.plain,#[(some (r a)),(some (r 3)),(some (r (a-3))),none,(some b),none,(some (r 0))]⟩
def o21:Mc:=TQ 20 PX
def o23:Mc:=kj (.type "dict") (.dict #[dk P "__module__" 196 PX,dk P "__firstlineno__" 200 (i 2 199),dk P "__static_attributes__" 201 (r 22),dk P "__weakref__" 203 (r 25),dk P "__doc__" 204 .none] 3)
def UR (a:List G'):Mc:=⟨(.type "type"),none,.cls { name:="NestError",bases:=[.type "ValueError"],mro:=[r 24,.type "ValueError",.type "Exception",.type "BaseException",.type "object"],ns:=23,qualname:="NestError",subclasses:=a },#[(some (r 15)),none,(some zz5),(some zz3),(some (.builtin "ValueError.__new__")),(some (.bool true))]⟩
def o24:Mc:=UR []
def kk3 (a:Nat)(b:Nat):Mc:=kj (.type "getset_descriptor") (.fields #[z "__weakref__" a,r b,.builtin "ExceptionGroup.__weakref__",.none])
def Y7:Mc:=kk3 202 24
def TR (a:Nat):Mc:=kj (.type "super") (.fields #[r a,r a,r a])
def o26:Mc:=TR 24
def TU (a:Nat):Mc:=kj (.type "builtin_function_or_method") (.fields #[.builtin "object.__init_subclass__",r a])
def o27:Mc:=TU 24
def B4:List Op:=eo3 P++[dk P "BadOrder" 222 (r 37)]
def Jq:Mc:=kj (.type "dict") (.dict ⟨dk P "__name__" 165 PX::B4 P⟩ 11)
def zY:=zX++lt 4 33
def Il:Mc:=kl zY
def Im:Mc:=UR [r 37]
def Vx:Mc:=kt [r 24]
def Vy (a:Nat)(b:Me)(c:Nat)(d:Nat):Mc:=kj (.type "dict") (.dict #[dk P "__module__" a PX,dk P "__qualname__" (a+2) (z b (a+1)),dk P "__firstlineno__" (a+4) (i c (a+3)),dk P "__static_attributes__" (a+5) (r d)] 4)
def o30:Mc:=Vy P 214 "BadOrder" 4 35
def o31:Mc:=kt []
def Ol:Mc:=kj .none (.fields #[])
def o33:Mc:=SV "BadOrder" 209 4 31
def o34:Mc:=TQ 33 PX
def Nc:Mc:=kt []
def Vz (a:Nat)(b:Nat)(c:Nat):Mc:=kj (.type "dict") (.dict #[dk P "__module__" a PX,dk P "__firstlineno__" (a+4) (i b (a+3)),dk P "__static_attributes__" (a+5) (r c),dk P "__doc__" (a+6) .none] 2)
def Y8:Mc:=Vz P 214 4 35
def VA (a:Me)(b:Nat)(c:Nat):Mc:=⟨(.type "type"),none,.cls { name:=a,bases:=[r 24],mro:=[r b,r 24,.type "ValueError",.type "Exception",.type "BaseException",.type "object"],ns:=(b-1),qualname:=a,subclasses:=[] },#[(some (r (b-9))),none,(some (z a c)),(some (z a (c+8))),(some (.builtin "ValueError.__new__")),(some (.bool true))]⟩
def Y9:Mc:=VA "BadOrder" 37 207
def o38:Mc:=TR 37
def o39:Mc:=TU 37
def B5:List Op:=B4 P++[dk P "BadBook" 238 (r 49)]
def Jr:Mc:=kj (.type "dict") (.dict ⟨dk P "__name__" 165 PX::B5 P⟩ 12)
def zZ:=zY++lt 6 45
def Io:Mc:=kl zZ
def Ip:Mc:=UR [r 37,r 49]
def o42:Mc:=Vy P 230 "BadBook" 6 47
def o45:Mc:=SV "BadBook" 225 6 43
def o46:Mc:=TQ 45 PX
def o48:Mc:=Vz P 230 6 47
def o49:Mc:=VA "BadBook" 49 223
def o50:Mc:=TR 49
def o51:Mc:=TU 49
def B6:List Op:=B5 P++[dk P "Unlike" 254 (r 61)]
def Js:Mc:=kj (.type "dict") (.dict ⟨dk P "__name__" 165 PX::B6 P⟩ 13)
def Aa:=zZ++lt 8 57
def Iq:Mc:=kl Aa
def Ir:Mc:=UR [r 37,r 49,r 61]
def o54:Mc:=Vy P 246 "Unlike" 8 59
def o57:Mc:=SV "Unlike" 241 8 55
def o58:Mc:=TQ 57 PX
def o60:Mc:=Vz P 246 8 59
def o61:Mc:=VA "Unlike" 61 239
def o62:Mc:=TR 61
def o63:Mc:=TU 61
def B7:List Op:=B6 P++[dk P "BadRule" 270 (r 73)]
def Jt:Mc:=kj (.type "dict") (.dict ⟨dk P "__name__" 165 PX::B7 P⟩ 14)
def Ab:=Aa++lt 10 69
def Iu:Mc:=kl Ab
def Iv:Mc:=UR [r 37,r 49,r 61,r 73]
def o66:Mc:=Vy P 262 "BadRule" 10 71
def o69:Mc:=SV "BadRule" 257 10 67
def o70:Mc:=TQ 69 PX
def o72:Mc:=Vz P 262 10 71
def o73:Mc:=VA "BadRule" 73 255
def o74:Mc:=TR 73
def o75:Mc:=TU 73
def B8:List Op:=B7 P++[dk P "BadNumber" 286 (r 85)]
def Ju:Mc:=kj (.type "dict") (.dict ⟨dk P "__name__" 165 PX::B8 P⟩ 15)
def Ac:=Ab++lt 12 81
def Ix:Mc:=kl Ac
def Iy:Mc:=UR [r 37,r 49,r 61,r 73,r 85]
def o78:Mc:=Vy P 278 "BadNumber" 12 83
def o81:Mc:=SV "BadNumber" 273 12 79
def o82:Mc:=TQ 81 PX
def o84:Mc:=Vz P 278 12 83
def o85:Mc:=VA "BadNumber" 85 271
def o86:Mc:=TR 85
def o87:Mc:=TU 85
def B9:List Op:=B8 P++[dk P "BadWeights" 302 (r 97)]
def Jv:Mc:=kj (.type "dict") (.dict ⟨dk P "__name__" 165 PX::B9 P⟩ 16)
def Ad:=Ac++lt 14 93
def Iz:Mc:=kl Ad
def IA:Mc:=UR [r 37,r 49,r 61,r 73,r 85,r 97]
def o90:Mc:=Vy P 294 "BadWeights" 14 95
def o93:Mc:=SV "BadWeights" 289 14 91
def o94:Mc:=TQ 93 PX
def o96:Mc:=Vz P 294 14 95
def o97:Mc:=VA "BadWeights" 97 287
def o98:Mc:=TR 97
def o99:Mc:=TU 97
def Ca:List Op:=B9 P++[dk P "BadText" 318 (r 109),dk P "MOST_THINGS" 322 (i 8 321),dk P "is_whole" 329 (r 118),dk P "is_count" 336 (r 125),dk P "look_count" 343 (r 132),dk P "look_order" 349 (r 137),dk P "NO_ROOM" 353 (i 0 352),dk P "END" 355 (i 1 354),dk P "LOWEST" 357 (i 2 356)]
def Jw:Mc:=kj (.type "dict") (.dict ⟨dk P "__name__" 165 Pk::Ca P⟩ 25)
def Ae:=Ad++lt 16 105++lt 20 117++lt 22 124++lt 24 131++lt 27 136
def IB:Mc:=kl Ae
def jH:Mc:=UR [r 37,r 49,r 61,r 73,r 85,r 97,r 109]
def Jx:Mc:=Vy P 310 "BadText" 16 107
def Jy:Mc:=SV "BadText" 305 16 103
def Jz:Mc:=TQ 105 PX
def E5:Mc:=Vz P 310 16 107
def E6:Mc:=VA "BadText" 109 303
def JA:Mc:=TR 109
def JB:Mc:=TU 109
def JC:Mc:=kt [z "value" 326]
def NS (a:Me)(b:Mv):Mc:=kg .none a a b 0 .none .none .none .none .none .none
def JD:Mc:=NS "is_whole" TD
def bX (a:Me)(b:Me)(c:Nat)(d:Nat)(e:Nat)(f:Nat)(g:Nat):Mc:=kc a b c (c+1) (c+2) d e 3 f (f+1) (f+2) (f+3) (f+4) g d (g+1)
def E7:Mc:=bX "is_whole" "is_whole" 323 20 1 112 327
def bJ (a:Me)(b:Mv)(c:G')(d:Nat):Mc:=kf a a b .none .none c (r d) .none
def E8:Mc:=bJ "is_whole" TD zz6 117
def JE:Mc:=kt [z "many" 333]
def JF:Mc:=NS "is_count" Pf
def E9:Mc:=bX "is_count" "is_count" 330 22 1 119 334
def Fa:Mc:=bJ "is_count" Pf zz6 124
def JG:Mc:=kt [z "many" 340]
def JH:Mc:=NS "look_count" WX
def Fb:Mc:=bX "look_count" "look_count" 337 24 1 126 341
def Fc:Mc:=bJ "look_count" WX zz6 131
def JI:Mc:=NS "look_order" s14
def kI (a:Me)(b:Nat)(c:Nat)(d:Nat)(e:Nat):Mc:=kj (.type "code") (.fields #[z a b,z a (b+1),z "/claim/cut.py" (b+2),i c 0,i d 0,i 0 0,i 0 0,i 3 0,r e,.bool true,i 181 0,r (e+1),.none,.none,.none,r (e+2),i (b+3) 0,i c 0,z "/claim/cut.py" (b+4)])
def Fd:Mc:=kI "look_order" 344 27 2 133
def Fe:Mc:=bJ "look_order" s14 zz6 136
def Cb:List Op:=Ca P++[dk P "Shelf" 394 (r 161),dk P "look_book" 405 (r 172),dk P "look_parts" 412 (r 179),dk P "things_from" 422 (r 186),dk P "look_doors" 433 (r 193)]
def JJ:Mc:=kj (.type "dict") (.dict ⟨dk P "__name__" 165 Pk::Cb P⟩ 30)
def Af:=Ae++lt 39 143++lt 50 171++lt 58 178++lt 67 185++lt 73 192
def IC:Mc:=kl Af
def JK:Mc:=kj (.type "dict") (.dict #[dk P "__module__" 365 Pk,dk P "__qualname__" 367 (z "Shelf" 366),dk P "__firstlineno__" 369 (i 39 368),dk P "__init__" 376 (r 151),dk P "keep" 384 (r 158),dk P "__static_attributes__" 387 (r 159)] 6)
def JL:Mc:=kj .none (.fields #[i 41 0,i 4 0,r 150,i 45 0,i 4 0,r 157])
def JM:Mc:=SV "Shelf" 360 39 141
def JN:Mc:=TQ 143 Pk
def JO:Mc:=kt [z "self" 373]
def JP:Mc:=kg .none "__init__" "Shelf.__init__" (rO Xf 0) 0 .none .none .none .none .none .none
def Ff:Mc:=bX "__init__" "Shelf.__init__" 370 41 1 145 374
def Fh:Mc:=kf "__init__" "Shelf.__init__" (rO Xf 0) .none .none Pk (r 150) .none
def JQ:Mc:=kt [z "self" 380,z "room" 381]
def JR:Mc:=kg .none "keep" "Shelf.keep" (rO Xf 1) 0 .none .none .none .none .none .none
def Fj:Mc:=bX "keep" "Shelf.keep" 377 45 2 152 382
def Fl:Mc:=kf "keep" "Shelf.keep" (rO Xf 1) .none .none Pk (r 157) .none
def JS:Mc:=kt [z "numbers" 385,z "rooms" 386]
def Fm:Mc:=kj (.type "dict") (.dict #[dk P "__module__" 365 Pk,dk P "__firstlineno__" 369 (i 39 368),dk P "__init__" 376 (r 151),dk P "keep" 384 (r 158),dk P "__static_attributes__" 387 (r 159),dk P "__dict__" 389 (r 162),dk P "__weakref__" 391 (r 163),dk P "__doc__" 392 .none] 4)
def Fn:Mc:=⟨(.type "type"),none,.cls { name:="Shelf",bases:=[.type "object"],mro:=[r 161,.type "object"],ns:=160,qualname:="Shelf",subclasses:=[] },#[none,none,(some (z "Shelf" 358)),(some (z "Shelf" 366)),(some (.builtin "object.__new__")),(some (.bool true))]⟩
def JT:Mc:=kj (.type "getset_descriptor") (.fields #[z "__dict__" 388,r 161,.builtin "function.__dict__",.builtin "function.__dict__#set"])
def JU:Mc:=kk3 390 161
def JV:Mc:=TR 161
def JW:Mc:=TU 161
def JX:Mc:=kt [z "book" 398,z "many" 399,z "rooms" 400,z "first" 401,z "things" 402]
def JZ:Mc:=NS "look_book" s20
def Fo:Mc:=bX "look_book" "look_book" 395 50 1 166 403
def Fp:Mc:=bJ "look_book" s20 Pk 171
def J2:Mc:=kt [z "book" 409]
def J3:Mc:=NS "look_parts" s21
def Fq:Mc:=bX "look_parts" "look_parts" 406 58 1 173 410
def Fr:Mc:=bJ "look_parts" s21 Pk 178
def mQ (a:Me)(b:Nat)(c:Me)(d:Me)(e:Me):Mc:=kt [z a b,z c (b+1),z d (b+2),z e (b+3)]
def J4:Mc:=mQ "many" 416 "rooms" "things" "room"
def J6:Mc:=NS "things_from" s22
def Fs:Mc:=bX "things_from" "things_from" 413 67 2 180 420
def Ft:Mc:=bJ "things_from" s22 Pk 185
def Ka:Mc:=kt [z "many" 426,z "room" 427,z "number" 428,z "last" 429,z "door" 430]
def Kb:Mc:=NS "look_doors" s23
def Fu:Mc:=bX "look_doors" "look_doors" 423 73 3 187 431
def Fv:Mc:=bJ "look_doors" s23 Pk 192
def Cc:List Op:=Cb P++[dk P "is_door" 440 (r 200),dk P "things_of_room" 446 (r 205),dk P "things_through" 456 (r 212),dk P "look_first" 465 (r 219),dk P "look_turn" 474 (r 226),dk P "walk_rooms" 484 (r 233),dk P "book_of" 495 (r 240),dk P "shelve" 501 (r 245),dk P "grown" 512 (r 252),dk P "grow" 526 (r 259)]
def Kc:Mc:=kj (.type "dict") (.dict ⟨dk P "__name__" 165 TM::Cc P⟩ 40)
def wb:=Af++lt 85 199++lt 87 204++lt 92 211++lt 98 218++lt 105 225++lt 112 232++lt 118 239++lt 127 244++lt 135 251++lt 139 258
def Fx:Mc:=kl wb
def Ke:Mc:=kt [z "door" 437]
def Kf:Mc:=NS "is_door" s24
def Fy:Mc:=bX "is_door" "is_door" 434 85 1 194 438
def Fz:Mc:=bJ "is_door" s24 Pk 199
def Kg:Mc:=NS "things_of_room" QT
def FA:Mc:=kI "things_of_room" 441 87 2 201
def FC:Mc:=bJ "things_of_room" QT Pk 204
def Kh:Mc:=mQ "door" 450 "things" "thing" "later"
def Ki:Mc:=NS "things_through" RP
def FD:Mc:=bX "things_through" "things_through" 447 92 2 206 454
def FE:Mc:=bJ "things_through" RP Pk 211
def Kj:Mc:=kt [z "many" 460,z "things" 461,z "first" 462]
def Kk:Mc:=NS "look_first" s27
def FF:Mc:=bX "look_first" "look_first" 457 98 3 213 463
def FG:Mc:=bJ "look_first" s27 Pk 218
def Kl:Mc:=kt [z "rooms" 469,z "first" 470,z "walked" 471]
def Km:Mc:=NS "look_turn" s28
def FH:Mc:=bX "look_turn" "look_turn" 466 105 2 220 472
def FI:Mc:=bJ "look_turn" s28 Pk 225
def Kn:Mc:=mQ "rooms" 478 "number" "walked" "door"
def Ko:Mc:=NS "walk_rooms" s29
def FJ:Mc:=bX "walk_rooms" "walk_rooms" 475 112 3 227 482
def FK:Mc:=bJ "walk_rooms" s29 Pk 232
def Kp:Mc:=kt [z "many" 488,z "orders" 489,z "order" 490,z "shelf" 491,z "first" 492]
def Kq:Mc:=NS "book_of" s30
def FM:Mc:=bX "book_of" "book_of" 485 118 2 234 493
def FN:Mc:=bJ "book_of" s30 Pk 239
def Kr:Mc:=NS "shelve" s31
def FO:Mc:=kI "shelve" 496 127 3 241
def FP:Mc:=bJ "shelve" s31 Pk 244
def Ks:Mc:=kt [z "many" 505,z "state" 506,z "doors_from" 507,z "shelf" 508,z "first" 509]
def Kt:Mc:=NS "grown" s32
def FQ:Mc:=bX "grown" "grown" 502 135 3 246 510
def FR:Mc:=bJ "grown" s32 Pk 251
def Ku:Mc:=kt [z "shelf" 516,z "state" 517,z "doors_from" 518,z "known" 519,z "doors" 520,z "thing" 521,z "later" 522,z "number" 523]
def Kv:Mc:=NS "grow" s33
def FS:Mc:=bX "grow" "grow" 513 139 4 253 524
def FT:Mc:=bJ "grow" s33 Pk 258
def Ag:List Op:=Cc P++[dk P "CLOSES" 551 (r 260),dk P "joined" 560 (r 278),dk P "look_alike" 568 (r 285),dk P "join_books" 581 (r 292),dk P "meet" 591 (r 299),dk P "doors_of_pair" 605 (r 306),dk P "doors_by_thing" 613 (r 313),dk P "parting" 622 (r 320),dk P "least_order" 632 (r 327),dk P "_law_cell" 642 (r 334)]
def ID:Mc:=kj (.type "dict") (.dict ⟨dk P "__name__" 165 RQ::Ag P⟩ 50)
def wc:=wb++lt 150 277++lt 155 284++lt 160 291++lt 164 298++lt 171 305++lt 178 312++lt 182 319++lt 188 326++lt 197 333
def FU:Mc:=kl wc
def FV:Mc:=kj (.type "dict") (.dict #[dk P "or" 529 (r 264),dk P "and" 536 (r 266),dk P "less" 539 (r 268),dk P "odd" 542 (r 271)] 4)
def FW:Mc:=kt [i 1 530,i 0 531]
def FX:Mc:=kt [i 0 532,i 1 533]
def FY:Mc:=kt [i 1 534,i 1 535]
def FZ:Mc:=kt [r 261,r 262,r 263]
def F1:Mc:=kt [i 1 537,i 1 538]
def F2:Mc:=kt [r 265]
def F4:Mc:=kt [i 1 540,i 0 541]
def F5:Mc:=kt [r 267]
def F6:Mc:=kt [i 1 543,i 0 544]
def F7:Mc:=kt [i 0 545,i 1 546]
def F8:Mc:=kt [r 269,r 270]
def Kw:Mc:=kt [z "word" 555,z "one" 556,z "other" 557]
def Kx:Mc:=NS "joined" s36
def F9:Mc:=bX "joined" "joined" 552 150 3 272 558
def Ga:Mc:=bJ "joined" s36 TM 277
def Ky:Mc:=kt [z "one" 564,z "other" 565]
def Kz:Mc:=NS "look_alike" s37
def Gb:Mc:=bX "look_alike" "look_alike" 561 155 2 279 566
def Gc:Mc:=bJ "look_alike" s37 TM 284
def KB:Mc:=mQ "word" 572 "one" "other" "first"
def KC:Mc:=kt [z "one" 576,z "other" 577,z "closes" 578]
def KD:Mc:=NS "join_books" s38
def Gd:Mc:=bX "join_books" "join_books" 569 160 3 286 579
def Ge:Mc:=bJ "join_books" s38 TM 291
def KF:Mc:=mQ "closes" 585 "one" "other" "settled"
def KG:Mc:=NS "meet" s39
def Gf:Mc:=bX "meet" "meet" 582 164 3 293 589
def Gg:Mc:=bJ "meet" s39 TM 298
def KH:Mc:=kt []
def KI:Mc:=kj .none (.fields #[])
def KJ:Mc:=kt [z "closes" 595,z "rooms" 596,z "others" 597,z "pair" 598,z "mine" 599,z "theirs" 600,z "found" 601,z "thing" 602]
def KM:Mc:=kt []
def KN:Mc:=NS "doors_of_pair" s40
def Gh:Mc:=bX "doors_of_pair" "doors_of_pair" 592 171 4 300 603
def Gi:Mc:=bJ "doors_of_pair" s40 TM 305
def KO:Mc:=kt []
def KP:Mc:=kj .none (.fields #[])
def KQ:Mc:=kt [z "rooms" 609,z "number" 610]
def KR:Mc:=kt []
def KS:Mc:=NS "doors_by_thing" s41
def Gj:Mc:=bX "doors_by_thing" "doors_by_thing" 606 178 2 307 611
def Gk:Mc:=bJ "doors_by_thing" s41 TM 312
def KU:Mc:=kt []
def KW:Mc:=kj .none (.fields #[])
def KY:Mc:=kt [z "one" 617,z "other" 618,z "odd" 619]
def KZ:Mc:=kt []
def K0:Mc:=NS "parting" s42
def Gm:Mc:=bX "parting" "parting" 614 182 2 314 620
def Gn:Mc:=bJ "parting" s42 TM 319
def K1:Mc:=kt []
def K3:Mc:=kj .none (.fields #[])
def K4:Mc:=mQ "book" 626 "things" "number" "door"
def K7:Mc:=kt []
def K8:Mc:=NS "least_order" s43
def Go:Mc:=bX "least_order" "least_order" 623 188 1 321 630
def Gp:Mc:=bJ "least_order" s43 TM 326
def K9:Mc:=kt []
def La:Mc:=kj .none (.fields #[])
def Lb:Mc:=kt [z "_law_script" 638,z "_law_k" 639]
def Lc:Mc:=kt []
def Ld:Mc:=NS "_law_cell" UN
def Gq:Mc:=bX "_law_cell" "_law_cell" 635 197 2 328 640
def Gr:Mc:=bJ "_law_cell" UN RQ 333
def Gs:List Op:=Ag P++[dk P "_law_mix" 651 (r 341),dk P "_law_all" 657 (r 346),dk P "_law_set" 663 (r 351),dk P "_law_lay" 669 (r 356),dk P "_law_book" 679 (r 363),dk P "_law_two" 685 (r 368),dk P "_law_refusal" 693 (r 375),dk P "_law_told" 705 (r 382),dk P "law" 711 (r 387)]
def xH:Mc:=kj (.type "dict") (.dict ⟨dk P "__name__" 165 RQ::Gs P⟩ 59)
def Du:=wc++lt 201 340++lt 205 345++lt 213 350++lt 223 355++lt 234 362++lt 240 367++lt 249 374++lt 258 381++lt 266 386
def Ah:Mc:=kl Du
def Le:Mc:=kt []
def Lf:Mc:=kj .none (.fields #[])
def Lg:Mc:=kt [z "_law_script" 646,z "_law_k" 647,z "_law_number" 648]
def Lh:Mc:=kt []
def Li:Mc:=NS "_law_mix" s46
def Gu:Mc:=bX "_law_mix" "_law_mix" 643 201 2 335 649
def Gv:Mc:=bJ "_law_mix" s46 RQ 340
def Lj:Mc:=kt []
def Lk:Mc:=kj .none (.fields #[])
def Ll:Mc:=NS "_law_all" s47
def Gw:Mc:=kI "_law_all" 652 205 1 342
def Gx:Mc:=bJ "_law_all" s47 RQ 345
def Lm:Mc:=kt []
def Ln:Mc:=kj .none (.fields #[])
def Lo:Mc:=NS "_law_set" s48
def Gy:Mc:=kI "_law_set" 658 213 3 347
def Gz:Mc:=bJ "_law_set" s48 RQ 350
def Lp:Mc:=kt []
def Lq:Mc:=kj .none (.fields #[])
def Lr:Mc:=NS "_law_lay" s49
def GA:Mc:=kI "_law_lay" 664 223 4 352
def GB:Mc:=bJ "_law_lay" s49 RQ 355
def Ls:Mc:=kt []
def Lu:Mc:=kj .none (.fields #[])
def Lv:Mc:=mQ "_law_many" 673 "_law_orders" "_law_rooms" "_law_first"
def Lw:Mc:=kt []
def Lx:Mc:=NS "_law_book" s50
def GC:Mc:=bX "_law_book" "_law_book" 670 234 2 357 677
def GD:Mc:=bJ "_law_book" s50 RQ 362
def Ly:Mc:=kt []
def Lz:Mc:=kj .none (.fields #[])
def LA:Mc:=NS "_law_two" s51
def GE:Mc:=kI "_law_two" 680 240 3 364
def GF:Mc:=bJ "_law_two" s51 RQ 367
def LB:Mc:=kt []
def LC:Mc:=kj .none (.fields #[])
def LD:Mc:=kt [z "_law_kept" 689,z "_law_kinds" 690]
def LF:Mc:=kt []
def LG:Mc:=NS "_law_refusal" s52
def GG:Mc:=bX "_law_refusal" "_law_refusal" 686 249 1 369 691
def GH:Mc:=bJ "_law_refusal" s52 RQ 374
def LH:Mc:=kt []
def LI:Mc:=kj .none (.fields #[])
def LJ:Mc:=kt [z "_law_word" 697,z "_law_one" 698,z "_law_other" 699,z "_law_kept" 700,z "_law_found" 701,z "e" 702]
def LK:Mc:=kt []
def LL:Mc:=NS "_law_told" s53
def GI:Mc:=bX "_law_told" "_law_told" 694 258 3 376 703
def GJ:Mc:=bJ "_law_told" s53 RQ 381
def LM:Mc:=kt []
def LN:Mc:=kj .none (.fields #[])
def LO:Mc:=NS "law" s54
def GL:Mc:=kI "law" 706 266 1 383
def GM:Mc:=bJ "law" s54 RQ 386
def ev:List Mc->List Mc
 | x::_::r=>x::ev r
 | l=>l
def od:List Mc->List Mc
 | _::y::r=>y::od r
 | _=>[]
def tr:Nat->List Mc->BT
 | n+1,x::r=>.node x (tr n (ev r)) (tr n (od r))
 | _,_=>.nil
def xI (x3 OQ OS:Mc):List Mc:=[boot_o_0 P,boot_o_1 P,boot_o_2 P,x3,boot_o_4 P,boot_o_5 P,boot_o_6 P,boot_o_7 P,boot_o_8 P,boot_o_9 P,boot_o_10 P,o11,OQ,o13,o14]
abbrev Dv:=xI
def GN (x3 OQ OS:Mc):List Mc:=xI P x3 OQ OS++[o15,TN,o17 P,o11,o12,o20,o21,o11,o23 P,OS,Y7,o26,o27]
def GO (x3 OQ OS:Mc):List Mc:=GN P x3 OQ OS++[Vx,TN,o30 P,o31,Ol,o33,o34,Nc,Y8 P,Y9,o38,o39]
def GQ (x3 OQ OS:Mc):List Mc:=GO P x3 OQ OS++[Vx,TN,o42 P,Nc,Ol,o45,o46,Nc,o48 P,o49,o50,o51]
def GS (x3 OQ OS:Mc):List Mc:=GQ P x3 OQ OS++[Vx,TN,o54 P,Nc,Ol,o57,o58,Nc,o60 P,o61,o62,o63]
def GT (x3 OQ OS:Mc):List Mc:=GS P x3 OQ OS++[Vx,TN,o66 P,Nc,Ol,o69,o70,Nc,o72 P,o73,o74,o75]
def GU (x3 OQ OS:Mc):List Mc:=GT P x3 OQ OS++[Vx,TN,o78 P,Nc,Ol,o81,o82,Nc,o84 P,o85,o86,o87]
def GV (x3 OQ OS:Mc):List Mc:=GU P x3 OQ OS++[Vx,TN,o90 P,Nc,Ol,o93,o94,Nc,o96 P,o97,o98,o99]
def GW (x3 OQ OS:Mc):List Mc:=GV P x3 OQ OS++[Vx,TN,Jx P,Nc,Ol,Jy,Jz,Nc,E5 P,E6,JA,JB,Nc,Ol,JC,Nc,JD,E7,E8,Nc,Ol,JE,Nc,JF,E9,Fa,Nc,Ol,JG,Nc,JH,Fb,Fc,Nc,Ol,JI,Fd,Fe]
def GX (x3 OQ OS:Mc):List Mc:=GW P x3 OQ OS++[Nc,TN,JK P,Nc,JL,JM,JN,Nc,Ol,JO,Nc,JP,Ff,Fh,Nc,Ol,JQ,Nc,JR,Fj,Fl,JS,Fm P,Fn,JT,JU,JV,JW,Nc,Ol,JX,Nc,JZ,Fo,Fp,Nc,Ol,J2,Nc,J3,Fq,Fr,Nc,Ol,J4,Nc,J6,Fs,Ft,Nc,Ol,Ka,Nc,Kb,Fu,Fv]
def GY (x3 OQ OS:Mc):List Mc:=GX P x3 OQ OS++[Nc,Ol,Ke,Nc,Kf,Fy,Fz,Nc,Ol,Kg,FA,FC,Nc,Ol,Kh,Nc,Ki,FD,FE,Nc,Ol,Kj,Nc,Kk,FF,FG,Nc,Ol,Kl,Nc,Km,FH,FI,Nc,Ol,Kn,Nc,Ko,FJ,FK,Nc,Ol,Kp,Nc,Kq,FM,FN,Nc,Ol,Kr,FO,FP,Nc,Ol,Ks,Nc,Kt,FQ,FR,Nc,Ol,Ku,Nc,Kv,FS,FT]
def Cd (x3 OQ OS:Mc):List Mc:=GY P x3 OQ OS++[FV P,FW,FX,FY,FZ,F1,F2,F4,F5,F6,F7,F8,Nc,Ol,Kw,Nc,Kx,F9,Ga,Nc,Ol,Ky,Nc,Kz,Gb,Gc,Nc,Ol,KB,KC,KD,Gd,Ge,Nc,Ol,KF,Nc,KG,Gf,Gg,KH,KI,KJ,KM,KN,Gh,Gi,KO,KP,KQ,KR,KS,Gj,Gk,KU,KW,KY,KZ,K0,Gm,Gn,K1,K3,K4,K7,K8,Go,Gp,K9,La,Lb,Lc,Ld,Gq,Gr]
def Ce (x3 OQ OS:Mc):List Mc:=Cd P x3 OQ OS++[Le,Lf,Lg,Lh,Li,Gu,Gv,Lj,Lk,Ll,Gw,Gx,Lm,Ln,Lo,Gy,Gz,Lp,Lq,Lr,GA,GB,Ls,Lu,Lv,Lw,Lx,GC,GD,Ly,Lz,LA,GE,GF,LB,LC,LD,LF,LG,GG,GH,LH,LI,LJ,LK,LL,GI,GJ,LM,LN,LO,GL,GM]
def we:BT:=tr 10 (Dv P (boot_o_3 P) (o12) (o14))
def GZ:BT:=tr 10 (GN P (o3 P) (Ik) (o24))
def G0:BT:=tr 10 (GO P (Jq P) (Il) (Im))
def G3:BT:=tr 10 (GQ P (Jr P) (Io) (Ip))
def G4:BT:=tr 10 (GS P (Js P) (Iq) (Ir))
def G5:BT:=tr 10 (GT P (Jt P) (Iu) (Iv))
def G6:BT:=tr 10 (GU P (Ju P) (Ix) (Iy))
def G7:BT:=tr 10 (GV P (Jv P) (Iz) (IA))
def G8:BT:=tr 10 (GW P (Jw P) (IB) (jH))
def G9:BT:=tr 10 (GX P (JJ P) (IC) (jH))
def xJ:BT:=tr 10 (GY P (Kc P) (Fx) (jH))
def rP:BT:=tr 10 (Cd P (ID P) (FU) (jH))
def Cf:BT:=tr 10 (Ce P (xH P) (Ah) (jH))
def hA:Mp:=⟨⟨xI P (boot_o_3 P) (o12) (o14)⟩,{}⟩
def hF:Mp:=⟨⟨Ce P (xH P) (Ah) (jH)⟩,{}⟩
def K:Frag:=(nat_lit 2,boot_o_2 P)::(nat_lit 3,xH P)::(nat_lit 23,o23 P)::(nat_lit 24,jH)::(nat_lit 36,Y8 P)::(nat_lit 37,Y9)::(nat_lit 48,o48 P)::(nat_lit 49,o49)::(nat_lit 60,o60 P)::(nat_lit 61,o61)::(nat_lit 72,o72 P)::(nat_lit 73,o73)::(nat_lit 84,o84 P)::(nat_lit 85,o85)::(nat_lit 96,o96 P)::(nat_lit 97,o97)::(nat_lit 108,E5 P)::(nat_lit 109,E6)::(nat_lit 117,E7)::(nat_lit 118,E8)::(nat_lit 124,E9)::(nat_lit 125,Fa)::(nat_lit 131,Fb)::(nat_lit 132,Fc)::(nat_lit 136,Fd)::(nat_lit 137,Fe)::(nat_lit 150,Ff)::(nat_lit 151,Fh)::(nat_lit 157,Fj)::(nat_lit 158,Fl)::(nat_lit 160,Fm P)::(nat_lit 161,Fn)::(nat_lit 171,Fo)::(nat_lit 172,Fp)::(nat_lit 178,Fq)::(nat_lit 179,Fr)::(nat_lit 185,Fs)::(nat_lit 186,Ft)::(nat_lit 192,Fu)::(nat_lit 193,Fv)::(nat_lit 199,Fy)::(nat_lit 200,Fz)::(nat_lit 204,FA)::(nat_lit 205,FC)::(nat_lit 211,FD)::(nat_lit 212,FE)::(nat_lit 218,FF)::(nat_lit 219,FG)::(nat_lit 225,FH)::(nat_lit 226,FI)::(nat_lit 232,FJ)::(nat_lit 233,FK)::(nat_lit 239,FM)::(nat_lit 240,FN)::(nat_lit 244,FO)::(nat_lit 245,FP)::(nat_lit 251,FQ)::(nat_lit 252,FR)::(nat_lit 258,FS)::(nat_lit 259,FT)::(nat_lit 260,FV P)::(nat_lit 261,FW)::(nat_lit 262,FX)::(nat_lit 263,FY)::(nat_lit 264,FZ)::(nat_lit 265,F1)::(nat_lit 266,F2)::(nat_lit 267,F4)::(nat_lit 268,F5)::(nat_lit 269,F6)::(nat_lit 270,F7)::(nat_lit 271,F8)::(nat_lit 277,F9)::(nat_lit 278,Ga)::(nat_lit 284,Gb)::(nat_lit 285,Gc)::(nat_lit 291,Gd)::(nat_lit 292,Ge)::(nat_lit 298,Gf)::(nat_lit 299,Gg)::(nat_lit 305,Gh)::(nat_lit 306,Gi)::(nat_lit 312,Gj)::(nat_lit 313,Gk)::(nat_lit 319,Gm)::(nat_lit 320,Gn)::(nat_lit 326,Go)::(nat_lit 327,Gp)::(nat_lit 333,Gq)::(nat_lit 334,Gr)::(nat_lit 340,Gu)::(nat_lit 341,Gv)::(nat_lit 345,Gw)::(nat_lit 346,Gx)::(nat_lit 350,Gy)::(nat_lit 351,Gz)::(nat_lit 355,GA)::(nat_lit 356,GB)::(nat_lit 362,GC)::(nat_lit 363,GD)::(nat_lit 367,GE)::(nat_lit 368,GF)::(nat_lit 374,GG)::(nat_lit 375,GH)::(nat_lit 381,GI)::(nat_lit 382,GJ)::(nat_lit 386,GL)::(nat_lit 387,GM)::[]
def as_:List D':=[2,3,23,24,36,37,48,49,60,61,72,73,84,85,96,97,108,109,117,118,124,125,131,132,136,137,150,151,157,158,160,161,171,172,178,179,185,186,192,193,199,200,204,205,211,212,218,219,225,226,232,233,239,240,244,245,251,252,258,259,260,261,262,263,264,265,266,267,268,269,270,271,277,278,284,285,291,292,298,299,305,306,312,313,319,320,326,327,333,334,340,341,345,346,350,351,355,356,362,363,367,368,374,375,381,382,386,387]
def B:List Frame:=[topFrame ⟨0,0,0,0⟩]
def env:NK:={ scope:=pw.main.scope,locals:=mainNs,globals:=mainNs,cells:=[],code:=(.ref 13),frame:=some 14 }
def cE:Code:=.body (behindTheImports pw) env
def sT (t:U2->BT)(n k:Nat)(w:Mt)(os:OV):SharedT:=⟨t w.params,n,{},⟨[]⟩,{},k,os⟩
def sH (h:U2->Mp)(k:Nat)(w:Mt)(os:OV):Md:=⟨h w.params,⟨[]⟩,{},k,os⟩
def sO (w:Mt)(os:OV):Md:=⟨XR w.params,⟨[]⟩,boot_drawn,boot_toks,os⟩
theorem LP (w)(os):topGo treeTable pw w 11 (some (.ref 6)) 12 (sO w os) (topStub pw)=some (sH hA 187 w os,⟨denote treeTable cE,cE,⟨0,0,0,0⟩,B⟩):=by
 rewrite [W.Fast.te15667345088766844465,Qz,W.Fast.te11892475500146522536];kernel_rfl
theorem Ha (w)(os):segRun treeTable pw w 11 (some (.ref 6)) 1 1 (sH hA 187 w os) (blockOf (behindTheImports pw) env cE ⟨0,0,0,0⟩ B)=some (.next,(sT we 15 187 w os).abs,cE,⟨0,0,0,0⟩):=by
 rewrite [W.Fast.te14374325043358763698,Qz];kernel_rfl
def Hb:List Mv:=[s0,s1]
theorem LQ (w)(os):segRunT treeTable pw w 11 (some (.ref 6)) 1 196 (sT we 15 187 w os) (piecesOf Hb env cE ⟨0,0,0,0⟩ B)=some (.next,sT GZ 28 207 w os,cE,⟨2,0,3,8⟩):=by
 rewrite [Rs,Qz];kernel_rfl
def Hc:List Mv:=[s2]
theorem LR (w)(os):segRunT treeTable pw w 11 (some (.ref 6)) 1 214 (sT GZ 28 207 w os) (piecesOf Hc env cE ⟨2,0,3,8⟩ B)=some (.next,sT G0 40 223 w os,cE,⟨4,0,5,8⟩):=by
 rewrite [Rs,Qz];kernel_rfl
def He:List Mv:=[s3]
theorem LS (w)(os):segRunT treeTable pw w 11 (some (.ref 6)) 1 214 (sT G0 40 223 w os) (piecesOf He env cE ⟨4,0,5,8⟩ B)=some (.next,sT G3 52 239 w os,cE,⟨6,0,7,8⟩):=by
 rewrite [Rs,Qz];kernel_rfl
def Hf:List Mv:=[s4]
theorem LU (w)(os):segRunT treeTable pw w 11 (some (.ref 6)) 1 214 (sT G3 52 239 w os) (piecesOf Hf env cE ⟨6,0,7,8⟩ B)=some (.next,sT G4 64 255 w os,cE,⟨8,0,9,8⟩):=by
 rewrite [Rs,Qz];kernel_rfl
def Hg:List Mv:=[s5]
theorem LV (w)(os):segRunT treeTable pw w 11 (some (.ref 6)) 1 214 (sT G4 64 255 w os) (piecesOf Hg env cE ⟨8,0,9,8⟩ B)=some (.next,sT G5 76 271 w os,cE,⟨10,0,11,8⟩):=by
 rewrite [Rs,Qz];kernel_rfl
def Hh:List Mv:=[s6]
theorem LW (w)(os):segRunT treeTable pw w 11 (some (.ref 6)) 1 214 (sT G5 76 271 w os) (piecesOf Hh env cE ⟨10,0,11,8⟩ B)=some (.next,sT G6 88 287 w os,cE,⟨12,0,13,8⟩):=by
 rewrite [Rs,Qz];kernel_rfl
def Hi:List Mv:=[s7]
theorem LX (w)(os):segRunT treeTable pw w 11 (some (.ref 6)) 1 214 (sT G6 88 287 w os) (piecesOf Hi env cE ⟨12,0,13,8⟩ B)=some (.next,sT G7 100 303 w os,cE,⟨14,0,15,8⟩):=by
 rewrite [Rs,Qz];kernel_rfl
def Hj:List Mv:=[s8,s9,SQ,TD,Pf,WX,s14,s15,s16,s17,s18]
theorem LY (w)(os):segRunT treeTable pw w 11 (some (.ref 6)) 1 381 (sT G7 100 303 w os) (piecesOf Hj env cE ⟨14,0,15,8⟩ B)=some (.next,sT G8 138 358 w os,cE,⟨38,0,38,6⟩):=by
 rewrite [Rs,Qz];kernel_rfl
def Hk:List Mv:=[Xf,s20,s21,s22,s23]
theorem LZ (w)(os):segRunT treeTable pw w 11 (some (.ref 6)) 1 382 (sT G8 138 358 w os) (piecesOf Hk env cE ⟨38,0,38,6⟩ B)=some (.next,sT G9 194 434 w os,cE,⟨73,0,84,22⟩):=by
 rewrite [Rs,Qz];kernel_rfl
def Hl:List Mv:=[s24,QT,RP,s27,s28,s29,s30,s31,s32,s33,s34]
theorem L4 (w)(os):segRunT treeTable pw w 11 (some (.ref 6)) 1 319 (sT G9 194 434 w os) (piecesOf Hl env cE ⟨73,0,84,22⟩ B)=some (.next,sT xJ 260 529 w os,cE,⟨148,0,148,8⟩):=by
 rewrite [Rs,Qz];kernel_rfl
def rQ:List Mv:=[s35,s36,s37,s38,s39,s40,s41,s42,s43,s44,UN]
theorem va (w)(os):segRunT treeTable pw (XC w "special-get-raises" false) 11 (some (.ref 6)) 1 399 (sT xJ 260 529 (XC w "special-get-raises" false) os) (piecesOf rQ env cE ⟨148,0,148,8⟩ B)=some (.next,sT rP 335 643 (XC w "special-get-raises" false) os,cE,⟨197,0,200,12⟩):=by
 rewrite [Rs,Qz];kernel_rfl
theorem xK (w)(os):segRunT treeTable pw (XC w "special-get-raises" true) 11 (some (.ref 6)) 1 399 (sT xJ 260 529 (XC w "special-get-raises" true) os) (piecesOf rQ env cE ⟨148,0,148,8⟩ B)=some (.next,sT rP 335 643 (XC w "special-get-raises" true) os,cE,⟨197,0,200,12⟩):=by
 rewrite [Rs,Qz];kernel_rfl
theorem IE (w)(os):segRunT treeTable pw w 11 (some (.ref 6)) 1 399 (sT xJ 260 529 w os) (piecesOf rQ env cE ⟨148,0,148,8⟩ B)=some (.next,sT rP 335 643 w os,cE,⟨197,0,200,12⟩):=by
 have e:=Mt.withFollow_self w "special-get-raises";cases hb:w.params.followText "special-get-raises" <;> rw[hb] at e
 .have h:=va w os;rw[e] at h;exact h
 .have h:=xK w os;rw[e] at h;exact h
def Cg:List Mv:=[s46,s47,s48,s49,s50,s51,s52,s53,s54]
theorem IG (w)(os):segRunT treeTable pw w 11 (some (.ref 6)) 1 258 (sT rP 335 643 w os) (piecesOf Cg env cE ⟨197,0,200,12⟩ B)=some (.next,sT Cf 388 712 w os,cE,⟨266,0,285,143⟩):=by
 rewrite [Rs,Qz];kernel_rfl
theorem L7 (w)(os):topRun treeTable pw w 11 (some (.ref 6)) 2 (sT Cf 388 712 w os).abs (restOf [] env cE ⟨266,0,285,143⟩ B)=some (sH hF 712 w os):=by
 rewrite [W.Fast.te14082659384304107361,Qz];kernel_rfl
theorem IH:behindTheImports pw=Hb++(Hc++(He++(Hf++(Hg++(Hh++(Hi++(Hj++(Hk++(Hl++(rQ++(Cg++[]))))))))))):=by kernel_rfl
theorem L8 (w)(os):topRun treeTable pw w 11 (some (.ref 6)) (12+(1+(196+(214+(214+(214+(214+(214+(214+(381+(382+(319+(399+(258+(2))))))))))))))) (sO w os) (topStub pw)=some (sH hF 712 w os):=by
 refine go_top (LP w os) (piece_block (Ha w os) ?_);rw[IH];exact R4 (R5 (LQ w os)) (R4 (R5 (LR w os)) (R4 (R5 (LS w os)) (R4 (R5 (LU w os)) (R4 (R5 (LV w os)) (R4 (R5 (LW w os)) (R4 (R5 (LX w os)) (R4 (R5 (LY w os)) (R4 (R5 (LZ w os)) (R4 (R5 (L4 w os)) (R4 (R5 (IE w os)) (R4 (R5 (IG w os)) (L7 w os))))))))))))
def jI:MD:={ pw with main:={ pw.main with body:=[s1,s2,s3,s4,s5,s6,s7,s8,SQ,TD,Pf,WX,s14,s16,s17,s18,Xf,s20,s21,s22,s23,s24,QT,RP,s27,s28,s29,s30,s31,s32,s33,s35,s36,s37,s38,s39,s40,s41,s42,s43,UN,s46,s47,s48,s49,s50,s51,s52,s53,s54] } }
abbrev BG:WRecords:=RowW.records (OpenRow.toRowW (OpenLaw.row PySem.Challenge.rw_ordernest_k10_whole_joined))
def Xt (s:Md):Bool:=xlAt jI [] s&&recOk BG s
abbrev H:Hook:=kHook K as_ (λ_=>by kernel_rfl)
theorem II (w:Mt):((XR w.params).isNs No&&(Array.mk ([]:List Z8)).size==0,(XR w.params).objs.size,(XR w.params).nsMap No "__annotations__")=(true,11,(some (.ref 6))):=by kernel_rfl
open PyProof.Rows in
theorem IJ (w:Mt) (os:OV):openSeen jI ["CLOSES"] (importedModules pw.main.body) Xt true (sH hF 712 w os)=openGood jI ["CLOSES"]:=by
 unfold openSeen openGood
 refine Tf ?a (Tf ?b (Tf ?c (Tf ?d (Tf ?e (Tf ?f (Tf ?g (Tf ?h ?i)))))))
 case a=>rewrite [W.Fast.te5160383126252970620,W.R.mapR_eq,adH,W.Fast.te5991557255702980513];kernel_rfl
 case b=>kernel_rfl
 case c=>rewrite [W.Fast.te10880121769531294198,adP,W.R.mapR_eq,adH,W.Fast.te7409074990110511671,W.Fast.te13664370479719496447,W.Fast.te14722251495701143533,adI,W.Fast.te10994771534591457954];kernel_rfl
 case d=>rewrite [W.Fast.te479339242167458305];kernel_rfl
 case e=>rewrite [W.Fast.te16090120013241838585,W.Fast.te3247288618530077131];kernel_rfl
 case f=>rewrite [W.Fast.te2386780881361962483,adP];kernel_rfl
 case g=>rewrite [W.Fast.te11698064438423848299];kernel_rfl
 case h=>rewrite [W.Fast.te7317090234206586261];kernel_rfl
 case i=>rewrite [W.Fast.te7369524293546568484];kernel_rfl
theorem IK (w)(os):(staticsOk (importedModules pw.main.body) (XR w.params) (hF w.params)&&namesBound pw (hF w.params)&&gensDone (sH hF 712 w os)&&laidKept (XR w.params) (hF w.params))=true:=by
 rewrite [adI];kernel_rfl
theorem L9 (w)(os):Hook.obs H (sH hF 712 w os)=Hook.val H w:=by kernel_rfl
theorem BH:opening pw=plainProg pw.main.scope.names:=by kernel_rfl
theorem IL:LeftO pw jI ["CLOSES"] Xt (Hook.obs H) (Hook.val H) 6540:=
 LeftO.of_pieces (H₁:=hF) (boot_open BH rfl λs=>by kernel_rfl) II L8 rfl λw=>funext λos=>Tf (IK w os) (Tf (IJ w os) (L9 w os))
end
end Vw
namespace L2
open PySem PySem.Spec PyProof.Rows
structure Dn (K)(x)(st)(f)(fd):Prop where
 fn:Nh K x x st f fd
 ns:Og K No x=some (some (.ref f))
theorem br {K:Mi}{x:Me}{st:Mv}{f:D'}{oc:G'}{od an:Option D'}{PN:Array (Option G')}{kV doc pm MB ct:G'}(a:Og K No x=some (some (.ref f)))(l:K.lookup f=some ⟨oc,od,.func (Tk x x (dz st) (cm st) (ak st) .none kV doc pm an MB ct),PN⟩)(c:Z9 K MB x=true)(k:Sx K (.ref f)=true):
  Dn K x st f (Tk x x (dz st) (cm st) (ak st) .none kV doc pm an MB ct):=⟨yh l c k,a⟩
theorem Dn.df {P:MD}{w:Mt}{K:Mi}{mg:Me->Option G'}{base h:Mp}{CX:Pd}{k:Nat}{x:Me}{st:Mv}{f:D'}{fd:MY}{ps:List Me}{sp:Sp}(D:Dn K x st f fd)(X:K.In h)(G:h.Ns No mg)(b:bK K fd ps [])(F:MU P w K mg base CX k f fd ps sp):Df P w K mg base CX k x ps sp:=⟨f,fd,F,b,D.fn.kp,PK X G D.ns⟩
structure Mn (K)(C)(x qual)(st)(f)(fd):Prop where
 fn:Nh K x qual st f fd
 mt:Up K C x f
theorem Ch {K:Mi}{C:D'}{x qual:Me}{st:Mv}{f:D'}{oc:G'}{od an:Option D'}{PN:Array (Option G')}{kV doc pm MB ct:G'}(a:OO K (.ref C) x=some (some (.ref f)))(i:W.isFn K (.ref f)=true)(l:K.lookup f=some ⟨oc,od,.func (Tk x qual (dz st) (cm st) (ak st) .none kV doc pm an MB ct),PN⟩)(c:Z9 K MB qual=true)(k:Sx K (.ref f)=true):
  Mn K C x qual st f (Tk x qual (dz st) (cm st) (ak st) .none kV doc pm an MB ct):=⟨yh l c k,a,i,k⟩
theorem fQ {p:List G'->Prop}(h:∀a,p [a])(us:List G')(e:us.length=1):p us:=by
 cases us with
 | nil=>cases e
 | cons a us=>cases us with
 | nil=>exact h a
 | cons x us=>cases e
theorem eQ {p:List G'->Prop}(h:∀a b,p [a,b])(us:List G')(e:us.length=2):p us:=by
 cases us with
 | nil=>cases e
 | cons a us=>cases us with
 | nil=>cases e
 | cons b us=>cases us with
 | nil=>exact h a b
 | cons x us=>cases e
theorem fR {p:List G'->Prop}(h:∀a b c,p [a,b,c])(us:List G')(e:us.length=3):p us:=by
 cases us with
 | nil=>cases e
 | cons a us=>cases us with
 | nil=>cases e
 | cons b us=>cases us with
 | nil=>cases e
 | cons c us=>cases us with
 | nil=>exact h a b c
 | cons x us=>cases e
theorem xL {p:List G'->Prop}(h:∀a b c d,p [a,b,c,d])(us:List G')(e:us.length=4):p us:=by
 cases us with
 | nil=>cases e
 | cons a us=>cases us with
 | nil=>cases e
 | cons b us=>cases us with
 | nil=>cases e
 | cons c us=>cases us with
 | nil=>cases e
 | cons d us=>cases us with
 | nil=>exact h a b c d
 | cons x us=>cases e
end L2
namespace Ord
open PySem L2 Mx
theorem Kd.mk' (X:K.In h)(G:h.Ns No mg)(ho:Np K C (.ref C)=some true)(a:Og K No x=some (some (.ref D)))(c:PB K D=true)(t:Sw K (.ref D)=some (.type "type"))(m:Np K C (.ref D)=some b):Kd K mg C x b:=by
 refine⟨D,PK X G a,?_⟩;rw[Cw ⟨c,t⟩ m]
 by_cases e:C=D
 .subst e;rw[ho] at m;cases m;rw[Mu rfl]
 .rw[Mq e]
theorem Hm {l:W.OpenLaw}{w:Mt}{K:Mi}{h:Mp}{mg:Me->Option G'}{fa CO CB CR CU CE C c0 Pt aC:D'}(X:K.In h)(G:h.Ns No mg)(hfa:mg "law"=some (.ref fa)){t8 t0 t1 t2:Tok}{fi fk:D'}{gi gk:MY}{f0 f1 f2 f3 f4 f5 f6 f7 f8 f9 f10 f11 f12 f13 f14 f15 f16 f17 f18 f19 f20 f21 f22 f23 f24 f25 f26 f27 f28 f29 f30 f31 f32 f33 f34 f35:D'}{g0 g1 g2 g3 g4 g5 g6 g7 g8 g9 g10 g11 g12 g13 g14 g15 g16 g17 g18 g19 g20 g21 g22 g23 g24 g25 g26 g27 g28 g29 g30 g31 g32 g33 g34 g35:MY}(d0:Dn K "is_whole" sC f0 g0)(d1:Dn K "is_count" sD f1 g1)(d2:Dn K "look_count" sE f2 g2)(d3:Dn K "look_order" rA f3 g3)(d4:Dn K "is_door" tW f4 g4)(d5:Dn K "things_through" mx f5 g5)(d6:Dn K "look_parts" tZ f6 g6)(d7:Dn K "look_first" tY f7 g7)(d8:Dn K "look_doors" tX f8 g8)(d9:Dn K "things_of_room" lg f9 g9)(d10:Dn K "things_from" wU f10 g10)(d11:Dn K "walk_rooms" rE f11 g11)(d12:Dn K "look_turn" nL f12 g12)(d13:Dn K "look_book" wV f13 g13)(d14:Dn K "shelve" ja f14 g14)(d15:Dn K "book_of" pD f15 g15)(d16:Dn K "grow" lu f16 g16)(d17:Dn K "grown" oh f17 g17)(Za:Dn K "meet" rH f18 g18)(Zb:Dn K "doors_by_thing" mH f19 g19)(Zc:Dn K "doors_of_pair" lz f20 g20)(Zd:Dn K "join_books" bV f21 g21)(d22:Dn K "look_alike" uC f22 g22)(d23:Dn K "joined" pJ f23 g23)(d24:Dn K "least_order" uD f24 g24)(d25:Dn K "parting" mI f25 g25)(d26:Dn K "_law_cell" xA f26 g26)(d27:Dn K "_law_mix" BA f27 g27)(d28:Dn K "_law_all" Tt f28 g28)(d29:Dn K "_law_set" uH f29 g29)(d30:Dn K "_law_lay" iL f30 g30)(d31:Dn K "_law_book" kD f31 g31)(d32:Dn K "_law_two" pP f32 g32)(d33:Dn K "_law_refusal" xw f33 g33)(d34:Dn K "_law_told" xx f34 g34)(d35:Dn K "law" du f35 g35)(aS:Og K No "Shelf"=some (some (.ref C)))(mi:Mn K C "__init__" "Shelf.__init__" wZ fi gi)(mk:Mn K C "keep" "Shelf.keep" rG fk gk)(pg:Z4 K C Me.empty=true)(hd:aba K C=true)(po:W.plainOver K C=true)(sa:OO K (.ref C) "__setattr__"=some (some (.builtin "object.__setattr__")))(ms:W.makesIn K C=true)(kc:Sx K (.ref C)=true)(nR:OO K (.ref C) "rooms"=some none)(nN:OO K (.ref C) "numbers"=some none)(tj:ε K "join_books"=some (c0,Pt))(kp:K.lookup Pt=none){kvs:List (Key×G')}(TC:TxC l.prog w K mg aC kvs)(xo:Wc K CO Yz "ValueError.__new__"=true)(xb:Wc K CB Yz "ValueError.__new__"=true)(xr:Wc K CR Yz "ValueError.__new__"=true)(xu:Wc K CU Yz "ValueError.__new__"=true)(cn:Og K No "NestError"=some (some (.ref CE)))(nt:W.instIn K (.ref CE) (.type "tuple")=some false)(xc:Np K CE (.type "BaseException")=some true)(cl:PB K CE=true){D1 D4 D5:D'}(Xg:Og K No "BadBook"=some (some (.ref CB)))(Ze:PB K CB=true)(Zf:Sw K (.ref CB)=some (.type "type"))(Zg:Og K No "BadNumber"=some (some (.ref D1)))(Zh:PB K D1=true)(Zi:Sw K (.ref D1)=some (.type "type"))(Xh:Og K No "BadOrder"=some (some (.ref CO)))(Zj:PB K CO=true)(Zk:Sw K (.ref CO)=some (.type "type"))(Xi:Og K No "BadRule"=some (some (.ref CR)))(Zl:PB K CR=true)(Zm:Sw K (.ref CR)=some (.type "type"))(Zn:Og K No "BadText"=some (some (.ref D4)))(Zo:PB K D4=true)(Zp:Sw K (.ref D4)=some (.type "type"))(Zq:Og K No "BadWeights"=some (some (.ref D5)))(Zr:PB K D5=true)(Zs:Sw K (.ref D5)=some (.type "type"))(Xj:Og K No "Unlike"=some (some (.ref CU)))(Zt:PB K CU=true)(Zu:Sw K (.ref CU)=some (.type "type"))(onb:Np K CB (.ref CE)=some true)(eb1:PB K CB=true)(eb2:OO K (.ref CB) "__getattribute__"=some (some (.builtin "BaseException.__getattribute__")))(eb3:OO K (.ref CB) "__getattr__"=some none)(eb4:OO K (.ref CB) "__class__"=some (some (.builtin "object.__class__")))(eb5:Np K CB (.type "object")=some true)(eb6:Np K CB (.type "BaseException")=some true)(TV:Np K CB (.ref CB)=some true)(eb8:Np K CB (.type "ValueError")=some true)(mb0:Np K CB (.ref CB)=some true)(mb1:Np K CB (.ref D1)=some false)(mb2:Np K CB (.ref CO)=some false)(mb3:Np K CB (.ref CR)=some false)(mb4:Np K CB (.ref D4)=some false)(mb5:Np K CB (.ref D5)=some false)(mb6:Np K CB (.ref CU)=some false)(onr:Np K CR (.ref CE)=some true)(er1:PB K CR=true)(er2:OO K (.ref CR) "__getattribute__"=some (some (.builtin "BaseException.__getattribute__")))(er3:OO K (.ref CR) "__getattr__"=some none)(er4:OO K (.ref CR) "__class__"=some (some (.builtin "object.__class__")))(er5:Np K CR (.type "object")=some true)(er6:Np K CR (.type "BaseException")=some true)(TW:Np K CR (.ref CR)=some true)(er8:Np K CR (.type "ValueError")=some true)(mr0:Np K CR (.ref CB)=some false)(mr1:Np K CR (.ref D1)=some false)(mr2:Np K CR (.ref CO)=some false)(mr3:Np K CR (.ref CR)=some true)(mr4:Np K CR (.ref D4)=some false)(mr5:Np K CR (.ref D5)=some false)(mr6:Np K CR (.ref CU)=some false)(onu:Np K CU (.ref CE)=some true)(eu1:PB K CU=true)(eu2:OO K (.ref CU) "__getattribute__"=some (some (.builtin "BaseException.__getattribute__")))(eu3:OO K (.ref CU) "__getattr__"=some none)(eu4:OO K (.ref CU) "__class__"=some (some (.builtin "object.__class__")))(eu5:Np K CU (.type "object")=some true)(eu6:Np K CU (.type "BaseException")=some true)(TX:Np K CU (.ref CU)=some true)(eu8:Np K CU (.type "ValueError")=some true)(mu0:Np K CU (.ref CB)=some false)(mu1:Np K CU (.ref D1)=some false)(mu2:Np K CU (.ref CO)=some false)(mu3:Np K CU (.ref CR)=some false)(mu4:Np K CU (.ref D4)=some false)(mu5:Np K CU (.ref D5)=some false)(mu6:Np K CU (.ref CU)=some true)(m8:Og K No "MOST_THINGS"=some (some (.int 8 t8)))(m0:Og K No "NO_ROOM"=some (some (.int 0 t0)))(m1:Og K No "END"=some (some (.int 1 t1)))(m2:Og K No "LOWEST"=some (some (.int 2 t2)))(z0:Og K No "isinstance"=some none)(z1:Og K No "int"=some none)(z2:Og K No "bool"=some none)(z3:Og K No "tuple"=some none)(z4:Og K No "list"=some none)(z5:Og K No "range"=some none)(z6:Og K No "sorted"=some none)(z7:Og K No "all"=some none)(z8:Og K No "len"=some none)(z9:Og K No "enumerate"=some none)(z10:Og K No "set"=some none)(Zv:Og K No "ValueError"=some none)(z12:Og K No "min"=some none)(z13:Og K No "dict"=some none)(z14:Og K No "str"=some none): ∃(fd:MY) (c Pt:D'),ε K "join_books"=some (c,Pt)/\(K).lookup Pt=none/\(∀(s:Md) (v:G'),XW s fd ⟨[v],[]⟩ [("_law_script",v)])/\∀base:Mp,(K).In base->base.Ns No mg->Ui base c Pt->Bm mg base->MU l.prog w (K) mg base MM 15 fa fd ["_law_script"] (rN (K) Pt):=by
 have e:=hfa.symm.trans (PK X G d35.ns);cases e;have T0:Txt K mg CO:=⟨⟨PK X G Xh,xo⟩,⟨t8,PK X G m8⟩,Qo X G z0,Qo X G z1,Qo X G z2,Qo X G z3,Qo X G z4,Qo X G z5,Qo X G z6,Qo X G z7,Qo X G z8,Qo X G z9⟩
 have T:N9 K mg CO:=⟨T0,⟨t0,PK X G m0⟩,⟨t1,PK X G m1⟩,⟨t2,PK X G m2⟩,Qo X G z10⟩
 have TJ:WV K mg CO:=⟨T,Qo X G z12,Qo X G z13⟩
 have BB:Rh K mg "BadBook" CB:=⟨PK X G Xg,xb⟩
 have RO:Rh K mg "BadRule" CR:=⟨PK X G Xi,xr⟩
 have UU:Rh K mg "Unlike" CU:=⟨PK X G Xj,xu⟩
 have E0:Tr K mg CE:=⟨PK X G cn,nt,xc,cl⟩
 have RB:EK K mg CB:=⟨Kd.mk' X G TV Xg Ze Zf mb0,Kd.mk' X G TV Zg Zh Zi mb1,Kd.mk' X G TV Xh Zj Zk mb2,Kd.mk' X G TV Xi Zl Zm mb3,Kd.mk' X G TV Zn Zo Zp mb4,Kd.mk' X G TV Zq Zr Zs mb5,Kd.mk' X G TV Xj Zt Zu mb6,⟨eb1,eb2,eb3,eb4,eb5,eb6⟩,Qo X G Zv,sy eb8,rfl,rfl,λi hi=>by lia,rfl⟩
 have RR:EL K mg CR:=⟨Kd.mk' X G TW Xg Ze Zf mr0,Kd.mk' X G TW Zg Zh Zi mr1,Kd.mk' X G TW Xh Zj Zk mr2,Kd.mk' X G TW Xi Zl Zm mr3,Kd.mk' X G TW Zn Zo Zp mr4,Kd.mk' X G TW Zq Zr Zs mr5,Kd.mk' X G TW Xj Zt Zu mr6,⟨er1,er2,er3,er4,er5,er6⟩,Qo X G Zv,sy er8,rfl,rfl,λi hi=>by
   have:i=0\/i=1\/i=2:=by lia
   rcases this with rfl|rfl|rfl <;> rfl,rfl⟩
 have RU:EM K mg CU:=⟨Kd.mk' X G TX Xg Ze Zf mu0,Kd.mk' X G TX Zg Zh Zi mu1,Kd.mk' X G TX Xh Zj Zk mu2,Kd.mk' X G TX Xi Zl Zm mu3,Kd.mk' X G TX Zn Zo Zp mu4,Kd.mk' X G TX Zq Zr Zs mu5,Kd.mk' X G TX Xj Zt Zu mu6,⟨eu1,eu2,eu3,eu4,eu5,eu6⟩,Qo X G Zv,sy eu8,rfl,rfl,λi hi=>by
   have:i=0\/i=1\/i=2\/i=3\/i=4\/i=5:=by lia
   rcases this with rfl|rfl|rfl|rfl|rfl|rfl <;> rfl,rfl⟩
 have c:SM K C:=⟨⟨pg,hd,po,sa⟩,nR,nN⟩
 have M:Mk K C fi:=⟨ms,mi.mt.at_,mi.mt.fn,kc⟩
 have mC:=PK X G aS;have bi:=mi.fn.binds (ps:=["self"]) λ_ _ _ _ _ _=>fQ λ_=>rfl;have bk:=mk.fn.binds (ps:=["self","room"]) λ_ _ _ _ _ _=>eQ λ_ _=>rfl;have b0:=d0.fn.binds (ps:=["value"]) λ_ _ _ _ _ _=>fQ λ_=>rfl;have b1:=d1.fn.binds (ps:=["many"]) λ_ _ _ _ _ _=>fQ λ_=>rfl;have b2:=d2.fn.binds (ps:=["many"]) λ_ _ _ _ _ _=>fQ λ_=>rfl;have b3:=d3.fn.binds (ps:=["many","order"]) λ_ _ _ _ _ _=>eQ λ_ _=>rfl;have b4:=d4.fn.binds (ps:=["door"]) λ_ _ _ _ _ _=>fQ λ_=>rfl;have b5:=d5.fn.binds (ps:=["door","things"]) λ_ _ _ _ _ _=>eQ λ_ _=>rfl;have b6:=d6.fn.binds (ps:=["book"]) λ_ _ _ _ _ _=>fQ λ_=>rfl;have b7:=d7.fn.binds (ps:=["many","things","first"]) λ_ _ _ _ _ _=>fR λ_ _ _=>rfl;have b8:=d8.fn.binds (ps:=["many","room","number"]) λ_ _ _ _ _ _=>fR λ_ _ _=>rfl;have b9:=d9.fn.binds (ps:=["room","things"]) λ_ _ _ _ _ _=>eQ λ_ _=>rfl;have b10:=d10.fn.binds (ps:=["many","rooms"]) λ_ _ _ _ _ _=>eQ λ_ _=>rfl;have b11:=d11.fn.binds (ps:=["rooms","number","walked"]) λ_ _ _ _ _ _=>fR λ_ _ _=>rfl;have b12:=d12.fn.binds (ps:=["rooms","first"]) λ_ _ _ _ _ _=>eQ λ_ _=>rfl;have b13:=d13.fn.binds (ps:=["book"]) λ_ _ _ _ _ _=>fQ λ_=>rfl;have b14:=d14.fn.binds (ps:=["shelf","orders","place"]) λ_ _ _ _ _ _=>fR λ_ _ _=>rfl;have b15:=d15.fn.binds (ps:=["many","orders"]) λ_ _ _ _ _ _=>eQ λ_ _=>rfl;have b16:=d16.fn.binds (ps:=["shelf","state","doors_from","known"]) λ_ _ _ _ _ _=>xL λ_ _ _ _=>rfl;have b17:=d17.fn.binds (ps:=["many","state","doors_from"]) λ_ _ _ _ _ _=>fR λ_ _ _=>rfl;have b18:=Za.fn.binds (ps:=["closes","one","other"]) λ_ _ _ _ _ _=>fR λ_ _ _=>rfl;have b19:=Zb.fn.binds (ps:=["rooms","number"]) λ_ _ _ _ _ _=>eQ λ_ _=>rfl;have b20:=Zc.fn.binds (ps:=["closes","rooms","others","pair"]) λ_ _ _ _ _ _=>xL λ_ _ _ _=>rfl;have b21:=Zd.fn.binds (ps:=["word","one","other"]) λ_ _ _ _ _ _=>fR λ_ _ _=>rfl;have b22:=d22.fn.binds (ps:=["one","other"]) λ_ _ _ _ _ _=>eQ λ_ _=>rfl;have b23:=d23.fn.binds (ps:=["word","one","other"]) λ_ _ _ _ _ _=>fR λ_ _ _=>rfl;have b24:=d24.fn.binds (ps:=["book"]) λ_ _ _ _ _ _=>fQ λ_=>rfl;have b25:=d25.fn.binds (ps:=["one","other"]) λ_ _ _ _ _ _=>eQ λ_ _=>rfl;have b26:=d26.fn.binds (ps:=["_law_script","_law_k"]) λ_ _ _ _ _ _=>eQ λ_ _=>rfl;have b27:=d27.fn.binds (ps:=["_law_script","_law_k"]) λ_ _ _ _ _ _=>eQ λ_ _=>rfl;have b28:=d28.fn.binds (ps:=["_law_many"]) λ_ _ _ _ _ _=>fQ λ_=>rfl;have b29:=d29.fn.binds (ps:=["_law_script","_law_k","_law_many"]) λ_ _ _ _ _ _=>fR λ_ _ _=>rfl;have b30:=d30.fn.binds (ps:=["_law_many","_law_left","_law_orders","_law_rooms"]) λ_ _ _ _ _ _=>xL λ_ _ _ _=>rfl;have b31:=d31.fn.binds (ps:=["_law_many","_law_orders"]) λ_ _ _ _ _ _=>eQ λ_ _=>rfl;have b32:=d32.fn.binds (ps:=["_law_script","_law_k","_law_many"]) λ_ _ _ _ _ _=>fR λ_ _ _=>rfl;have b33:=d33.fn.binds (ps:=["_law_kept"]) λ_ _ _ _ _ _=>fQ λ_=>rfl;have b34:=d34.fn.binds (ps:=["_law_word","_law_one","_law_other"]) λ_ _ _ _ _ _=>fR λ_ _ _=>rfl;have b35:=d35.fn.binds (ps:=["_law_script"]) λ_ _ _ _ _ _=>fQ λ_=>rfl;refine⟨g35,c0,Pt,tj,kp,λs v=>?_,λbase _ _ CH bm=>?_⟩
 .obtain⟨oc,od,kV,doc,pm,an,MB,ct,PN,rfl,lk,O6⟩:=d35.fn.ex;exact .of_eq rfl
 have DP:∀Pq,Mod K mg Pq->Df l.prog w K mg Pq MM 2 "doors_of_pair" ["closes","rooms","others","pair"] (ig K):=λPq _=>Zc.df X G b20 (qS Zc.fn TJ (Zb.df X G b19 (ow Zb.fn TJ)) (Za.df X G b18 (vX Za.fn TJ)));have GR:∀Pq,Mod K mg Pq->lA l.prog w K mg Pq f17 g17:=λPq _=>Bo d17.fn d16.fn T c M (vO mi.fn c) bi mC mk.mt (vP mk.fn T c) bk b16 (PK X G d16.ns);have Fi:=vO (P:=l.prog) (w:=w) (mg:=mg) (base:=base) mi.fn c;have Fk:=vP (P:=l.prog) (w:=w) (base:=base) mk.fn T c;have W0:=d0.df (P:=l.prog) (w:=w) (base:=base) X G b0 (AF d0.fn T.t);have W1:=d1.df (P:=l.prog) (w:=w) (base:=base) X G b1 (AG d1.fn T.t W0);have W2:=d2.df (P:=l.prog) (w:=w) (base:=base) X G b2 (AH d2.fn T.t W1);have W3:=d3.df (P:=l.prog) (w:=w) (base:=base) X G b3 (CC d3.fn T.t W2 W0);have W4:=d4.df (P:=l.prog) (w:=w) (base:=base) X G b4 (A7 d4.fn T W0);have W5:=d5.df (P:=l.prog) (w:=w) (base:=base) X G b5 (u9 d5.fn BB);have W6:=d6.df (P:=l.prog) (w:=w) (base:=base) X G b6 (zA d6.fn T BB W0 W1);have W7:=d7.df (P:=l.prog) (w:=w) (base:=base) X G b7 (zz d7.fn T BB);have W8:=d8.df (P:=l.prog) (w:=w) (base:=base) X G b8 (zB d8.fn T BB W4);have W9:=d9.df (P:=l.prog) (w:=w) (base:=base) X G b9 (xn d9.fn T BB W5);have W10:=d10.df (P:=l.prog) (w:=w) (base:=base) X G b10 (Br d10.fn T W8 W9);have W11:=λn=>d11.df (P:=l.prog) (w:=w) (base:=base) X G b11 (vK d11.fn T b11 (PK X G d11.ns) n);have W12:=d12.df (P:=l.prog) (w:=w) (base:=base) X G b12 (zE 8 d12.fn T BB (W11 8));have W13:=d13.df (P:=l.prog) (w:=w) (base:=base) X G b13 (Bs d13.fn W6 W10 W7 W12);have W14:=λn=>d14.df (P:=l.prog) (w:=w) (base:=base) X G b14 (qN d14.fn T c mk.mt Fk bk b14 (PK X G d14.ns) n);have W15:=d15.df (P:=l.prog) (w:=w) (base:=base) X G b15 (zf d15.fn T c M Fi bi mC W2 W3 W14);have W18:=Za.df (P:=l.prog) (w:=w) (base:=base) X G b18 (vX Za.fn TJ);have W19:=Zb.df (P:=l.prog) (w:=w) (base:=base) X G b19 (ow Zb.fn TJ);have W20:=Zc.df (P:=l.prog) (w:=w) (base:=base) X G b20 (qS Zc.fn TJ W19 W18);have W21:=Zd.df (P:=l.prog) (w:=w) (base:=base) X G b21 (Bp Zd.fn (Zd.fn.code X G tj (PK X G Zd.ns)) CH bm TJ TC W18 DP GR (PK X G d17.ns) d17.fn.kp b17);have W22:=d22.df (P:=l.prog) (w:=w) (base:=base) X G b22 (Bt d22.fn UU W13);have W23:=d23.df (P:=l.prog) (w:=w) (base:=base) X G b23 (zF d23.fn TJ (Qo X G z14) TC RO W22 W21);have W24:=d24.df (P:=l.prog) (w:=w) (base:=base) X G b24 (Bu d24.fn T);have W25:=d25.df (P:=l.prog) (w:=w) (base:=base) X G b25 (xt d25.fn T W22 W21 W24);have W26:=d26.df (P:=l.prog) (w:=w) (base:=base) X G b26 (Dm d26.fn T);have W27:=d27.df (P:=l.prog) (w:=w) (base:=base) X G b27 (ES d27.fn T W26);have W28:=d28.df (P:=l.prog) (w:=w) (base:=base) X G b28 (ET d28.fn T);have W29:=d29.df (P:=l.prog) (w:=w) (base:=base) X G b29 (EU d29.fn T W28 W27);have W30:=λn=>d30.df (P:=l.prog) (w:=w) (base:=base) X G b30 (zO d30.fn T b30 (PK X G d30.ns) n);have W31:=d31.df (P:=l.prog) (w:=w) (base:=base) X G b31 (BD d31.fn T W30);have W32:=d32.df (P:=l.prog) (w:=w) (base:=base) X G b32 (EX d32.fn T W29 W27);have W33:=d33.df (P:=l.prog) (w:=w) (base:=base) X G b33 (Dg d33.fn T);have W34:=d34.df (P:=l.prog) (w:=w) (base:=base) X G b34 (Dh d34.fn E0 onb onu onr RB RU RR W23 W25 W33);exact E3 d35.fn T W27 W32 W29 W31 W15 W34 W25
theorem walk {l:W.OpenLaw}{q:MD}{loose:List Me}{XP:(Me->Option G')->Mp->Prop}{YP:Mt->Mp->Prop}{d:DefRec}{K:U2->Mi}(hn:l.most=some 63)(Yt:d.params.defaults=[])(hj:((PyProof.Rows.recsOf q).find? (λe:DefRec=>e.name==("join_books":Me))).isSome=true)(hY:∀(w:Mt) (h:Mp),YP w h->(K w.params).In h)(F:∀(w:Mt) (mg:Me->Option G') (fa:D') (h:Mp),(K w.params).In h->h.Ns No mg->mg d.name=some (.ref fa)->∃(fd:MY) (c Pt:D'),ε (K w.params) "join_books"=some (c,Pt)/\((K w.params)).lookup Pt=none/\(∀(s:Md) (v:G'),XW s fd ⟨[v],[]⟩ [("_law_script",v)])/\∀base:Mp,((K w.params)).In base->base.Ns No mg->Ui base c Pt->Bm mg base->MU l.prog w ((K w.params)) mg base MM 15 fa fd ["_law_script"] (rN ((K w.params)) Pt)):
  W.WalkO q loose XP YP l.row.toRowW d [] (λf vs=>ac1 f vs):=by
 obtain⟨dj,hj⟩:=TZ.mp hj;exact L2.BF (n:=63) (k:=15) (x:="_law_script") (xj:="join_books") (CX:=λ_=>MM) (sp:=λw=>rN (K w.params)) hn (by decide) Yt ⟨rfl,by decide,by decide,rfl⟩ hj hY F (λ_ _ a Pt ns hl hT hS=>⟨a,ns,rfl,hS,⟨#[],hT,trivial,.inl rfl⟩,λ_=>rfl⟩) λ_ _ _ _ _ z=>z
end Ord
open PySem PySem.W PyProof.Rows
theorem Vw.af1:((recsOf Vw.jI).find? (λe:DefRec=>e.name==("join_books":Me))).isSome=true:=by kernel_rfl
set_option maxRecDepth 100000 in
set_option maxHeartbeats 0 in
theorem PySem.Challenge.cw_ordernest_k10_whole_joined_holds : PySem.Challenge.rw_ordernest_k10_whole_joined.Holds := by
 w_on;refine holds_law (by kernel_rfl) λsaid=>?_
 refine holds_open (q:=Vw.jI) (loose:=["CLOSES"]) (Xt:=Vw.Xt) (XP:=XL Vw.jI []) (Yf:=Hook.obs Vw.H) (Ya:=Hook.val Vw.H)
  (YP:=Hook.says Vw.H) (N:=6540) Vw.IL (Hook.of Vw.H) (Hook.keeps Vw.H) (λs e=>xl_of s (aeo.mp (id e:(xlAt Vw.jI [] s&&recOk Vw.BG s)=true)).1) XL.keeps
  (by rfl) (by rfl) (by rfl) (λs e=>recFacts_of (aeo.mp (id e:(xlAt Vw.jI [] s&&recOk Vw.BG s)=true)).2) (by rfl)
  (by assumption) (by decide +kernel) ⟨rfl,rfl,rfl,rfl,rfl,by decide +kernel⟩ ?hw ?hc
 (case hw=>w_witness2)
 refine Ord.walk (l:=PySem.Challenge.rw_ordernest_k10_whole_joined) rfl rfl Vw.af1 (λw h Y=>W.kIn_of Y) ?F
 case F=>
  intro w mg fa h KX G Yu
  k_fill
  refine' Ord.Hm (c0:=291) (Pt:=287) KX G Yu (L2.br ?a0 ?l0 ?c0 ?k0) (L2.br ?a1 ?l1 ?c1 ?k1) (L2.br ?a2 ?l2 ?c2 ?k2) (L2.br ?a3 ?l3 ?c3 ?k3) (L2.br ?a4 ?l4 ?c4 ?k4) (L2.br ?a5 ?l5 ?c5 ?k5) (L2.br ?a6 ?l6 ?c6 ?k6) (L2.br ?a7 ?l7 ?c7 ?k7) (L2.br ?a8 ?l8 ?c8 ?k8) (L2.br ?a9 ?l9 ?c9 ?k9) (L2.br ?a10 ?l10 ?c10 ?k10) (L2.br ?a11 ?l11 ?c11 ?k11) (L2.br ?a12 ?l12 ?c12 ?k12) (L2.br ?a13 ?l13 ?c13 ?k13) (L2.br ?a14 ?l14 ?c14 ?k14) (L2.br ?a15 ?l15 ?c15 ?k15) (L2.br ?a16 ?l16 ?c16 ?k16) (L2.br ?a17 ?l17 ?c17 ?k17) (L2.br ?a18 ?l18 ?c18 ?k18) (L2.br ?a19 ?l19 ?c19 ?k19) (L2.br ?a20 ?l20 ?c20 ?k20) (L2.br ?a21 ?l21 ?c21 ?k21) (L2.br ?a22 ?l22 ?c22 ?k22) (L2.br ?a23 ?l23 ?c23 ?k23) (L2.br ?a24 ?l24 ?c24 ?k24) (L2.br ?a25 ?l25 ?c25 ?k25) (L2.br ?a26 ?l26 ?c26 ?k26) (L2.br ?a27 ?l27 ?c27 ?k27) (L2.br ?a28 ?l28 ?c28 ?k28) (L2.br ?a29 ?l29 ?c29 ?k29) (L2.br ?a30 ?l30 ?c30 ?k30) (L2.br ?a31 ?l31 ?c31 ?k31) (L2.br ?a32 ?l32 ?c32 ?k32) (L2.br ?a33 ?l33 ?c33 ?k33) (L2.br ?a34 ?l34 ?c34 ?k34) (L2.br ?a35 ?l35 ?c35 ?k35) ?aS (L2.Ch ?ia ?ii ?il ?ic ?ik) (L2.Ch ?ka ?ki ?kl ?kcc ?kk) ?pg ?hd ?po ?sa ?ms ?kc ?nR ?nN ?tj ?kp (Ord.E4 KX G ?cna ?csy ?clk ?ck1 ?ck2 ?ck3 ?ck4 ?cq1 ?cq2 ?cq3 ?cq4 ?cq5 ?cq6 ?cq7) ?xo ?xb ?xr ?xu ?cn ?nt ?xc ?cl ?Xg ?Ze ?Zf ?Zg ?Zh ?Zi ?Xh ?Zj ?Zk ?Xi ?Zl ?Zm ?Zn ?Zo ?Zp ?Zq ?Zr ?Zs ?Xj ?Zt ?Zu ?onb ?eb1 ?eb2 ?eb3 ?eb4 ?eb5 ?eb6 ?TV ?eb8 ?mb0 ?mb1 ?mb2 ?mb3 ?mb4 ?mb5 ?mb6 ?onr ?er1 ?er2 ?er3 ?er4 ?er5 ?er6 ?TW ?er8 ?mr0 ?mr1 ?mr2 ?mr3 ?mr4 ?mr5 ?mr6 ?onu ?eu1 ?eu2 ?eu3 ?eu4 ?eu5 ?eu6 ?TX ?eu8 ?mu0 ?mu1 ?mu2 ?mu3 ?mu4 ?mu5 ?mu6 ?m8 ?m0 ?m1 ?m2 ?z0 ?z1 ?z2 ?z3 ?z4 ?z5 ?z6 ?z7 ?z8 ?z9 ?z10 ?Zv ?z12 ?z13 ?z14
  case a0|l0|c0|k0|a1|l1|c1|k1|a2|l2|c2|k2|a3|l3|c3|k3|a4|l4|c4|k4|a5|l5|c5|k5|a6|l6|c6|k6|a7|l7|c7|k7|a8|l8|c8|k8|a9|l9|c9|k9|a10|l10|c10|k10|a11|l11|c11|k11|a12|l12|c12|k12|a13|l13|c13|k13|a14|l14|c14|k14|a15|l15|c15|k15|a16|l16|c16|k16|a17|l17|c17|k17|a18|l18|c18|k18|a19|l19|c19|k19|a20|l20|c20|k20|a21|l21|c21|k21|a22|l22|c22|k22|a23|l23|c23|k23|a24|l24|c24|k24|a25|l25|c25|k25|a26|l26|c26|k26|a27|l27|c27|k27|a28|l28|c28|k28|a29|l29|c29|k29|a30|l30|c30|k30|a31|l31|c31|k31|a32|l32|c32|k32|a33|l33|c33|k33|a34|l34|c34|k34|a35|l35|c35|k35|aS|ia|ii|il|ic|ik|ka|ki|kl|kcc|kk|pg|hd|po|sa|ms|kc|nR|nN=>k_is
  (case tj=>kernel_rfl)
  (case kp=>kernel_rfl)
  case cna=>k_is
  (case csy=>rfl)
  case clk|ck1|ck2|ck3|ck4|cq1|cq2|cq3|cq4|cq5|cq6|cq7|Xh|Xg|Xi|Xj=>k_is
  (case xo=>k_exc);(case xb=>k_exc);(case xr=>k_exc);(case xu=>k_exc);(case cn=>k_is);(case nt=>k_is);(case xc=>k_is);(case cl=>k_is);(case Ze=>k_is);(case Zf=>k_is);(case Zg=>k_is);(case Zh=>k_is);(case Zi=>k_is);(case Zj=>k_is);(case Zk=>k_is);(case Zl=>k_is);(case Zm=>k_is);(case Zn=>k_is);(case Zo=>k_is);(case Zp=>k_is);(case Zq=>k_is);(case Zr=>k_is);(case Zs=>k_is);(case Zt=>k_is);(case Zu=>k_is);(case onb=>k_is);(case eb1=>k_is);(case eb2=>k_is);(case eb3=>k_is);(case eb4=>k_is);(case eb5=>k_is);(case eb6=>k_is);(case TV=>k_is);(case eb8=>k_is);(case mb0=>k_is);(case mb1=>k_is);(case mb2=>k_is);(case mb3=>k_is);(case mb4=>k_is);(case mb5=>k_is);(case mb6=>k_is);(case onr=>k_is);(case er1=>k_is);(case er2=>k_is);(case er3=>k_is);(case er4=>k_is);(case er5=>k_is);(case er6=>k_is);(case TW=>k_is);(case er8=>k_is);(case mr0=>k_is);(case mr1=>k_is);(case mr2=>k_is);(case mr3=>k_is);(case mr4=>k_is);(case mr5=>k_is);(case mr6=>k_is);(case onu=>k_is);(case eu1=>k_is);(case eu2=>k_is);(case eu3=>k_is);(case eu4=>k_is);(case eu5=>k_is);(case eu6=>k_is);(case TX=>k_is);(case eu8=>k_is);(case mu0=>k_is);(case mu1=>k_is);(case mu2=>k_is);(case mu3=>k_is);(case mu4=>k_is);(case mu5=>k_is);(case mu6=>k_is);(case m8=>k_is);(case m0=>k_is);(case m1=>k_is);(case m2=>k_is)
  case z0|z1|z2|z3|z4|z5|z6|z7|z8|z9|z10|Zv|z12|z13|z14=>k_is
