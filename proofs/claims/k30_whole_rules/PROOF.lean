import PyProof.Rows.All
import Wide.All
import OpenK.AllK
import Wide.FinOn
import Lean
import PyProof.EqAt
import PyProof.EqKinds
import PyProof.TupleCall
import KE.KIsAll
import PyProof.ExcAttrAll.ValueError
import KE.KDictList
import KE.KDictLaws
import PyProof.Rows.SortShellK
import PySem.SetOps
import PyProof.SetScanFacts
import PyProof.Rows.SetFrom
import PyProof.DictRoadsH
import KE.KDictOf
import PySem.Challenge.RW_ordernest_k30_whole_rules
set_option compiler.extract_closed false
set_option Elab.async false
set_option linter.all false
set_option maxRecDepth 100000
open PySem renaming Addr->A',Arguments->V3,Around->Nv,BindsTo->XD,Builtin->P4,DefRec->V6,DictEntry->O4,Env->OV,Expr->Nn,FuncData->Nt,Heap->M4,IsPart->UW,Keyword->V4,Model->UZ,NameKind->Th,Obj->G',OsState->Pz,Paired->Nd,Params->UX,Pos->NS,Program->Ng,Within->ac0,call->ac7,mem_of_lookup->Ra,Scope->PX,Sem->PY,SetTable->Om,Shared->J',Stmt->M',Str->MV,Value->D',World->M7,bootBuiltins->Qc,builtinLookup_eq_fast->Y1,cLine->ND,call_meets->Xv,codeAny_builtin->SB,codeAny_call_builtin->ach,codeAny_mono->T5,compareOp->Ps,entryFor_alias->acR,isSubtype_type->Zj,lookup_relabel_local->aao,mainGlobals->N5,model->M8,noFill_tuple_add->acx,plainId_quiet->Zn,seq_tuple_add->acV,sizeLine->Nh,sizeLine_eq->NU,slot_dict_contains->acp,starEach->Ob,strLen_append->acW,sysModules->Pr,tupleKind_room_in1->aat,typeIs_int->aa4,typeLookup_type->Ze,wpAny->M3,wpAny_Assign_Subscript->ab8,wpAny_Call_Name_kw->Xd,wpAny_FormattedValue_repr->aea,wpAny_askSetting->Zb,wpAny_assign_Name->aav,wpAny_attempt->acY,wpAny_bind->MW,wpAny_call->Zr,wpAny_callSpecial?_slot->YX,wpAny_call_entry->RK,wpAny_comprehension_free->aef,wpAny_dictEntries->Za,wpAny_dictEpoch->SC,wpAny_execs_nil->acE,wpAny_forIn_list->Re,wpAny_holding->PN,wpAny_isInstance->aaC,wpAny_list_append_plain->aej,wpAny_loadPart_at->Y8,wpAny_mono->RO,wpAny_newFunctionEnv->acg,wpAny_newList->Xo,wpAny_newObj_type->TX,wpAny_passesOwn->Zc,wpAny_pure->M1,wpAny_pyIter_list->aaw,wpAny_rule->Qt,wpAny_runValue->acO,wpAny_seqItems->aaM,wpAny_sequenceKey->acs,wpAny_setEntries_of->acl,wpAny_setField->acS,wpAny_setState_of->P0,wpAny_specialOf->VQ,wpAny_standAt->Zm,wpAny_storeSet_of->Y',wpAny_truthy_bool->Rb,wpAny_typeOf->VY
open PyProof.Rows renaming AllBare->Ti,IntsAre->RQ,IsTup->UY,KK_mirror_equal->acG,Keyed->R',NonIncK->R9,KeyKind->aap,callWith_type1->abR,entry_list_sort->abQ,envOfC->S8,recsOf->aeQ,slot_list_sort->abS,slot_tuple_getitem->abO,SortKind->XB,SortSt->Qe,SortedToK->PQ,args_list_sort->acP,arrOf->NF,get?_update_seq->aaG,listItems_at->Xq,listUpdate_at->aaP,mirror_perm->aa2,pairsOf_size->aaX,pairsOf_toList->acQ,seqObj->NX,wpS_bind->OS,wpS_forRange->Xr,wpS_get->XE,wpS_pure->PV,wpS_reverse->aa3
open PySem.Around renaming frames_deeper->aeC,under->aaU,under_plainId->VI
open Array.Perm renaming refl->acH
open Array renaming forIn_toList->Y4,getD->Ri,getElem?_eq_getElem->RI,getElem?_eq_none->Y0,getElem?_eq_some_iff->TU,getElem?_setIfInBounds_ne->adV,getElem?_setIfInBounds_self_of_lt->adS,getElem?_toList->S7,getElem_mem->aeY,getElem_setIfInBounds->ad0,length_toList->Pe,mem_toList_iff->aam,perm_iff_toList_perm->abT,replicate->acI,toList_append->aeP,toList_filterMap->aca
open Bool renaming and_eq_true->Rc,and_eq_true_iff->aeG,and_false->aaL,eq_false_iff->act,eq_iff_iff->Sz,false_and->Zg,false_eq_true->OI,false_ne_true->OZ,not_true->Rx,or_eq_true->acK
open PySem.Builtin.Dict renaming updateFrom->aep
open PySem.Builtin.Frozenset renaming addrOf->ab3,copyOf->aah,isAnySet->abV,merge->aeo,updateFrom->aab
open PySem.Builtin.List renaming listExtendWith->adZ,listItems->ab9,listLengthHint->ad1,listTooLong->ab1
open PySem.Builtin.Slice renaming sliceAdjust->abW,sliceApplied->ad6,slicePlaces->aad
open PySem.Builtin.Tuple renaming tupleExact->aaf,tupleHashOf->VC,tupleItemsOf->ad7
open PySem.Builtin renaming bitAnd->aaJ,bitOr->aaO
open PySem.Calls renaming Constant_str->aeT,Name_function_global->ad4,callWith_builtin->ab7,call_function_entry->abX,evalArgs_plain->aan,spliced_cons->Xc,spliced_nil->acr,evalArgs_plain->ad9
open Classical renaming byContradiction->RJ,propDecidable->aaj
open PySem.Code renaming isFrame->ac1,quiet_builtin->acn
open PySem.F renaming slot_gs_get->acX,slot_tuple_hash->Y9,typeOf_object_class->acd,args_dict_get_3->ael,args_tuple_add_2->ab0,entry_dict_get->aer,entry_tuple_add->ab4,plainAttrs_dict->aem,plainAttrs_list->UI,plain_list_iadd->aen,plain_set_new->aex,slot_dict_get->acf,slot_dict_getitem->aae,slot_dict_setdefault->adW,slot_list_append->VE,slot_list_index->aek,slot_set_iter->aez,slot_set_or->aeO,slot_tuple_add->ab6,slot_tuple_getattribute->abP,slot_tuple_index->YW,type_list_append->VF,type_tuple_index->aai
open False renaming elim->P3
open ForInStep renaming yield->T1
open PySem.Heap.DictOf renaming new->ae2
open PySem.Heap renaming SameBut->R6,get?_push_of_some->NK,get?_push_size->OH,get?_update_other->WZ,get?_update_self->aak,lt_size->NC,size_push->Zh
open PySem.Heap.SameBut renaming update->Xa
open Int renaming emod_lt_of_pos->S9,emod_nonneg->Tc,fdiv_eq_ediv_of_nonneg->ad5,min_eq_left->acL,min_eq_right->acC,toNat_natCast->QQ,zero_add->ac4
open PyProof.Rows.KeyOrd renaming kle_antisymm->aeK,kle_of_klt->aay,kle_refl->Xn,kle_trans->aaD
open List renaming Nodup->Xw,all_cons->Zl,all_eq_true->Sy,any_cons->Td,append_assoc->VM,append_eq_nil_iff->aeu,append_nil->QD,drop->Qd,drop_eq_getElem_cons->aec,drop_of_length_le->aev,drop_zero->aaN,eq_nil_iff_forall_not_mem->aaa,exists_cons_of_ne_nil->abU,exists_mem_of_ne_nil->SY,filterMap_cons->QP,filterMap_cons_none->aag,filterMap_cons_some->VD,filter_append->UL,filter_cons->aaE,filter_cons_of_neg->UJ,filter_cons_of_pos->Sw,filter_sublist->VL,find?_append->aaz,find?_cons->VP,find?_cons_of_neg->VG,find?_cons_of_pos->aet,find?_eq_none->Y5,flatMap_cons->acu,flatten_cons->Y6,foldl->aa5,foldl_append->UO,foldl_cons->VO,getD_eq_getElem?_getD->UH,getElem?_append_left->SX,getElem?_append_right->UG,getElem?_cons_zero->ab5,getElem?_eq_getElem->Ou,getElem?_eq_none->ace,getElem?_eq_some_iff->OA,getElem?_inj->acw,getElem?_map->Pa,getElem?_range->aeM,getElem?_replicate->aei,getElem?_set_ne->aeB,getElem?_set_self->aeq,getElem?_take_of_lt->abZ,getElem_cons_drop->aes,getElem_idxOf->aeW,getElem_mem->UQ,getElem_of_mem->aeI,idxOf_append->acv,idxOf_lt_length_of_mem->ad2,isEmpty_eq_false_iff->aee,length->RM,length_append->Os,length_cons->OB,length_drop->Xl,length_eq_zero_iff->S0,length_erase_of_mem->ab2,length_filter_le->R0,length_map->NT,length_nil->T2,length_pos_iff->Xb,length_pos_of_mem->YZ,length_range->UN,length_replicate->aew,length_singleton->acb,length_take->Qb,lookup->US,lookup_cons->UP,map_append->QF,map_congr_left->Y2,map_cons->N7,map_map->VZ,map_nil->Zo,mem_append->Ov,mem_append_left->R3,mem_append_right->PM,mem_cons->NG,mem_cons_of_mem->NP,mem_cons_self->Nu,mem_erase_of_ne->aci,mem_filter->Pm,mem_filterMap->Rv,mem_flatMap->Rg,mem_iff_getElem->aaq,mem_iff_getElem?->UK,mem_map->NR,mem_of_find?_eq_some->aeb,mem_of_getElem?->Oo,mem_of_mem_take->ack,mem_range->Pn,mem_singleton->Pl,nil_prefix->acJ,nodup_append->TZ,nodup_cons->QE,nodup_nil->VR,nodup_range->aaB,not_mem_nil->Pf,of_mem_zip->acF,pairwise_append->aar,pairwise_cons->Xf,pairwise_iff_getElem->abY,pairwise_lt_range->YY,pairwise_map->Sx,perm_ext_iff_of_nodup->aac,prefix_append->Xh,prefix_rfl->Qr,range->Oe,range'->aa1,range'_succ->acz,range_succ->aaH,replicate->OJ,replicate_succ->VJ,replicate_succ'->aeD,size_toArray->Od,sum_cons->VW,take_add_one->Ta,take_append_drop->TW,take_length->Rf,take_of_length_le->W',take_prefix->acB,take_sublist->aax,take_succ_cons->aeL,zip_cons_cons->Xe
open List.Pairwise renaming nil->UM
open List.Perm renaming eq_of_pairwise->aeg,refl->Zi,swap->ae3
open List.Sublist renaming refl->aaA
open List.cons renaming inj->ae4
open PySem.NameKind renaming free->VT
open Nat renaming add_assoc->aaQ,add_zero->aaV,eq_of_testBit_eq->acj,eq_zero_or_pos->aco,le_add_left->acM,le_max_left->aaI,le_max_right->aaF,le_of_ble_eq_true->aal,le_of_eq->VX,le_of_lt->UR,le_of_not_lt->acy,le_refl->Nl,le_succ->V0,le_trans->Ph,lt_irrefl->T4,lt_of_le_of_lt->acm,lt_of_lt_of_le->OY,lt_or_ge->P1,lt_succ_of_lt->Y7,lt_succ_self->Xk,lt_trans->Zp,lt_trichotomy->Xj,mul_le_mul->acT,mul_le_mul_right->VH,mul_succ->aaZ,ne_of_gt->Te,ne_of_lt->N0,not_lt_zero->Zd,pow_le_pow_right->aeE,shiftRight_eq_div_pow->aed,sub_self->aaY,succ_le_succ->VN,succ_mul->ac2,testBit_two_pow->aeN,zero_add->aaW,zero_le->Ow
open Ne renaming symm->N1
open PySem.Obj renaming data_mapDictKeys->aeF,data_mapFields->aau,isFreed_of_fields->aey,mapFields->acZ,mapSeq->PP,putSet->V2
open Option renaming getD_none->aeZ,getD_some->ae1,isSome_iff_exists->SZ,isSome_map->aeX,map_eq_some_iff->TV,map_some->Zf,toList_some->Xg
open Option.some renaming inj->Rw
open Or renaming inl->NB,inr->N'
open PySem.Paired renaming length->VS
open PySem.PassesOwn renaming never->RL
open Prod renaming ext->XA
open Prod.mk renaming injEq->aaS
open PySem.PyData renaming keyHash->QR
open PyProof.Rows.F renaming entry_set_update_loop->adU,plain_set_update_loop->abN
open PySem.SeqAt renaming EqAt->RP,notIn_listAt->aeU,notIn_tupleAt->aeH
open PySem.SeqAt.EqAt renaming int_int->aas,int_str->aeR,of_refs->Y3,same->Xm,str_int->aeS
open PySem.SeqAt.RcAt renaming lists->ae0,lists_lengths->aeh,tuples->Xi
open PySem.SeqAt.RcNeAt renaming lists->aeV,lists_lengths->ad8,tuples->aeJ
open PySem.SetTable renaming fill->R5,fits->aaR,roomFor->acD,tooFull->acA
open PySem.Shared renaming TypeIs->Xp
open PySem.Spec renaming bitNot->V1
open Std.Legacy.Range renaming forIn_eq_forIn_range'->adT
open PySem.Str renaming ofString->R7
open Sum renaming inl->O5,inr->SD
open Sum.inl renaming inj->Xu
open True renaming intro->Qs
open PySem.Value renaming bool->RN,builtin->VU,float->ac5,int->O0,isInt->Xs,isInt_shape->acq,none->T7,ref->NQ,str->Zs,type->QS
open PySem.W renaming CodeHd->QT,Frag->MZ,codeIn->Zv,emptyDict->T6,findIn->QG,fnOf->Tj,hasDictIn->aa0,hideAll->Zt,hideAll_get->Zk,hideAll_none->acN,instObj->UT,isClsIn->aa7,keepIn->R8,kia_one->Ry,kitOne->UU,kla_obj->Zu,looks_findIn->aaK,mg_none_of->Rh,mg_of->Pi,nsIn->O1,of_hideAll->aaT,plainGet->Zq,plainGet_of->acU,tabIn->Ub,tabObj->XC,boot_heap->Xx,items_int->aa6,looks_pair->Tf,piece_app->T8,segRun_of->T9
open PySem.W.Fast renaming te10110043849684766642->Sv,te14364793385576792824->Ru,te3399658132070893891->adX,te5923862056798008813->adY,te821141287760084731->ad3
open PySem.Walks renaming list->ac8
open PySem.World renaming withFollow->R4,withFollow_self->aeA
open PySem.pickOrder renaming go->ac3
abbrev Nc:=@absurd
abbrev Ny:=@decide_eq_false
abbrev Nz:=@decide_eq_true
abbrev M0:=@if_neg
abbrev M6:=@if_pos
abbrev TY:=@of_decide_eq_true
namespace L2
open PySem PySem.Spec PyProof.Rows
abbrev Key:=Sum Int MV
def iJ:Key->D'->Bool
 | .inl k,v=>Xs k v
 | .inr x,v=>D'.isStrOf x v
def E4 (w:M7):Key->Int
 | .inl k=>hashInt k
 | .inr x=>hashStr w x
theorem cn:∀{k:Key}{v:D'},iJ k v=true->(∃i t,k=O5 i/\v=O0 i t)\/(∃x t,k=SD x/\v=Zs x t)
 | .inl i,v,h=>by
  obtain⟨t,e⟩:=acq (k:=i) (v:=v) h;exact .inl ⟨i,t,rfl,e⟩
 | .inr x,v,h=>by
  obtain⟨t,e⟩:=D'.isStrOf_shape (x:=x) (v:=v) h;exact .inr ⟨x,t,rfl,e⟩
theorem qv (i:Int)(t):iJ (.inl i) (.int i t)=true:=by simp[iJ,Xs]
theorem yY (x)(t):iJ (.inr x) (.str x t)=true:=by simp[iJ,D'.isStrOf]
theorem E5 (a b:Int):decide ((O5 a:Key)=O5 b)=(a==b):=by
 by_cases e:a=b
 .subst e;simp
 .have h:¬(O5 a:Key)=O5 b:=λq=>e (Xu q);rw[Ny h];exact(beq_eq_false_iff_ne.mpr e).symm
theorem E6 (a b):decide ((SD a:Key)=SD b)=decide (a=b):=by
 by_cases e:a=b
 .subst e;simp
 .have h:¬(SD a:Key)=SD b:=λq=>e (SD.inj q);rw[Ny h,Ny e]
theorem E7 (a:Int)(b):decide ((O5 a:Key)=SD b)=false:=Ny (λq=>nomatch q)
theorem E8 (a)(b:Int):decide ((SD a:Key)=O5 b)=false:=Ny (λq=>nomatch q)
def bg (prog)(w):PySem.KeyKind prog w Key where
 is:=iJ
 hash:=E4 w
 inj:=λv a b ha hb=>by
  rcases cn ha with⟨i,t,rfl,rfl⟩|⟨x,t,rfl,rfl⟩
  .rcases cn hb with⟨j,u,rfl,e⟩|⟨y,u,rfl,e⟩
   .injection e with e1 _;rw[e1]
   .exact nomatch e
  .rcases cn hb with⟨j,u,rfl,e⟩|⟨y,u,rfl,e⟩
   .exact nomatch e
   .injection e with e1 _;rw[e1]
 byValue:=λk v h=>by
  rcases cn h with⟨i,t,rfl,rfl⟩|⟨x,t,rfl,rfl⟩ <;> rfl
 pyHash:=λhv h=>by
  rcases cn hv with⟨i,t,rfl,rfl⟩|⟨x,t,rfl,rfl⟩
  .exact wpAny_pyHash_int h
  .exact wpAny_pyHash_str h
 eqBool:=λhu hv h=>by
  rcases cn hu with⟨i,t,rfl,rfl⟩|⟨x,t,rfl,rfl⟩
  .rcases cn hv with⟨j,u,rfl,rfl⟩|⟨y,u,rfl,rfl⟩
   .rw[E5] at h;exact wpAny_eqBool_int h
   .rw[E7] at h;exact aeR i t y u _ _ _ _ h
  .rcases cn hv with⟨j,u,rfl,rfl⟩|⟨y,u,rfl,rfl⟩
   .rw[E8] at h;exact aeS x t j u _ _ _ _ h
   .rw[E6] at h;exact wpAny_eqBool_str h
 «strs»:=λk x t v h=>by
  rcases cn h with⟨i,u,rfl,e⟩|⟨y,u,rfl,e⟩
  .exact nomatch e
  .injection e with e1 _
   subst e1;cases v <;> rfl
theorem xD (prog)(w)(k)(v):(bg prog w).is k v=iJ k v:=rfl
theorem vM (prog)(w)(i:Int)(t):(bg prog w).is (.inl i) (.int i t)=true:=qv i t
theorem bV (prog)(w)(x)(t):(bg prog w).is (.inr x) (.str x t)=true:=yY x t
inductive V where
 | Nr|bl (b:Bool)|int (i:Int)|str (x:MV)|Rj (b:Array UInt8)|U8 (b:UInt64)|ref (a:A')|ty (n:String)
 deriving DecidableEq
def aI:V->D'->Prop
 | .Nr,u=>u=T7
 | .bl b,u=>u=RN b
 | .int i,u=>∃t,u=O0 i t
 | .str x,u=>∃t,u=Zs x t
 | .Rj b,u=>∃t,u=D'.bytes b t
 | .U8 b,u=>∃t,u=ac5 b t
 | .ref a,u=>u=NQ a
 | .ty n,u=>u=QS n
abbrev aL:List V->List D'->Prop:=Nd aI
theorem aL.length (r:aL xs us):xs.length=us.length:=VS r
theorem aL.get:∀{xs:List V}{us:List D'}{i:Nat}{x:V},aL xs us->xs[i]?=some x->∃u,us[i]?=some u/\aI x u
 | _,_,_,_,.nil,e=>by simp at e
 | _,_,0,_,.cons r _,e=>by simp at e;subst e;exact⟨_,rfl,r⟩
 | _,_,i+1,x,.cons _ t,e=>by
  obtain⟨u,h1,h2⟩:=aL.get (i:=i) (x:=x) t (by simpa using e);exact⟨u,by simpa using h1,h2⟩
theorem aL.append:∀{xs ys:List V}{us ws:List D'},aL xs us->aL ys ws->aL (xs++ys) (us++ws)
 | _,_,_,_,.nil,s=>s
 | _,_,_,_,.cons r t,s=>.cons r (aL.append t s)
theorem aL.take:∀{xs:List V}{us:List D'}(n:Nat),aL xs us->aL (xs.take n) (us.take n)
 | _,_,0,_=>.nil
 | _,_,_+1,.nil=>.nil
 | _,_,n+1,.cons r t=>.cons r (aL.take n t)
theorem aL.drop:∀{xs:List V}{us:List D'}(n:Nat),aL xs us->aL (xs.drop n) (us.drop n)
 | _,_,0,r=>r
 | _,_,_+1,.nil=>.nil
 | _,_,n+1,.cons _ t=>aL.drop n t
def eC:Option V->Option D'->Prop
 | some v,some u=>aI v u
 | none,none=>True
 | _,_=>False
def KV {κ:Type}:List (κ×V)->List (κ×D')->Prop:=Nd λ(p:κ×V) (q:κ×D')=>p.1=q.1/\aI p.2 q.2
def kV:Key->V
 | .inl i=>.int i
 | .inr x=>.str x
inductive HO where
  | lst (xs:List V)
  | tup (xs:List V)
  | dK (kvs:List (Key×V))|dT (kvs:List (List Key×V))
  | set (S:Int->Bool) (n:Nat)
  | ins (C dx:A') (fs:List (MV×V))
  | own (x:A')
  | xd (fs:List (MV×V))
  | met (f x:A')
  | RB (lo hi:Int)
  | Oq (o:G') (u:HO)
  | PR (ps:Array D')
  | ext (φ:M4->Prop)
abbrev Hp:=A'->Option HO
def upd (H:Hp)(a:A')(o:HO):Hp:=λb=>if b=a then some o else H b
theorem al:upd H a o a=some o:=by unfold upd;rw[M6 rfl]
theorem aq (h:b≠a):upd H a o b=H b:=by unfold upd;rw[M0 h]
theorem we:upd (upd H a o) a u=upd H a u:=by
 funext b;unfold upd;split <;> rfl
theorem iK {H:Hp}(h:H a=some o)(h':H b=some u)(d:o≠u):a≠b:=by
 intro e;subst e;rw[h] at h';exact d (Rw h')
theorem av {H:Hp}(h:H a=some o)(h':H b=none):a≠b:=by
 intro e;subst e;rw[h] at h';cases h'
def fh (h:M4)(a:A')(items:Array D'):Prop:=∃o,h.get? a=some o/\o.cls=.type "tuple"/\∃n,o.data=.seq items n/\o.dict=none
theorem fh.tup (x:fh h a items):UY h a items:=let ⟨o,e,c,n,d,_⟩:=x;⟨o,e,c,n,d⟩
theorem fh.new (h:M4)(items:Array D'):fh (h.push { cls:=.type "tuple",data:=.seq items }) h.objs.size items:=⟨_,OH _ rfl,rfl,_,rfl,rfl⟩
section
variable (P:Ng) (w:M7)
def bz (H:Hp)(h:M4)(a:A'):HO->Prop
 | .lst xs=>xs.length<=Nh/\∃(MY:List D') (n:Nat),aL xs MY/\h.get? a=some { cls:=.type "list",data:=.seq MY.toArray n }
 | .tup xs=>xs.length<=Nh/\∃MY:List D',aL xs MY/\fh h a MY.toArray
 | .dK kvs=>kvs.length<=Nh/\(a==Pr)=false/\∃vs,KV kvs vs/\h.DictOf (bg P w) a vs
 | .dT kvs=>kvs.length<=Nh/\(a==Pr)=false/\∃xs:List (List Key×A'×D'),
   Nd (λ(p:List Key×V) (q:List Key×A'×D')=>p.1=q.1/\H q.2.1=some (.tup (p.1.map kV))/\aI p.2 q.2.2) kvs xs/\
   ∃o es ep,h.get? a=some o/\o.ExactDict/\o.data=.dict es ep/\es.toList=xs.map (entryOfKey (tupleKind (bg P w)))/\(xs.map (·.1)).Nodup
 | .set S n=>h.SetOf (intKind P w) a S n
 | .ins C dx fs=>H dx=some (.own a)/\fs.length<=1000/\dx≠a/\h.get? a=some (UT C dx)/\
   ∃mA,h.Ns1 dx mA/\(∀f,eC (fs.lookup f) (mA f))/\ac0 mA (fs.map (·.1))
 | .own _=>∃o,h.get? a=some o
 | .xd fs=>∃mA,h.Ns1 a mA/\∀f,eC (fs.lookup f) (mA f)
 | .RB lo hi=>∃t u v,h.get? a=some { cls:=.type "range",data:=.fields #[.int lo t,.int hi u,.int 1 v] }
 | .Oq o u=>h.get? a=some o/\bz H h a u
 | .PR ps=>h.get? a=some { cls:=.none,data:=.fields ps }
 | .met f x=>h.get? a=some (W.methodObj (.ref f) (.ref x))
 | .ext φ=>φ h/\(∃o,h.get? a=some o)/\∀h1 h2:M4,φ h1->(∀o,h1.get? a=some o->h2.get? a=some o)->φ h2
def OP (H:Hp)(h:M4):Prop:=∀a o,H a=some o->bz P w H h a o
end
section
theorem bz.lt (x:bz P w H h a o):a<h.objs.size:=by
 cases o with
 | lst xs=>obtain⟨_,_,_,_,e⟩:=x;exact NC e
 | tup xs=>obtain⟨_,_,_,p⟩:=x;exact p.tup.lt
 | dK kvs=>obtain⟨_,_,_,_,o,_,_,e,_⟩:=x;exact NC e
 | dT kvs=>obtain⟨_,_,_,_,o,_,_,e,_⟩:=x;exact NC e
 | set S n=>obtain⟨o,_,_,_,e,_⟩:=x;exact NC e
 | ins C dx fs=>obtain⟨_,_,_,e,_⟩:=x;exact NC e
 | own y=>obtain⟨_,e⟩:=x;exact NC e
 | xd fs=>obtain⟨_,⟨_,_,_,e,_⟩,_⟩:=x;exact NC e
 | RB lo hi=>obtain⟨_,_,_,e⟩:=x;exact NC e
 | Oq ob u=>obtain⟨e,_⟩:=x;exact NC e
 | PR ps=>exact NC (show h.get? a=some _ from x)
 | met f y=>exact NC (show h.get? a=some _ from x)
 | ext φ=>obtain⟨_,⟨_,e⟩,_⟩:=x;exact NC e
theorem Paired.abq {α β:Type}{F G:α->β->Prop}:∀{PB:List α}{PD:List β},Nd F PB PD->(∀a b,F a b->G a b)->Nd G PB PD
 | _,_,.nil,_=>.nil
 | _,_,.cons r t,f=>.cons (f _ _ r) (Paired.abq t f)
theorem bz.Ud (x:bz P w H h a o)(k:∀b u,(b=a\/H b=some (.own a))->h.get? b=some u->h'.get? b=some u)(ho:∀b,H b=some (.own a)->H' b=some (.own a))(ht:∀b xs,H b=some (.tup xs)->H' b=some (.tup xs)):bz P w H' h' a o:=by
 induction o with
 | lst xs=>obtain⟨z,MY,n,r,e⟩:=x;exact⟨z,MY,n,r,k _ _ (.inl rfl) e⟩
 | tup xs=>obtain⟨z,MY,r,ob,e,c⟩:=x;exact⟨z,MY,r,ob,k _ _ (.inl rfl) e,c⟩
 | dK kvs=>obtain⟨z,y,vs,r,ob,es,ep,e,c⟩:=x;exact⟨z,y,vs,r,ob,es,ep,k _ _ (.inl rfl) e,c⟩
 | dT kvs=>
  obtain⟨z,y,xs,r,ob,es,ep,e,c⟩:=x;exact⟨z,y,xs,Paired.abq r λp q z=>⟨z.1,ht _ _ z.2.1,z.2.2⟩,ob,es,ep,k _ _ (.inl rfl) e,c⟩
 | set S n=>obtain⟨ob,es,ep,t,e,c⟩:=x;exact⟨ob,es,ep,t,k _ _ (.inl rfl) e,c⟩
 | ins C dx fs=>
  obtain⟨d,z,ne,e,mA,⟨od,es,ep,e2,c⟩,r⟩:=x;exact⟨ho _ d,z,ne,k _ _ (.inl rfl) e,mA,⟨od,es,ep,k _ _ (.inr d) e2,c⟩,r⟩
 | own y=>obtain⟨ob,e⟩:=x;exact⟨ob,k _ _ (.inl rfl) e⟩
 | xd fs=>obtain⟨mA,⟨od,es,ep,e,c⟩,r⟩:=x;exact⟨mA,⟨od,es,ep,k _ _ (.inl rfl) e,c⟩,r⟩
 | RB lo hi=>obtain⟨t,u,v,e⟩:=x;exact⟨t,u,v,k _ _ (.inl rfl) e⟩
 | Oq ob u ih=>obtain⟨e,q⟩:=x;exact⟨k _ _ (.inl rfl) e,ih q⟩
 | PR ps=>
  have e:h.get? a=some { cls:=.none,data:=.fields ps }:=x;show h'.get? a=some { cls:=.none,data:=.fields ps };exact k a _ (.inl rfl) e
 | met f y=>
  have e:h.get? a=some (W.methodObj (.ref f) (.ref y)):=x;show h'.get? a=some (W.methodObj (.ref f) (.ref y));exact k a _ (.inl rfl) e
 | ext φ=>obtain⟨p,⟨o,e⟩,st⟩:=x;exact⟨st _ _ p λo q=>k _ _ (.inl rfl) q,⟨o,k _ _ (.inl rfl) e⟩,st⟩
theorem OP.lt (x:OP P w H h)(e:H a=some o):a<h.objs.size:=(x a o e).lt
variable {a:A'} in
theorem OP.fresh (x:OP P w H h)(e:h.objs.size<=a):H a=none:=by
 cases q:H a with
 | none=>rfl
 | some u=>exact Nc (OY (x.lt q) e) (T4 _)
theorem OP.kept (x:OP P w H h)(k:∀b u,h.get? b=some u->h'.get? b=some u):OP P w H h':=λa o e=>
 (x a o e).Ud (λb u _ q=>k b u q) (λ_ q=>q) λ_ _ q=>q
variable {a:A'} in
theorem OP.laid (x:OP P w H h)(k:∀b u,h.get? b=some u->h'.get? b=some u)(hp:h.objs.size<=a)(new:bz P w (upd H a o) h' a o):OP P w (upd H a o) h':=λb u e=>by
 have hn:=x.fresh hp
 by_cases hb:b=a
 .subst hb;rw[al] at e;cases e;exact new
 .rw[aq hb] at e;exact(x b u e).Ud (λc v _ q=>k c v q) (λc q=>by rw[aq (av q hn)];exact q) λc xs q=>by rw[aq (av q hn)];exact q
end
def Rd (H:Hp)(a:A')(u:HO):Prop:=H a=some u\/∃o,H a=some (.Oq o u)
theorem Rd.ok (r:Rd H a u)(x:OP P w H h):bz P w H h a u:=by
 rcases r with r|⟨o,r⟩
 .exact x a u r
 .obtain⟨_,q⟩:=x a _ r;exact q
def X0:Option HO->Prop
 | some (.lst _)=>True
 | some (.dK _)=>True
 | some (.dT _)=>True
 | some (.set _ _)=>True
 | some (.ins _ _ _)=>True
 | some (.ext _)=>True
 | _=>False
section
theorem OP.write (ok:OP P w H h)(mu:X0 (H x))(he:e=x\/H e=some (.own x))(k:∀b u,b≠e->h.get? b=some u->h'.get? b=some u)(V8:∃u,h'.get? e=some u)(new:bz P w (upd H x o') h' x o'):OP P w (upd H x o') h':=λb u q=>by
 have adr:∀c y,H c=some (.own y)->c≠x:=λc y r z=>by subst z;rw[r] at mu;exact mu
 have afq:∀c xs,H c=some (.tup xs)->c≠x:=λc xs r z=>by subst z;rw[r] at mu;exact mu
 by_cases hb:b=x
 .subst hb;rw[al] at q;cases q;exact new
 .rw[aq hb] at q
  by_cases U9:b=e
  .have q':H b=some (.own x):=by
    rcases he with z|z
    .exact Nc (U9.trans z) hb
    .rw[U9];exact z
   rw[q] at q';cases q';obtain⟨v,hv⟩:=V8;exact⟨v,by rw[U9];exact hv⟩
  .refine(ok b u q).Ud (λc v hc r=>k c v ?_ r) (λc r=>by rw[aq (adr c b r)];exact r) λc xs r=>by rw[aq (afq c xs r)];exact r
   rcases hc with rfl|hc
   .exact U9
   .rintro rfl;rcases he with z|z
    .exact adr c b hc z
    .rw[hc] at z;cases z;exact hb rfl
end
structure Un (fs ex:List A')(H H':Hp)(h h':M4):Prop where
 keep:∀b o,h.get? b=some o->H b=none->b∉fs->b∉ex->h'.get? b=some o
 slot:∀b o,h.get? b=some o->H b=none->b∈fs->b∉ex->∃sl,h'.get? b=some { o with slots:=sl }
 free:∀b o,h.get? b=some o->H b=none->b∉ex->H' b=none
 there:∀b o,h.get? b=some o->b∉ex->∃o',h'.get? b=some o'
 Pb:∀b xs,H b=some (.tup xs)->H' b=some (.tup xs)
 Sd:∀b o u,H b=some (.Oq o u)->H' b=some (.Oq o u)
 Se:∀b ps,H b=some (.PR ps)->∃more,H' b=some (.PR (ps++more))
section
theorem Un.any (u:Un fs ex H H1 h h1)(q:h.get? b=some ob)(n:H b=none)(hx:b∉ex):∃sl,h1.get? b=some { ob with slots:=sl }:=by
 by_cases hb:b∈fs
 .exact u.slot b ob q n hb hx
 .exact⟨ob.slots,u.keep b ob q n hb hx⟩
theorem Un.kept (k:∀b u,h.get? b=some u->h'.get? b=some u):Un fs ex H H h h':=
 ⟨λb ob q _ _ _=>k b ob q,λb ob q _ _ _=>⟨ob.slots,k b ob q⟩,λ_ _ _ n _=>n,λb ob q _=>⟨ob,k b ob q⟩,λ_ _ q=>q,λ_ _ _ q=>q,λ_ ps q=>⟨#[],by rw[q];simp⟩⟩
theorem Un.refl:Un fs ex H H h h:=Un.kept λ_ _ q=>q
theorem Un.laid (k:∀b u,h.get? b=some u->h'.get? b=some u)(hp:h.objs.size<=a)(hn:H a=none):Un fs ex H (upd H a o) h h' where
 keep:=λb u q _ _ _=>k b u q
 slot:=λb u q _ _ _=>⟨u.slots,k b u q⟩
 free:=λb u q n _=>by rw[aq (N0 (OY (NC q) hp))];exact n
 there:=λb u q _=>⟨u,k b u q⟩
 Pb:=λb xs q=>by rw[aq (av q hn)];exact q
 Sd:=λb u xs q=>by rw[aq (av q hn)];exact q
 Se:=λb ps q=>⟨#[],by rw[aq (av q hn),q];simp⟩
theorem Un.write (mu:X0 (H x))(he:e=x\/H e=some (.own x))(k:∀b u,b≠e->h.get? b=some u->h'.get? b=some u)(V8:∃u,h'.get? e=some u):Un fs ex H (upd H x o) h h':=by
 have hx:∀b,H b=none->b≠x:=λb n z=>by subst z;rw[n] at mu;exact mu
 have hb:∀b,H b=none->b≠e:=λb n z=>by
  subst z;rcases he with r|r
  .exact hx b n r
  .rw[n] at r;cases r
 have hm:∀b u,H b=some u->¬X0 (some u)->b≠x:=λb u q nm z=>by subst z;rw[q] at mu;exact nm mu
 refine⟨λb u q n _ _=>k b u (hb b n) q,λb u q n _ _=>⟨u.slots,k b u (hb b n) q⟩,λb u q n _=>by rw[aq (hx b n)];exact n,λb u q _=>?_,
  λb xs q=>by rw[aq (hm b _ q λz=>z)];exact q,λb u xs q=>by rw[aq (hm b _ q λz=>z)];exact q,λb ps q=>⟨#[],by rw[aq (hm b _ q λz=>z),q];simp⟩⟩
 by_cases U9:b=e
 .subst U9;exact V8
 .exact⟨u,k b u U9 q⟩
end
def ZV (h:M4)(H:Hp):List A':=(Oe h.objs.size).filter λa=>(H a).isSome
def gL (h:M4)(H:Hp):M4:=Zt h (ZV h H)
theorem yZ (h)(H):(gL h H).objs.size=h.objs.size:=W.hideAll_size _ _
theorem Bl (e:h.get? b=some o)(n:H b=none):(gL h H).get? b=some o:=
 Zk _ e λhm=>by
  have q:(H b).isSome=true:=(Pm.mp hm).2;rw[n] at q;simp at q
theorem DN (e:(gL h H).get? b=some o):h.get? b=some o/\H b=none:=by
 have e':h.get? b=some o:=aaT (ZV h H) e;refine⟨e',?_⟩;cases q:H b with
 | none=>rfl
 | some x=>
  have hm:b∈ZV h H:=Pm.mpr ⟨Pn.mpr (NC e'),by simp[q]⟩;have z:(gL h H).get? b=none:=acN (ZV h H) hm;rw[z] at e;cases e
structure Mod (K:MZ)(mg:MV->Option D')(base:M4):Prop where
 Uf:K.In base
 glob:base.Ns N5 mg
 blt:∃mb,base.Ns builtinsNs mb/\∀x:MV,x≠"__name__"->mb x=Qc x
 nolimit:base.NoLimit
structure Cx where
 prog:Ng
 w:M7
 K:MZ
 mg:MV->Option D'
 base:M4
 A:Nv
 N:List MV
 OU:J'
 U1:Hp
 env:OV
 outer:List OV
 stack:List OV
 ex:List A'
 fn:MV->Bool
 calm:Bool
 pn:List (A'×G')
 xe:D'->J'->Prop
def O2 (l:List OV):List A':=l.filterMap (·.frame)
abbrev Cx.fs (X:Cx):List A':=O2 X.outer
def ZW (sc:PX)(x:MV):Prop:=sc.names.lookup x=some .local \/sc.names.lookup x=some .cell\/sc.names.lookup x=some .free
def Loc (sc:PX)(x:MV):Prop:=sc.names.lookup x=some .local \/sc.names.lookup x=some .cell
def JQ (env:OV)(h:M4)(m:MV->Option D')(x:MV)(u:D'):Prop:=
 (env.kindOf x=some .local /\m x=some u)\/((env.kindOf x=some .cell\/env.kindOf x=some .free)/\∃c,env.cells.lookup x=some c/\h.IsCell c (some u))
structure Cx.Ok (X:Cx):Prop where
 mod:Mod X.K X.mg X.base
 kind:X.env.scope.kind=.function
 glob:X.env.globals=N5
 blt:X.env.builtins=builtinsNs
 above:X.OU.heap.objs.size<=X.env.locals
 inj:∀x y c,X.env.cells.lookup x=some c->X.env.cells.lookup y=some c->x=y
 has:∀x,(X.env.kindOf x=some .cell\/X.env.kindOf x=some .free)->∃c,X.env.cells.lookup x=some c
 V9:∀x c,X.fn x=true->X.env.cells.lookup x=some c->X.OU.heap.objs.size<=c
 hd:X.calm=true->X.A.handled=none
 frames:X.A.frames=some X.stack
 ZX:X.stack=X.outer\/(X.stack=X.env::X.outer/\X.env.frame=some X.env.locals)
 exf:∀b∈X.ex,b≠X.env.locals/\∀x c,X.env.cells.lookup x=some c->c≠b
 bs:∀b o,X.base.get? b=some o->X.OU.heap.get? b=some o/\X.U1 b=none
 Ts:X.base.objs.size<=X.OU.heap.objs.size
 Sf:∀b o,X.base.get? b=some o->b∉X.ex
 ZG:∀b∈X.ex,b∉X.fs
 QW:X.OU.heap.FunFrames X.base X.outer
 Tt:∀b∈X.fs,X.U1 b=none
structure Inv (X:Cx)(aa:List (A'×G'))(σ:List (Option V))(H:Hp)(s:J'):Prop where
 ok:X.Ok
 os:s.os=X.OU.os
 bare:Ti s.gens
 base:Un X.fs X.ex X.U1 H X.OU.heap s.heap
 loc:∃m,s.heap.Ns X.env.locals m/\∀(i:Nat) (x:MV) (v:V),X.N[i]?=some x->σ[i]?=some (some v)->ZW X.env.scope x->∃u,aI v u/\JQ X.env s.heap m x u
 cell:∀x c,X.env.cells.lookup x=some c->∃v,s.heap.IsCell c v
 free:H X.env.locals=none
 Sb:∀x c,X.env.cells.lookup x=some c->H c=none
 pin:∀p∈X.pn++aa,s.heap.get? p.1=some p.2/\H p.1=none/\p.1≠X.env.locals/\p.1∉X.fs/\∀v,p.2.data≠.cell v
 Nf:OP X.prog X.w H s.heap
 len:σ.length=X.N.length
section
variable {X:Cx} in
theorem Cx.Ok.afr (ok:X.Ok)(e:X.base.get? b=some o):b∉X.fs:=λhb=>by
 have:=(ok.QW.mem hb).1;rw[e] at this;cases this
theorem Inv.bs (I:Inv X aa σ H s):∀b o,X.base.get? b=some o->s.heap.get? b=some o/\H b=none:=λb o e=>
 ⟨I.base.keep b o (I.ok.bs b o e).1 (I.ok.bs b o e).2 (I.ok.afr e) (I.ok.Sf b o e),I.base.free b o (I.ok.bs b o e).1 (I.ok.bs b o e).2 (I.ok.Sf b o e)⟩
theorem Inv.bk (I:Inv X aa σ H s):∀b o,X.base.get? b=some o->s.heap.get? b=some o:=λb o e=>(I.bs b o e).1
theorem Inv.mod (I:Inv X aa σ H s):Mod X.K X.mg X.base:=I.ok.mod
theorem Inv.Ox (I:Inv X aa σ H s):X.K.In s.heap:=I.ok.mod.Uf.keeps I.bk
theorem Inv.lt (I:Inv X aa σ H s):X.env.locals<s.heap.objs.size:=let ⟨_,hn,_⟩:=I.loc;hn.lt
theorem Inv.sz (I:Inv X aa σ H s):X.OU.heap.objs.size<=s.heap.objs.size:=Ph I.ok.above (UR I.lt)
theorem Inv.ads (I:Inv X aa σ H s){a:A'}(h:s.heap.objs.size<=a):a∉X.fs:=λhb=>by
 obtain⟨_,o,ho,_⟩:=I.ok.QW.mem hb;exact Nc (OY (NC ho) (Ph I.sz h)) (T4 _)
theorem Inv.Ug (I:Inv X aa σ H s):∀x c,X.env.cells.lookup x=some c->c≠X.env.locals:=λx c e z=>by
 obtain⟨v,o,ho,hd⟩:=I.cell x c e;obtain⟨m,⟨o',es,ep,Pp,QZ,_⟩,_⟩:=I.loc;rw[z,Pp] at ho;cases ho;rw[QZ] at hd;cases hd
theorem Inv.QW (I:Inv X aa σ H s):s.heap.FunFrames X.base X.outer:=by
 have all:∀(l:List OV),(∀b∈O2 l,b∈X.fs)->X.OU.heap.FunFrames X.base l->s.heap.FunFrames X.base l:=by
  intro l
  induction l with
  | nil=>intro _ _;trivial
  | cons env r ih=>
   intro hs hl;obtain⟨hk,⟨L,o,hf,hn,ho,hd⟩,hr⟩:=hl;have hL:L∈X.fs:=hs L (by unfold O2;rw[QP,hf];exact Nu);obtain⟨sl,e⟩:=I.base.slot L o ho (I.ok.Tt L hL) hL λz=>I.ok.ZG L z hL;exact⟨hk,⟨L,_,hf,hn,e,hd⟩,ih (λb hb=>hs b (by unfold O2;rw[QP,hf];exact NP _ hb)) hr⟩
 exact all X.outer (λ_ hb=>hb) I.ok.QW
theorem Inv.stack (I:Inv X aa σ H s):s.heap.FunFrames X.base X.stack:=by
 rcases I.ok.ZX with e|⟨e,hf⟩
 .rw[e];exact I.QW
 .rw[e];obtain⟨m,hn,_⟩:=I.loc;refine .cons (by rw[I.ok.kind];decide) hf hn ?_ I.QW;exact M4.get?_none_of_le (Ph I.ok.Ts I.ok.above)
theorem Inv.Tk (I:Inv X aa σ H s):∀b∈O2 X.stack,b∈X.env.locals::X.fs:=λb hb=>by
 rcases I.ok.ZX with e|⟨e,hf⟩
 .rw[e] at hb;exact NP _ hb
 .rw[e] at hb;unfold O2 at hb;rw[QP,hf] at hb;exact hb
theorem Inv.aba (I:Inv X aa σ H s):∀b∈O2 X.stack,H b=none:=λb hb=>by
 rcases NG.mp (I.Tk b hb) with e|hb
 .rw[e];exact I.free
 .obtain⟨_,o,ho,_⟩:=I.ok.QW.mem hb;exact I.base.free b o ho (I.ok.Tt b hb) λz=>I.ok.ZG b z hb
variable {X:Cx}{aa:List (A'×G')}{σ:List (Option V)}{H:Hp}{H':Hp}{s:J'}{h':M4} in
theorem Inv.step {g':Array GenState}{t':Nat}{d':Drawn}{ch:List A'}(I:Inv X aa σ H s)(SJ:∀b∈ch,(b∈X.ex\/X.OU.heap.objs.size<=b)/\b≠X.env.locals/\(∀x c,X.env.cells.lookup x=some c->c≠b)/\∀p∈X.pn++aa,p.1≠b)(keep:∀b o,b≠X.env.locals->b∉X.fs->b∉ch->s.heap.get? b=some o->H b=none->h'.get? b=some o)(slot:∀b o,b≠X.env.locals->b∈X.fs->b∉ch->s.heap.get? b=some o->H b=none->∃sl,h'.get? b=some { o with slots:=sl })(free:∀b o,b∉ch->s.heap.get? b=some o->H b=none->H' b=none)(there:∀b o,b∉ch->s.heap.get? b=some o->∃o',h'.get? b=some o')(Pb:∀b xs,H b=some (.tup xs)->H' b=some (.tup xs))(Sd:∀b o u,H b=some (.Oq o u)->H' b=some (.Oq o u))(Se:∀b ps,H b=some (.PR ps)->∃more,H' b=some (.PR (ps++more)))(ns:∀m,s.heap.Ns X.env.locals m->h'.Ns X.env.locals m)(Nf:OP X.prog X.w H' h')(hg:Ti g'):
  Inv X aa σ H' { s with heap:=h',gens:=g',drawn:=d',toks:=t' }:=by
 have Uh:∀b o,X.OU.heap.get? b=some o->b≠X.env.locals:=λb o e=>N0 (OY (NC e) I.ok.above);have RC:∀b o,X.OU.heap.get? b=some o->b∉X.ex->b∉ch:=λb o e hx hb=>by
  rcases(SJ b hb).1 with z|z
  .exact hx z
  .exact Nc (OY (NC e) z) (T4 _)
 have cellK:∀x c,X.env.cells.lookup x=some c->∀v,s.heap.IsCell c v->h'.IsCell c v:=λx c e v ⟨o,ho,hd⟩=>by
  have X1:c∉ch:=λz=>(SJ c z).2.2.1 x c e rfl
  by_cases hc:c∈X.fs
  .obtain⟨sl,q⟩:=slot c o (I.Ug x c e) hc X1 ho (I.Sb x c e);exact⟨_,q,hd⟩
  .exact⟨o,keep c o (I.Ug x c e) hc X1 ho (I.Sb x c e),hd⟩
 refine⟨I.ok,I.os,hg,⟨λb o e n hb hx=>?_,λb o e n hb hx=>?_,λb o e n hx=>?_,λb o e hx=>?_,λb xs e=>Pb b xs (I.base.Pb b xs e),λb o xs e=>Sd b o xs (I.base.Sd b o xs e),λb ps e=>?_⟩,?_,λx c e=>?_,?_,λx c e=>?_,λp hp=>?_,Nf,I.len⟩
 .exact keep b o (Uh b o e) hb (RC b o e hx) (I.base.keep b o e n hb hx) (I.base.free b o e n hx)
 .obtain⟨sl,e1⟩:=I.base.slot b o e n hb hx;obtain⟨X2,e2⟩:=slot b _ (Uh b o e) hb (RC b o e hx) e1 (I.base.free b o e n hx);exact⟨X2,e2⟩
 .obtain⟨o',e1⟩:=I.base.there b o e hx;exact free b o' (RC b o e hx) e1 (I.base.free b o e n hx)
 .obtain⟨o',e1⟩:=I.base.there b o e hx;exact there b o' (RC b o e hx) e1
 .obtain⟨m1,e1⟩:=I.base.Se b ps e;obtain⟨m2,e2⟩:=Se b _ e1;exact⟨m1++m2,by rw[e2,Array.append_assoc]⟩
 .obtain⟨m,hn,hl⟩:=I.loc;refine⟨m,ns m hn,λi x v e1 e2 e3=>?_⟩;obtain⟨u,r,l⟩:=hl i x v e1 e2 e3;refine⟨u,r,?_⟩;rcases l with l|⟨k,c,e,z⟩
  .exact .inl l
  .exact .inr ⟨k,c,e,cellK x c e _ z⟩
 .obtain⟨v,z⟩:=I.cell x c e;exact⟨v,cellK x c e v z⟩
 .obtain⟨m,⟨o,_,_,ho,_⟩,_⟩:=I.loc;exact free _ o (λz=>(SJ _ z).2.1 rfl) ho I.free
 .obtain⟨v,o,ho,hd⟩:=I.cell x c e;exact free c o (λz=>(SJ c z).2.2.1 x c e rfl) ho (I.Sb x c e)
 .obtain⟨e,n,ne,nf,d⟩:=I.pin p hp;have X1:p.1∉ch:=λz=>(SJ p.1 z).2.2.2 p hp rfl;exact⟨keep p.1 p.2 ne nf X1 e n,free p.1 p.2 X1 e n,ne,nf,d⟩
theorem Inv.un {t':Nat}(I:Inv X aa σ H s)(u:Un X.fs [] H H' s.heap h')(Nf:OP X.prog X.w H' h'):Inv X aa σ H' { s with heap:=h',toks:=t' }:=by
 obtain⟨m,⟨o,es,ep,ho,r⟩,_⟩:=id I.loc;obtain⟨sl,hL⟩:=u.any ho I.free (by simp);exact I.step (g':=s.gens) (d':=s.drawn) (ch:=[]) (λ_ z=>nomatch z) (λb o _ hb _ e n=>u.keep b o e n hb (by simp)) (λb o _ hb _ e n=>u.slot b o e n hb (by simp)) (λb o _ e n=>u.free b o e n (by simp)) (λb o _ e=>u.there b o e (by simp)) u.Pb u.Sd u.Se (λm' hm=>by
  obtain⟨o',Pj,Q0,Pp,r'⟩:=hm;rw[ho] at Pp;cases Pp;exact⟨_,Pj,Q0,hL,r'⟩) Nf I.bare
theorem Inv.call {t':Nat}{d':Drawn}(I:Inv X aa σ H s)(u:Un (O2 X.stack) ch H H' s.heap h')(Nf:OP X.prog X.w H' h')(hg:Ti g')(SJ:∀b∈ch,(b∈X.ex\/X.OU.heap.objs.size<=b)/\b≠X.env.locals/\(∀x c,X.env.cells.lookup x=some c->c≠b)/\∀p∈X.pn++aa,p.1≠b):
  Inv X aa σ H' { s with heap:=h',gens:=g',drawn:=d',toks:=t' }:=by
 obtain⟨m,⟨o,es,ep,ho,r⟩,_⟩:=id I.loc;obtain⟨sl,hL⟩:=u.any ho I.free λz=>(SJ _ z).2.1 rfl;exact I.step (ch:=ch) SJ (λb o hL hb hc e n=>u.keep b o e n (λz=>(NG.mp (I.Tk b z)).elim hL hb) hc) (λb o _ _ hc e n=>u.any e n hc) (λb o hc e n=>u.free b o e n hc) (λb o hc e=>u.there b o e hc) u.Pb u.Sd u.Se (λm' hm=>by
  obtain⟨o',Pj,Q0,Pp,r'⟩:=hm;rw[ho] at Pp;cases Pp;exact⟨_,Pj,Q0,hL,r'⟩) Nf hg
theorem Inv.turned {t':Nat}(I:Inv X aa σ H s)(k:∀b o,b≠it->s.heap.get? b=some o->h'.get? b=some o)(hn:H it=none)(hL:it≠X.env.locals)(h1:it∈X.ex\/X.OU.heap.objs.size<=it)(h2:∀x c,X.env.cells.lookup x=some c->c≠it)(h3:∀p∈X.pn++aa,p.1≠it):Inv X aa σ H { s with heap:=h',toks:=t' }:=by
 have nit:∀b u,H b=some u->b≠it:=λb u e z=>by rw[z,hn] at e;cases e
 refine I.step (g':=s.gens) (d':=s.drawn) (ch:=[it]) (λb hb=>?_) (λb o _ _ hc e _=>k b o (λz=>hc (by simp[z])) e) (λb o _ _ hc e _=>⟨o.slots,k b o (λz=>hc (by simp[z])) e⟩) (λ_ _ _ _ n=>n)
  (λb o hc e=>⟨o,k b o (λz=>hc (by simp[z])) e⟩) (λ_ _ e=>e) (λ_ _ _ e=>e) (λb ps e=>⟨#[],by rw[e];simp⟩) (λm hm=>?_) (λb u e=>?_) I.bare
 .have e:b=it:=by simpa using hb
  subst e;exact⟨h1,hL,h2,h3⟩
 .obtain⟨o,es,ep,ho,r⟩:=hm;exact⟨o,es,ep,k _ o (N1 hL) ho,r⟩
 .refine(I.Nf b u e).Ud (λc v hc q=>k c v ?_ q) (λ_ q=>q) λ_ _ q=>q;rcases hc with z|z
  .rw[z];exact nit b u e
  .exact nit c _ z
theorem Inv.tok (I:Inv X aa σ H s)(t:Nat):Inv X aa σ H { s with toks:=t }:=I.un (h':=s.heap) (t':=t) Un.refl I.Nf
theorem Inv.kept {t':Nat}(I:Inv X aa σ H s)(k:∀b u,s.heap.get? b=some u->h'.get? b=some u):Inv X aa σ H { s with heap:=h',toks:=t' }:=I.un (Un.kept k) (I.Nf.kept k)
theorem Inv.laid {a:A'}{t':Nat}(I:Inv X aa σ H s)(k:∀b u,s.heap.get? b=some u->h'.get? b=some u)(hp:s.heap.objs.size<=a)(new:bz X.prog X.w (upd H a o) h' a o):
  Inv X aa σ (upd H a o) { s with heap:=h',toks:=t' }:=I.un (Un.laid k hp (I.Nf.fresh hp)) (I.Nf.laid k hp new)
theorem Inv.write {t':Nat}(I:Inv X aa σ H s)(mu:X0 (H x))(he:e=x\/H e=some (.own x))(k:∀b u,b≠e->s.heap.get? b=some u->h'.get? b=some u)(V8:∃u,h'.get? e=some u)(new:bz X.prog X.w (upd H x o) h' x o):Inv X aa σ (upd H x o) { s with heap:=h',toks:=t' }:=I.un (Un.write mu he k V8) (I.Nf.write mu he k V8 new)
theorem Inv.V5 (I:Inv X aa σ H s)(h:∀p∈ade,s.heap.get? p.1=some p.2/\H p.1=none/\p.1≠X.env.locals/\p.1∉X.fs/\∀v,p.2.data≠.cell v):Inv X ade σ H s:=
 ⟨I.ok,I.os,I.bare,I.base,I.loc,I.cell,I.free,I.Sb,λp hp=>(Ov.mp hp).elim (λz=>I.pin p (R3 _ z)) (h p),I.Nf,I.len⟩
theorem sW {N:List MV}(hN:N.Nodup){i j:Nat}{x:MV}(a:N[i]?=some x)(b:N[j]?=some x):i=j:=by
 obtain⟨h1,e1⟩:=OA.mp a;obtain⟨h2,e2⟩:=OA.mp b;exact(List.getElem_inj hN).mp (e1.trans e2.symm)
theorem qw (I:Inv X aa σ H s)(hN:X.N.Nodup)(hi:X.N[i]?=some x)(hx:Loc X.env.scope x)(r:aI v u)(h:∀s',Inv X aa (σ.set i (some v)) H s'->(∃a,R6 a s.heap s'.heap/\(a=X.env.locals\/X.env.cells.lookup x=some a))->Q () s')(hf:X.fn x=true\/X.env.scope.names.lookup x=some .local :=by first|exact .inl rfl|exact .inr rfl|assumption):M3 M A (storeName X.env x u) Q E s:=by
 obtain⟨m,hn,hl⟩:=id I.loc;have afs:(X.env.scope.kind==.class ||(X.env.scope.kind==.module&&X.env.locals != X.env.globals))=false:=by rw[I.ok.kind];rfl
 have adt:i<σ.length:=by rw[I.len];exact(OA.mp hi).1
 have Ug:=I.Ug;have tracked:∀{a:A'}{h':M4},(∃o,s.heap.get? a=some o/\H a=none)->R6 a s.heap h'->OP X.prog X.w H h':=λ{a h'} ha hs b ob e=>by
  obtain⟨_,_,adf⟩:=ha;refine(I.Nf b ob e).Ud (λc w' hc q=>(hs.2 c ?_).trans q) (λ_ q=>q) λ_ _ q=>q;rintro rfl;rcases hc with rfl|hc
  .rw[adf] at e;cases e
  .rw[adf] at hc;cases hc
 rcases hx with hk|hk
 .refine wpAny_storeName_local hk hn (λh' hn' hs=>?_) afs;obtain⟨oL,_,_,hoL,_⟩:=id hn;refine h _ ⟨I.ok,I.os,I.bare,⟨λb o e n hb hx=>?_,λb o e n hb hx=>?_,I.base.free,λb o e hx=>?_,I.base.Pb,I.base.Sd,I.base.Se⟩,⟨_,hn',λj y v' e1 e2 e3=>?_⟩,λy c e=>?_,I.free,I.Sb,λp hp=>?_,tracked ⟨oL,hoL,I.free⟩ hs,by simpa using I.len⟩ ⟨_,hs,.inl rfl⟩
  .exact(hs.2 b (N0 (OY (NC e) I.ok.above))).trans (I.base.keep b o e n hb hx)
  .obtain⟨sl,e1⟩:=I.base.slot b o e n hb hx;exact⟨sl,(hs.2 b (N0 (OY (NC e) I.ok.above))).trans e1⟩
  .obtain⟨o',e1⟩:=I.base.there b o e hx;exact⟨o',(hs.2 b (N0 (OY (NC e) I.ok.above))).trans e1⟩
  .by_cases hj:j=i
   .subst hj;rw[hi] at e1;cases e1;rw[aeq adt] at e2;cases e2;exact⟨u,r,.inl ⟨hk,by simp⟩⟩
   .rw[aeB (N1 hj)] at e2;obtain⟨u',r',q⟩:=hl j y v' e1 e2 e3;refine⟨u',r',?_⟩;rcases q with⟨k,e⟩|⟨k,c,e,z⟩
    .refine .inl ⟨k,?_⟩;have:y≠x:=λe=>hj (sW hN e1 (e▸hi));simp[this,e]
    .exact .inr ⟨k,c,e,z.sameBut hs (Ug y c e)⟩
  .obtain⟨w',z⟩:=I.cell y c e;exact⟨w',z.sameBut hs (Ug y c e)⟩
  .obtain⟨e,n,ne,nf,d⟩:=I.pin p hp;exact⟨(hs.2 p.1 ne).trans e,n,ne,nf,d⟩
 .have X3:X.fn x=true:=by
   rcases hf with z|z
   .exact z
   .rw[z] at hk;cases hk
  obtain⟨c,hc⟩:=I.ok.has x (.inl hk);obtain⟨w',z⟩:=I.cell x c hc;refine wpAny_storeName_cell I.ok.kind hk hc z (λh' U' hs=>?_);obtain⟨oc,X4,aft⟩:=id z;refine h { s with heap:=h' } ⟨I.ok,I.os,I.bare,⟨λb o e n hb hx=>?_,λb o e n hb hx=>?_,I.base.free,λb o e hx=>?_,I.base.Pb,I.base.Sd,I.base.Se⟩,⟨m,hn.sameBut hs (N1 (Ug x c hc)),λj y v' e1 e2 e3=>?_⟩,λy c' e=>?_,I.free,I.Sb,λp hp=>?_,tracked ⟨oc,X4,I.Sb x c hc⟩ hs,by simpa using I.len⟩ ⟨c,hs,.inr hc⟩
  .exact(hs.2 b (N0 (OY (NC e) (I.ok.V9 x c X3 hc)))).trans (I.base.keep b o e n hb hx)
  .obtain⟨sl,e1⟩:=I.base.slot b o e n hb hx;exact⟨sl,(hs.2 b (N0 (OY (NC e) (I.ok.V9 x c X3 hc)))).trans e1⟩
  .obtain⟨o',e1⟩:=I.base.there b o e hx;exact⟨o',(hs.2 b (N0 (OY (NC e) (I.ok.V9 x c X3 hc)))).trans e1⟩
  .by_cases hj:j=i
   .subst hj;rw[hi] at e1;cases e1;rw[aeq adt] at e2;cases e2;exact⟨u,r,.inr ⟨.inl hk,c,hc,U'⟩⟩
   .rw[aeB (N1 hj)] at e2;obtain⟨u',r',q⟩:=hl j y v' e1 e2 e3;refine⟨u',r',?_⟩;rcases q with q|⟨k,c',e,z'⟩
    .exact .inl q
    .refine .inr ⟨k,c',e,z'.sameBut hs ?_⟩;rintro rfl;exact hj (sW hN e1 (I.ok.inj _ _ _ e hc▸hi))
  .by_cases hcc:c'=c
   .subst hcc;exact⟨_,U'⟩
   .obtain⟨w2,z2⟩:=I.cell y c' e;exact⟨w2,z2.sameBut hs hcc⟩
  .obtain⟨e,n,ne,nf,d⟩:=I.pin p hp;refine⟨(hs.2 p.1 ?_).trans e,n,ne,nf,d⟩;intro q;rw[q,X4] at e;have q':oc=p.2:=Rw e;exact d w' (by rw[<-q'];exact aft)
theorem jM (I:Inv X aa σ H s)(hN:X.N.Nodup)(hi:X.N[i]?=some x)(hx:Loc X.env.scope x)(r:aI v u)(h:∀s',Inv X aa (σ.set i (some v)) H s'->Q () s')(hf:X.fn x=true\/X.env.scope.names.lookup x=some .local :=by first|exact .inl rfl|exact .inr rfl|assumption):M3 M A (storeName X.env x u) Q E s:=
 qw I hN hi hx r (λs' I' _=>h s' I') hf
theorem Inv.adg (I:Inv X aa σ H s)(ho:s'.os=s.os)(u:Un (O2 X.stack) ch H H' s.heap s'.heap)(Nf:OP X.prog X.w H' s'.heap)(hg:Ti s'.gens)(SJ:∀b∈ch,(b∈X.ex\/X.OU.heap.objs.size<=b)/\b≠X.env.locals/\(∀x c,X.env.cells.lookup x=some c->c≠b)/\∀p∈X.pn++aa,p.1≠b):Inv X aa σ H' s':=by
 obtain⟨h',g',d',t',o'⟩:=s';have e:o'=s.os:=ho;subst e;exact I.call (g':=g') (t':=t') (d':=d') u Nf hg SJ
end
abbrev XK:=D'->Option A'->Hp->Prop
abbrev St:=List (Option V)
abbrev VK:=V->Hp->Prop
abbrev TE:=St->Hp->VK->Prop
abbrev TT:=St->Hp->(Bool->Hp->Prop)->Prop
abbrev TA:=St->Hp->(List V->Hp->Prop)->Prop
structure Ends where
 nx:St->Hp->Prop
 rt:VK
 bk:St->Hp->Prop:=λ_ _=>False
 ct:St->Hp->Prop:=λ_ _=>False
abbrev TS:=Ends->St->Hp->Prop
def EP (X:Cx)(aa:List (A'×G'))(σ:St)(Q:VK)(u:D')(s':J'):Prop:=∃v H',Inv X aa σ H' s'/\aI v u/\Q v H'
def TP (X:Cx)(aa:List (A'×G'))(σ:St)(Q:Bool->Hp->Prop)(b:Bool)(s':J'):Prop:=∃H',Inv X aa σ H' s'/\Q b H'
def AP (X:Cx)(aa:List (A'×G'))(σ:St)(Q:List V->Hp->Prop)(us:List D')(s':J'):Prop:=∃vs H',Inv X aa σ H' s'/\aL vs us/\Q vs H'
def SP (X:Cx)(aa:List (A'×G'))(D:Ends)(f:Flow)(s':J'):Prop:=
 match f with
 | .next=>∃NV H',Inv X aa NV H' s'/\D.nx NV H'
 | .brk=>∃NV H',Inv X aa NV H' s'/\D.bk NV H'
 | .cont=>∃NV H',Inv X aa NV H' s'/\D.ct NV H'
 | .ret u=>∃v NV H',Inv X aa NV H' s'/\aI v u/\D.rt v H'
def PE (X:Cx)(e:Nn)(t:TE):Prop:=
 ∀(aa:List (A'×G')) (s:J') (σ:St) (H:Hp) (Q:VK),Inv X aa σ H s->t σ H Q->M3 (M8 X.prog X.w) X.A (eval e X.env) (EP X aa σ Q) X.xe s
def PT (X:Cx)(e:Nn)(t:TT):Prop:=
 ∀(aa:List (A'×G')) (s:J') (σ:St) (H:Hp) (Q:Bool->Hp->Prop),Inv X aa σ H s->t σ H Q->M3 (M8 X.prog X.w) X.A (isTrue e X.env (eval e X.env)) (TP X aa σ Q) X.xe s
def PW (X:Cx)(e:Nn)(t:TT):Prop:=
 ∀(whole:PY D') (aa:List (A'×G')) (s:J') (σ:St) (H:Hp) (Q:Bool->Hp->Prop),Inv X aa σ H s->t σ H Q->M3 (M8 X.prog X.w) X.A (isTrue e X.env whole) (TP X aa σ Q) X.xe s
theorem PW.pt (h:PW X e t):PT X e t:=h _
def PA (X:Cx)(es:List Nn)(t:TA):Prop:=
 ∀(pos:NS) (aa:List (A'×G')) (s:J') (σ:St) (H:Hp) (Q:List V->Hp->Prop),Inv X aa σ H s->t σ H Q->M3 (M8 X.prog X.w) X.A (spliced (backTo pos (Ob es X.env))) (AP X aa σ Q) X.xe s
def PS (X:Cx)(st:M')(t:TS):Prop:=
 ∀(aa:List (A'×G')) (s:J') (σ:St) (H:Hp) (D:Ends),Inv X aa σ H s->t D σ H->M3 (M8 X.prog X.w) X.A (exec st X.env) (SP X aa D) X.xe s
def Rk (X:Cx)(st:List M')(t:TS):Prop:=
 ∀(aa:List (A'×G')) (s:J') (σ:St) (H:Hp) (D:Ends),Inv X aa σ H s->t D σ H->M3 (M8 X.prog X.w) X.A (execs st X.env) (SP X aa D) X.xe s
theorem Nk {α:Type}{t:PY α}{Q Q':α->J'->Prop}{M:UZ}{A:Nv}{E:D'->J'->Prop}{s:J'}(h:M3 M A t Q E s)(hQ:∀a s,Q a s->Q' a s):M3 M A t Q' E s:=RO h hQ λ_ _ x=>x
section
def dL (i:Nat):TE:=λσ H Q=>∃v,σ[i]?=some (some v)/\Q v H
def tC (v:V):TE:=λ_ H Q=>Q v H
theorem y7 (hN:X.N[i]?=some x)(hv:ZW X.env.scope x)(hd:(x==("__debug__":MV))=false:=by decide)(Pq:(x==("__classdict__":MV))=false:=by decide):PE X (.Name x pos) (dL i):=by
 intro aa s σ H Q I h;obtain⟨v,e,h⟩:=h;obtain⟨m,hn,hl⟩:=I.loc;obtain⟨u,r,l⟩:=hl i x v hN e hv;have fin:EP X aa σ Q u s:=⟨v,H,I,r,h⟩
 rcases l with⟨hk,hm⟩|⟨hk,c,hc,adh⟩
 .exact wpAny_Name (wpAny_loadName_local I.ok.kind hk hn hm fin) hd
 .rcases hk with hk|hk
  .exact wpAny_Name (wpAny_loadName_cell I.ok.kind hk hc adh fin) hd
  .exact wpAny_Name (wpAny_loadName_free I.ok.kind hk hc adh fin Pq) hd
theorem ag {i j pos}:PE X (.Constant (.int i) j pos) (tC (.int i)):=λ_ _ _ H _ I h=>wpAny_Constant_int ⟨.int i,H,I.tok _,⟨_,rfl⟩,h⟩
theorem xE {b j pos}:PE X (.Constant (.bool b) j pos) (tC (.bl b)):=λ_ _ _ H _ I h=>Constant_bool ⟨.bl b,H,I,rfl,h⟩
theorem bc {x j pos}:PE X (.Constant (.str x) j pos) (tC (.str x)):=λ_ _ _ H _ I h=>aeT ⟨.str x,H,I.tok _,⟨_,rfl⟩,h⟩
def Gl (X:Cx)(x:MV):Prop:=X.env.kindOf x=some .globalImplicit
theorem jh {σ:St}(I:Inv X aa σ H s)(hg:Gl X x)(hm:X.mg x=some u)(h:Q u s)(hd:(x==("__debug__":MV))=false:=by decide):M3 (M8 X.prog X.w) X.A (eval (.Name x pos) X.env) Q E s:=
 ad4 I.ok.kind hg (Calls.loadGlobal_global (by rw[I.ok.glob];exact I.mod.glob.keeps I.bk) hm h) hd
theorem kE {σ:St}(I:Inv X aa σ H s)(hg:Gl X x)(hm:X.mg x=none)(hv:Qc x=some u)(h:Q u s)(hn:x≠"__name__":=by decide)(hd:(x==("__debug__":MV))=false:=by decide):M3 (M8 X.prog X.w) X.A (eval (.Name x pos) X.env) Q E s:=by
 obtain⟨mb,h1,h2⟩:=I.mod.blt;exact ad4 I.ok.kind hg (Calls.loadGlobal_builtin (by rw[I.ok.glob];exact I.mod.glob.keeps I.bk) hm (by rw[I.ok.blt];exact h1.keeps I.bk) ((h2 x hn).trans hv) h) hd
theorem aM (hg:Gl X x)(hm:X.mg x=some u)(r:aI v u)(hd:(x==("__debug__":MV))=false:=by decide):PE X (.Name x pos) (tC v):=
 λ_ _ _ H _ I h=>jh I hg hm ⟨v,H,I,r,h⟩ hd
theorem dM (hg:Gl X x)(hm:X.mg x=none)(hv:Qc x=some u)(r:aI v u)(hn:x≠"__name__":=by decide)(hd:(x==("__debug__":MV))=false:=by decide):PE X (.Name x pos) (tC v):=
 λ_ _ _ H _ I h=>kE I hg hm hv ⟨v,H,I,r,h⟩ hn hd
def PC (X:Cx)(op:CmpOp)(a b:Nn)(t:TE):Prop:=
 ∀(aa:List (A'×G')) (s:J') (σ:St) (H:Hp) (Q:VK),Inv X aa σ H s->t σ H Q->
  M3 (M8 X.prog X.w) X.A (eval a X.env) (λv Nw=>M3 (M8 X.prog X.w) X.A (eval b X.env) (λu NY=>M3 (M8 X.prog X.w) X.A (Ps op v u) (EP X aa σ Q) X.xe NY) X.xe Nw) X.xe s
def tB (t:TE):TT:=λσ H Q=>t σ H λx H1=>∃c,x=.bl c/\Q c H1
theorem y8 (h:PC X op a b t)(h1:behindInMarks op b=false:=by first|exact aga _ (by decide) (by decide)|rfl):PT X (.Compare a [op] [b] pos) (tB t):=by
 intro aa s σ H Q I hw;refine wpAny_isTrue_Compare1 (Nk (h aa s σ H _ I hw) λv s1 h1=>Nk h1 λu s2 h2=>Nk h2 λc s3 ⟨x,H1,I1,r1,q1⟩=>?_) h1;obtain⟨d,rfl,q⟩:=q1;cases r1;exact Rb ⟨H1,I1,q⟩
theorem cp (h:PE X e t)(he:∀whole,isTrue e X.env whole=(do let v <-whole;standAt e.pos;holding [v] (truthy v)):=by intro _;rfl):PT X e (tB t):=by
 intro aa s σ H Q I hw;refine isTrue_plain (Nk (h aa s σ H _ I hw) λv s1 ⟨x,H1,I1,r1,q1⟩=>?_) (he _);obtain⟨d,rfl,q⟩:=q1;cases r1;exact Rb ⟨H1,I1,q⟩
def xF (t u:TT):TT:=λσ H Q=>t σ H λc H1=>if c=true then u σ H1 Q else Q false H1
def tOr (t u:TT):TT:=λσ H Q=>t σ H λc H1=>if c=true then Q true H1 else u σ H1 Q
def JR (t:TT):TT:=λσ H Q=>t σ H λc H1=>Q (!c) H1
theorem gX (ha:PT X a tA):PW X (.BoolOp .And [a] pos) tA:=by
 intro wh aa s σ H Q I h;refine isTrue_and (Nk (ha aa s σ H Q I h) λc s1 e=>?_);cases c with
 | true=>exact isTrue_and_nil e
 | false=>exact e
theorem ig (ha:PT X a tA):PW X (.BoolOp .Or [a] pos) tA:=by
 intro wh aa s σ H Q I h;refine isTrue_or (Nk (ha aa s σ H Q I h) λc s1 e=>?_);cases c with
 | false=>exact isTrue_or_nil e
 | true=>exact e
theorem ji (ha:PT X a tA)(hb:PW X (.BoolOp .And (b::rest) pos) ZY):PW X (.BoolOp .And (a::b::rest) pos) (xF tA ZY):=by
 intro wh aa s σ H Q I h;refine isTrue_and (Nk (ha aa s σ H _ I h) λc s1 ⟨H1,I1,q1⟩=>?_);cases c with
 | true=>exact hb wh aa s1 σ H1 Q I1 q1
 | false=>exact⟨H1,I1,q1⟩
theorem gQ (ha:PT X a tA)(hb:PW X (.BoolOp .Or (b::rest) pos) ZY):PW X (.BoolOp .Or (a::b::rest) pos) (tOr tA ZY):=by
 intro wh aa s σ H Q I h;refine isTrue_or (Nk (ha aa s σ H _ I h) λc s1 ⟨H1,I1,q1⟩=>?_);cases c with
 | true=>exact⟨H1,I1,q1⟩
 | false=>exact hb wh aa s1 σ H1 Q I1 q1
theorem cf (ha:PT X a tA):PT X (.UnaryOp .Not a pos) (JR tA):=by
 intro aa s σ H Q I h;exact isTrue_not (ha aa s σ H (λc H1=>Q (!c) H1) I h)
def IM (ta tb:TE):TE:=λσ H Q=>ta σ H λx H1=>∃c,x=.bl c/\if c=true then tb σ H1 Q else Q (.bl false) H1
def JS (ta tb:TE):TE:=λσ H Q=>ta σ H λx H1=>∃c,x=.bl c/\if c=true then Q (.bl true) H1 else tb σ H1 Q
def IO (ta:TE):TE:=λσ H Q=>ta σ H λx H1=>∃c,x=.bl c/\Q (.bl (!c)) H1
theorem kF {op}(h:PE X a t):PE X (.BoolOp op [a] pos) t:=λaa s σ H Q I hw=>BoolOp_one (h aa s σ H Q I hw)
theorem jj (ha:PE X a ta)(hb:PE X (.BoolOp .And (b::rest) pos) tb):PE X (.BoolOp .And (a::b::rest) pos) (IM ta tb):=by
 intro aa s σ H Q I h;refine BoolOp_and (Nk (ha aa s σ H _ I h) λv s1 ⟨x,H1,I1,r1,q1⟩=>?_);obtain⟨c,rfl,q1⟩:=q1;cases r1;refine Rb ?_;cases c with
 | true=>exact hb aa s1 σ H1 Q I1 q1
 | false=>exact⟨.bl false,H1,I1,rfl,q1⟩
theorem IP (ha:PE X a ta)(hb:PE X (.BoolOp .Or (b::rest) pos) tb):PE X (.BoolOp .Or (a::b::rest) pos) (JS ta tb):=by
 intro aa s σ H Q I h;refine BoolOp_or (Nk (ha aa s σ H _ I h) λv s1 ⟨x,H1,I1,r1,q1⟩=>?_);obtain⟨c,rfl,q1⟩:=q1;cases r1;refine Rb ?_;cases c with
 | false=>exact hb aa s1 σ H1 Q I1 q1
 | true=>exact⟨.bl true,H1,I1,rfl,q1⟩
theorem y9 (ha:PE X a ta):PE X (.UnaryOp .Not a pos) (IO ta):=by
 intro aa s σ H Q I h;refine UnaryOp_ (Nk (ha aa s σ H _ I h) λv s1 ⟨x,H1,I1,r1,q1⟩=>?_);obtain⟨c,rfl,q1⟩:=q1;cases r1;exact not_of (Rb ⟨.bl (!c),H1,I1,rfl,q1⟩)
def tIf (t:TT)(ta tb:TE):TE:=λσ H Q=>t σ H λc H1=>if c=true then ta σ H1 Q else tb σ H1 Q
theorem eK (hc:PT X c tA)(ha:PE X a ta)(hb:PE X b tb):PE X (.IfExp c a b pos) (tIf tA ta tb):=by
 intro aa s σ H Q I h;refine wpAny_IfExp (Nk (hc aa s σ H _ I h) λd s1 ⟨H1,I1,q1⟩=>?_);cases d with
 | true=>exact ha aa s1 σ H1 Q I1 q1
 | false=>exact hb aa s1 σ H1 Q I1 q1
end
def Nj (K:MZ)(H:Hp)(a:A')(xs:List V):Prop:=
 Rd H a (.lst xs)\/
  ∃(o:G') (MY:Array D') (n:Nat),K.lookup a=some o/\o.cls=.type "list"/\o.dict=none/\o.data=.seq MY n/\MY.size<=Nh/\aL xs MY.toList
def Ni (K:MZ)(H:Hp)(a:A')(xs:List V):Prop:=
 Rd H a (.tup xs)\/
  ∃(o:G') (MY:Array D') (n:Nat),K.lookup a=some o/\o.cls=.type "tuple"/\o.data=.seq MY n/\MY.size<=Nh/\aL xs MY.toList/\o.dict=none
def JT:D'->Option V
 | .none=>some .Nr
 | .bool b=>some (.bl b)
 | .int i _=>some (.int i)
 | .str x _=>some (.str x)
 | .bytes b _=>some (.Rj b)
 | .float b _=>some (.U8 b)
 | .ref a=>some (.ref a)
 | .type n=>some (.ty n)
 | _=>none
theorem aI.abs (r:aI x u):JT u=some x:=by
 cases x with
 | Nr=>cases r;rfl
 | bl _=>cases r;rfl
 | int _=>obtain⟨t,rfl⟩:=r;rfl
 | str _=>obtain⟨t,rfl⟩:=r;rfl
 | Rj _=>obtain⟨t,rfl⟩:=r;rfl
 | U8 _=>obtain⟨t,rfl⟩:=r;rfl
 | ref _=>cases r;rfl
 | ty _=>cases r;rfl
theorem aI.inj (r:aI x u)(q:aI y u):x=y:=Rw (r.abs.symm.trans q.abs)
theorem aL.inj:∀{xs ys:List V}{us:List D'},aL xs us->aL ys us->xs=ys
 | _,_,_,.nil,.nil=>rfl
 | _,_,_,.cons r t,.cons r' t'=>by rw[r.inj r',aL.inj t t']
section
theorem Nj.of {K:MZ}(h:H a=some (.lst xs)):Nj K H a xs:=.inl (.inl h)
theorem Ni.of {K:MZ}(h:H a=some (.tup xs)):Ni K H a xs:=.inl (.inl h)
variable {σ:St} in
theorem Inv.list (I:Inv X aa σ H s)(h:Nj X.K H a xs):∃MY:List D',aL xs MY/\PlainL s.heap a MY.toArray/\xs.length<=Nh:=by
 rcases h with h|⟨o,MY,n,hk,hc,hd,hs,hz,r⟩
 .obtain⟨z,MY,n,r,e⟩:=h.ok I.Nf;exact⟨MY,r,⟨_,n,e,rfl,rfl,rfl⟩,z⟩
 .refine⟨MY.toList,r,⟨o,n,I.Ox a o hk,hc,hd,by simpa using hs⟩,?_⟩;have e:=r.length;simp only[Pe] at e;lia
variable {σ:St} in
theorem Inv.tuple (I:Inv X aa σ H s)(h:Ni X.K H a xs):∃MY:List D',aL xs MY/\UY s.heap a MY.toArray/\xs.length<=Nh:=by
 rcases h with h|⟨o,MY,n,hk,hc,hs,hz,r,_⟩
 .obtain⟨z,MY,r,p⟩:=h.ok I.Nf;exact⟨MY,r,p.tup,z⟩
 .refine⟨MY.toList,r,⟨o,I.Ox a o hk,hc,n,by simpa using hs⟩,?_⟩;have e:=r.length;simp only[Pe] at e;lia
variable {σ:St} in
theorem Inv.aa9 (I:Inv X aa σ H s)(h:Nj X.K H a xs)(h':Nj X.K H a ys):xs=ys:=by
 obtain⟨MY,r,⟨o,n,e,_,_,d⟩,_⟩:=I.list h;obtain⟨its',r',⟨o',n',e',_,_,d'⟩,_⟩:=I.list h';rw[e] at e';cases e';rw[d] at d';injection d' with d1 _
 have:MY=its':=by simpa using congrArg Array.toList d1
 subst this;exact r.inj r'
variable {σ:St} in
theorem Inv.Xy (I:Inv X aa σ H s)(h:Ni X.K H a xs)(h':Ni X.K H a ys):xs=ys:=by
 obtain⟨MY,r,⟨o,e,_,n,d⟩,_⟩:=I.tuple h;obtain⟨its',r',⟨o',e',_,n',d'⟩,_⟩:=I.tuple h';rw[e] at e';cases e';rw[d] at d';injection d' with d1 _
 have:MY=its':=by simpa using congrArg Array.toList d1
 subst this;exact r.inj r'
end
abbrev Cx.Sg (X:Cx)(E:D'->J'->Prop):Cx:={ X with xe:=E }
abbrev Cx.QJ (X:Cx):Cx:=X.Sg λ_ _=>False
theorem Cx.Ok.Sg {X:Cx}(ok:X.Ok)(E:D'->J'->Prop):(X.Sg E).Ok:=
 ⟨ok.mod,ok.kind,ok.glob,ok.blt,ok.above,ok.inj,ok.has,ok.V9,ok.hd,ok.frames,ok.ZX,ok.exf,ok.bs,ok.Ts,ok.Sf,ok.ZG,ok.QW,ok.Tt⟩
theorem Cx.Ok.Tl {X:Cx}(ok:(X.Sg E).Ok):X.Ok:=
 ⟨ok.mod,ok.kind,ok.glob,ok.blt,ok.above,ok.inj,ok.has,ok.V9,ok.hd,ok.frames,ok.ZX,ok.exf,ok.bs,ok.Ts,ok.Sf,ok.ZG,ok.QW,ok.Tt⟩
section
variable {σ:St} in
theorem Inv.Sg (I:Inv X aa σ H s)(E:D'->J'->Prop):Inv (X.Sg E) aa σ H s:=⟨I.ok.Sg E,I.os,I.bare,I.base,I.loc,I.cell,I.free,I.Sb,I.pin,I.Nf,I.len⟩
variable {σ:St} in
theorem Inv.Tl (I:Inv (X.Sg E) aa σ H s):Inv X aa σ H s:=⟨I.ok.Tl,I.os,I.bare,I.base,I.loc,I.cell,I.free,I.Sb,I.pin,I.Nf,I.len⟩
theorem SP.Tl (h:SP (X.Sg E) aa D f s'):SP X aa D f s':=by
 cases f with
 | next=>obtain⟨NV,H',I,q⟩:=h;exact⟨NV,H',I.Tl,q⟩
 | brk=>obtain⟨NV,H',I,q⟩:=h;exact⟨NV,H',I.Tl,q⟩
 | cont=>obtain⟨NV,H',I,q⟩:=h;exact⟨NV,H',I.Tl,q⟩
 | ret u=>obtain⟨v,NV,H',I,r,q⟩:=h;exact⟨v,NV,H',I.Tl,r,q⟩
theorem Rk.QJ {st:List M'}(h:Rk X.QJ st t):Rk X st t:=λaa s σ H D I hw=>
 RO (h aa s σ H D (I.Sg _) hw) (λ_ _ q=>q.Tl) λ_ _ z=>P3 z
end
section
def sx:TS:=λD σ H=>D.nx σ H
def xG (t u:TS):TS:=λD σ H=>t { D with nx:=u D } σ H
theorem au:Rk X [] sx:=λ_ _ σ H _ I h=>acE ⟨σ,H,I,h⟩
variable {st:M'} in
theorem ad (h1:PS X st t)(h2:Rk X rest u):Rk X (st::rest) (xG t u):=by
 intro aa s σ H D I h;refine wpAny_execs_cons (Nk (h1 aa s σ H { D with nx:=u D } I h) λf s1 q=>?_);cases f with
 | next=>
  obtain⟨NV,H',I',q⟩:=q;exact h2 aa s1 NV H' D I' q
 | ret v=>exact q
 | brk=>exact q
 | cont=>exact q
variable {st:M'} in
theorem af (h1:PS X st t):Rk X [st] t:=by
 intro aa s σ H D I h;refine wpAny_execs_cons (Nk (h1 aa s σ H D I h) λf s1 q=>?_);cases f with
 | next=>exact acE q
 | ret v=>exact q
 | brk=>exact q
 | cont=>exact q
theorem Inv.quiet {σ:St}(I:Inv X aa σ H s):interactive X.env=false:=by simp[interactive,I.ok.kind]
def IQ (te:TE):TS:=λD σ H=>te σ H λ_ H1=>D.nx σ H1
theorem bE (he:PE X e te)(hs:swapsWith e none pos.line X.env=pure false:=by rfl):PS X (.Expr e pos) (IQ te):=by
 intro aa s σ H D I h;exact wpAny_Expr_any (Nk (he aa s σ H _ I h) λv s1 ⟨x,H1,I1,r1,q1⟩=>⟨σ,H1,I1,q1⟩) I.quiet hs
def mU (te:TE):TS:=λD σ H=>te σ H D.rt
theorem aH (he:PE X e te):PS X (.Return (some e) pos) (mU te):=by
 intro aa s σ H D I h;exact wpAny_Return_some (Nk (he aa s σ H _ I h) λv s1 ⟨x,H1,I1,r1,q1⟩=>⟨x,σ,H1,I1,r1,q1⟩)
def IR:TS:=λD _ H=>D.rt .Nr H
theorem pA:PS X (.Return none pos) IR:=λ_ _ σ H _ I h=>wpAny_Return_none ⟨.Nr,σ,H,I,rfl,h⟩
def xH (c:TT)(t u:TS):TS:=λD σ H=>c σ H λb H1=>if b=true then t D σ H1 else u D σ H1
theorem aD (hc:PT X c tc)(ha:Rk X a t)(hb:Rk X b u):PS X (.If c a b pos) (xH tc t u):=by
 intro aa s σ H D I h;refine wpAny_If (Nk (hc aa s σ H _ I h) λd s1 ⟨H1,I1,q1⟩=>?_);cases d with
 | true=>exact ha aa s1 σ H1 D I1 q1
 | false=>exact hb aa s1 σ H1 D I1 q1
def E9:TS:=λ_ _ _=>False
variable {st:M'} in
theorem ao:PS X st E9:=λ_ _ _ _ _ _ h=>h.elim
end
abbrev TG:=V->St->Hp->(St->Hp->Prop)->Prop
abbrev Va:=List V->St->Hp->(St->Hp->Prop)->Prop
def PG (X:Cx)(target:Nn)(t:TG):Prop:=
 ∀(aa:List (A'×G')) (s:J') (σ:St) (H:Hp) (v:V) (u:D') (Q:St->Hp->Prop),Inv X aa σ H s->aI v u->t v σ H Q->
  M3 (M8 X.prog X.w) X.A (assign target X.env u) (λ_ s'=>∃NV H',Inv X aa NV H' s'/\Q NV H') X.xe s
def ZZ (X:Cx)(ts:List Nn)(t:Va):Prop:=
 ∀(aa:List (A'×G')) (s:J') (σ:St) (H:Hp) (vs:List V) (us:List D') (Q:St->Hp->Prop),Inv X aa σ H s->aL vs us->t vs σ H Q->
  M3 (M8 X.prog X.w) X.A (assignInOrder ((assignEach ts X.env).map (·.2)) us) (λ_ s'=>∃NV H',Inv X aa NV H' s'/\Q NV H') X.xe s
section
def xI (i:Nat):TG:=λv σ H Q=>Q (σ.set i (some v)) H
theorem cJ (hN:X.N.Nodup)(hi:X.N[i]?=some x)(hx:Loc X.env.scope x)(hf:X.fn x=true\/X.env.scope.names.lookup x=some .local :=by first|exact .inl rfl|exact .inr rfl|assumption):PG X (.Name x pos) (xI i):=by
 intro aa s σ H v u Q I r h;exact aav (jM I hN hi hx r (λs' I'=>⟨_,H,I',h⟩) hf)
def JU:Va:=λvs σ H Q=>vs=[]/\Q σ H
def IT (t:TG)(u:Va):Va:=λvs σ H Q=>∃v r,vs=v::r/\t v σ H λNV H'=>u r NV H' Q
theorem DQ:ZZ X [] JU:=by
 intro aa s σ H vs us Q I r h;obtain⟨e,h⟩:=h;subst e;cases r;exact assignInOrder_nil ⟨σ,H,I,h⟩
theorem sX (h1:PG X e t)(h2:ZZ X es u)(hs:(assignEach (e::es) X.env).map (·.2)=assign e X.env::(assignEach es X.env).map (·.2):=by rfl):ZZ X (e::es) (IT t u):=by
 intro aa s σ H vs us Q I r h;obtain⟨v,vr,e1,h⟩:=h;subst e1;cases r with
 | cons r rr=>
  rw[hs];refine assignInOrder_cons (Nk (h1 aa s σ H _ _ _ I r h) λ_ s1 ⟨σ1,H1,I1,q1⟩=>?_);exact h2 aa s1 σ1 H1 _ _ Q I1 rr q1
def JV (K:MZ)(n:Nat)(t:Va):TG:=λv σ H Q=>∃a xs,v=.ref a/\Ni K H a xs/\xs.length=n/\t xs σ H Q
theorem Fa (hc:X.calm=true)(h:ZZ X es t)(hn:(assignEach es X.env).length=n:=by rfl)(Ui:(assignEach es X.env).findIdx? (·.1)=none:=by rfl):PG X (.Tuple es k pos) (JV X.K n t):=by
 intro aa s σ H v u Q I r hw;obtain⟨a,xs,e1,hq,hl,hw⟩:=hw;subst e1;cases r;obtain⟨MY,rv,ht,hz⟩:=I.tuple hq;refine assign_Tuple_tuple (I.ok.hd hc) ht (by simp[hn,<-hl,rv.length]) Ui λh' hx=>?_;have I1:Inv X aa σ H { s with heap:=h' }:=I.kept (t':=s.toks) λb o e=>hx b o (N0 (NC e)) e;exact h aa _ σ H xs _ Q I1 (by simpa using rv) hw
def Fb (te:TE)(g:TG):TS:=λD σ H=>te σ H λx H1=>g x σ H1 D.nx
theorem aV (hN:X.N.Nodup)(hi:X.N[i]?=some x)(hx:Loc X.env.scope x)(he:PE X e te)(hs:swapsWith e (some (.Name x pos')) pos.line X.env=pure false:=by rfl)(hf:X.fn x=true\/X.env.scope.names.lookup x=some .local :=by first|exact .inl rfl|exact .inr rfl|assumption):
  PS X (.Assign [.Name x pos'] e pos) (Fb te (xI i)):=by
 intro aa s σ H D I h;refine wpAny_Assign_Name (Nk (he aa s σ H _ I h) λv s1 ⟨y,H1,I1,r1,q1⟩=>?_) hs;exact jM I1 hN hi hx r1 (λs2 I2=>⟨_,H1,I2,q1⟩) hf
end
section
end
structure It where
 go:Nat->Hp->Prop
 V':Nat->Hp->V->Hp->Prop
 stop:Nat->Hp->Prop
def i8 (X:Cx)(aa:List (A'×G'))(H:Hp)(b:A'):Prop:=
 H b=none/\b≠X.env.locals/\b∉X.fs/\(b∈X.ex\/X.OU.heap.objs.size<=b)/\(∀x c,X.env.cells.lookup x=some c->c≠b)/\∀p∈X.pn++aa,p.1≠b
theorem Inv.XJ {X:Cx}{aa:List (A'×G')}{σ:St}{H H':Hp}{s:J'}{b:A'}(I:Inv X aa σ H s)(hb:s.heap.objs.size<=b)(hn:H' b=none):i8 X aa H' b:=by
 refine⟨hn,Te (OY I.lt hb),I.ads hb,.inr (Ph I.sz hb),λx c e z=>?_,λp hp z=>?_⟩
 .obtain⟨v,q⟩:=I.cell x c e;exact Nc (OY q.lt (by rw[z];exact hb)) (T4 _)
 .exact Nc (OY (NC (I.pin p hp).1) (by rw[z];exact hb)) (T4 _)
structure Turn (P:Ng)(w:M7)(K:MZ)(tg:Nn)(J:It)(fp:List A')(it:A')(tn:Nat->M4->Prop):Prop where
 mem:it∈fp
 obj:∀i h,tn i h->∀b∈fp,∃o,h.get? b=some o/\∀v,o.data≠.cell v
 keep:∀i h h',tn i h->(∀b∈fp,∀o,h.get? b=some o->h'.get? b=some o)->tn i h'
 item:∀(X:Cx),X.prog=P->X.w=w->X.K=K->X.calm=true->∀(i:Nat) (aa:List (A'×G')) (s:J') (σ:St) (H:Hp) (E:D'->J'->Prop),Inv X aa σ H s->(∀b∈fp,i8 X aa H b)->tn i s.heap->J.go i H->
  M3 (M8 P w) X.A (pyNext (.ref it)) (λr s1=>∃u,r=some u/\
   M3 (M8 P w) X.A (letOwnedTupleGo tg (.ref it) u) (λ_ s2=>∃x H',Inv X aa σ H' s2/\aI x u/\J.V' i H x H'/\tn (i+1) s2.heap/\∀b∈fp,H' b=none) E s1) E s
 done:∀(X:Cx),X.prog=P->X.w=w->X.K=K->X.calm=true->∀(i:Nat) (aa:List (A'×G')) (s:J') (σ:St) (H:Hp) (E:D'->J'->Prop),Inv X aa σ H s->(∀b∈fp,i8 X aa H b)->tn i s.heap->J.stop i H->
  M3 (M8 P w) X.A (pyNext (.ref it)) (λr s1=>r=none/\Inv X aa σ H s1) E s
 self:∀(A:Nv) (i:Nat) (s:J') (Q:D'->J'->Prop) (E:D'->J'->Prop),tn i s.heap->Q (.ref it) s->M3 (M8 P w) A (pyIter (.ref it)) Q E s
abbrev TI:=St->Hp->(It->Hp->Prop)->Prop
def PIE (X:Cx)(aa:List (A'×G'))(σ:St)(tg:Nn)(R:It->Hp->Prop)(Z0:D')(s2:J'):Prop:=
 ∃(it:A') (fp:List A') (tn:Nat->M4->Prop) (J:It) (H':Hp),Z0=.ref it/\Inv X aa σ H' s2/\Turn X.prog X.w X.K tg J fp it tn/\tn 0 s2.heap/\(∀b∈fp,i8 X aa H' b)/\R J H'
def PI (X:Cx)(tg iter:Nn)(wi:TI):Prop:=
 ∀(aa:List (A'×G')) (s:J') (σ:St) (H:Hp) (R:It->Hp->Prop),Inv X aa σ H s->wi σ H R->
  M3 (M8 X.prog X.w) X.A (eval iter X.env) (λv s1=>M3 (M8 X.prog X.w) X.A (pyIter v) (PIE X aa σ tg R) X.xe s1) X.xe s
theorem sy (ho:s.heap.get? it=some o)(hc:o.cls=.type n)(hd:o.data=.fields vs)(hn:["enumerate","zip","dict_itemiterator","dict_reverseitemiterator","odict_iterator","itertools.zip_longest","itertools.pairwise"].contains n=false)(hQ:Q () s):M3 M A (letOwnedTupleGo tg (.ref it) u) Q E s:=by
 unfold letOwnedTupleGo;cases tg <;> first
  | exact M1 hQ
  | (cases u <;> first
    | exact M1 hQ
    | (refine MW (wpAny_load ho ?_);rw[hc,hd];show M3 M A (if (["enumerate","zip","dict_itemiterator","dict_reverseitemiterator","odict_iterator","itertools.zip_longest","itertools.pairwise"].contains n&&vs[0]?==some (rawInt _))=true then _ else _) Q E s;rw[M0 (by intro h;rw[hn,Zg] at h;cases h)];exact M1 hQ))
def Vb (K:MZ)(a:A'):It:=
 ⟨λi H=>∃xs x,Nj K H a xs/\xs[i]?=some x,λi H x H'=>H'=H/\∀xs,Nj K H a xs->xs[i]?=some x,λi H=>∃xs,Nj K H a xs/\xs.length<=i⟩
def Wa (K:MZ)(a:A'):It:=
 ⟨λi H=>∃xs x,Ni K H a xs/\xs[i]?=some x,λi H x H'=>H'=H/\∀xs,Ni K H a xs->xs[i]?=some x,λi H=>∃xs,Ni K H a xs/\xs.length<=i⟩
def Uj (lo:Int)(n:Nat):It:=⟨λi _=>i<n,λi H x H'=>H'=H/\x=.int (lo+i),λi _=>n<=i⟩
theorem za {K:MZ}(a it:A'):Turn P w K tg (Vb K a) [it] it (λi h=>h.IsListIter it a i) where
 mem:=by simp
 obj:=λi h st b hb=>by
  have e:b=it:=by simpa using hb
  subst e;obtain⟨o,e,c,d⟩:=st;exact⟨o,e,λv z=>by rw[d] at z;cases z⟩
 keep:=λi h h' st k=>st.at λo e=>k it (by simp) o e
 item:=by
  intro X hP hw hK hc i aa s σ H E I hf st hg;subst hP hw hK;obtain⟨xs,x,hq,hx⟩:=hg;obtain⟨MY,rv,p,hz⟩:=I.list hq;obtain⟨u,hu,ru⟩:=rv.get hx;obtain⟨f0,f1,f2,f3,f4,f5⟩:=hf it (by simp);refine wpAny_pyNext_list_item st p.isList (x:=u) (by simpa using hu) λh' Nm sb=>?_;have I1:Inv X aa σ H { s with heap:=h' }:=I.turned (t':=s.toks) (λb o hb e=>(sb.2 b hb).trans e) f0 f1 f3 f4 f5;obtain⟨o,e,c,d⟩:=id Nm;exact⟨u,rfl,sy (s:={ s with heap:=h' }) e c d (by decide) ⟨x,H,I1,ru,⟨rfl,λys hy=>by rw[I.aa9 hy hq];exact hx⟩,Nm,λb hb=>(hf b hb).1⟩⟩
 done:=by
  intro X hP hw hK hc i aa s σ H E I hf st hg;subst hP hw hK;obtain⟨xs,hq,hx⟩:=hg;obtain⟨MY,rv,p,hz⟩:=I.list hq;obtain⟨f0,f1,f2,f3,f4,f5⟩:=hf it (by simp);have hl:=rv.length;exact wpAny_pyNext_list_end (I.ok.hd hc) st p.isList (by simp;lia) λh' eb=>⟨rfl,I.turned (t':=s.toks) (λb o hb e=>eb b o hb e) f0 f1 f3 f4 f5⟩
 self:=λ_ _ _ _ _ st h=>wpAny_pyIter_listiter st h
theorem xJ {K:MZ}(a it:A'):Turn P w K tg (Wa K a) [it] it (λi h=>h.IsTupleIter it a i) where
 mem:=by simp
 obj:=λi h st b hb=>by
  have e:b=it:=by simpa using hb
  subst e;obtain⟨o,e,c,d⟩:=st;exact⟨o,e,λv z=>by rw[d] at z;cases z⟩
 keep:=λi h h' st k=>st.at λo e=>k it (by simp) o e
 item:=by
  intro X hP hw hK hc i aa s σ H E I hf st hg;subst hP hw hK;obtain⟨xs,x,hq,hx⟩:=hg;obtain⟨MY,rv,p,hz⟩:=I.tuple hq;obtain⟨u,hu,ru⟩:=rv.get hx;obtain⟨f0,f1,f2,f3,f4,f5⟩:=hf it (by simp);refine wpAny_pyNext_tuple_item st (show s.heap.IsTuple a MY.toArray from p) (x:=u) (by simpa using hu) λh' Nm sb=>?_;have I1:Inv X aa σ H { s with heap:=h' }:=I.turned (t':=s.toks) (λb o hb e=>(sb.2 b hb).trans e) f0 f1 f3 f4 f5;obtain⟨o,e,c,d⟩:=id Nm;exact⟨u,rfl,sy (s:={ s with heap:=h' }) e c d (by decide) ⟨x,H,I1,ru,⟨rfl,λys hy=>by rw[I.Xy hy hq];exact hx⟩,Nm,λb hb=>(hf b hb).1⟩⟩
 done:=by
  intro X hP hw hK hc i aa s σ H E I hf st hg;subst hP hw hK;obtain⟨xs,hq,hx⟩:=hg;obtain⟨MY,rv,p,hz⟩:=I.tuple hq;obtain⟨f0,f1,f2,f3,f4,f5⟩:=hf it (by simp);have hl:=rv.length;exact wpAny_pyNext_tuple_end (I.ok.hd hc) st (show s.heap.IsTuple a MY.toArray from p) (by simp;lia) λh' eb=>⟨rfl,I.turned (t':=s.toks) (λb o hb e=>eb b o hb e) f0 f1 f3 f4 f5⟩
 self:=λ_ _ _ _ _ st h=>wpAny_pyIter_tupleiter st h
theorem xK {K:MZ}(it:A')(lo:Int)(n:Nat):Turn P w K tg (Uj lo n) [it] it (λi h=>IsRangeIter h it (lo+(i:Nat)*1) ((n:Int)-(i:Nat)) 1) where
 mem:=by simp
 obj:=λi h st b hb=>by
  have e:b=it:=by simpa using hb
  subst e;exact⟨_,st,λv z=>by
   have z':Data.fields _=Data.cell v:=z;cases z'⟩
 keep:=λi h h' st k=>k it (by simp) _ st
 item:=by
  intro X hP hw hK hc i aa s σ H E I hf st hg;subst hP hw hK;obtain⟨f0,f1,f2,f3,f4,f5⟩:=hf it (by simp);have W:=Walks.range (prog:=X.prog) (w:=X.w) (I.ok.hd hc) it lo 1 n;refine W.item i s _ _ hg st λv h' tk hv Nm kk=>?_;obtain⟨t,rfl⟩:=hv;have I1:Inv X aa σ H { s with heap:=h',toks:=tk }:=I.turned (λb o hb e=>kk b o (by simpa using hb) e) f0 f1 f3 f4 f5;refine⟨_,rfl,sy (s:={ s with heap:=h',toks:=tk }) (n:="range_iterator") Nm rfl rfl (by decide) ⟨.int (lo+i),H,I1,⟨t,?_⟩,⟨rfl,rfl⟩,Nm,λb hb=>(hf b hb).1⟩⟩;rw[Int.mul_one]
 done:=by
  intro X hP hw hK hc i aa s σ H E I hf st hg;subst hP hw hK;obtain⟨f0,f1,f2,f3,f4,f5⟩:=hf it (by simp);exact wpAny_pyNext_range_end (I.ok.hd hc) st (by have:n<=i:=hg;lia) λh' eb=>⟨rfl,I.turned (t':=s.toks) (λb o hb e=>eb b o hb e) f0 f1 f3 f4 f5⟩
 self:=λ_ _ _ _ _ st h=>wpAny_pyIter_rangeiter st h
section
def IU (K:MZ)(tl:TE):TI:=λσ H R=>tl σ H λx H1=>∃a,x=.ref a/\(∃xs,Nj K H1 a xs)/\R (Vb K a) H1
def JW (K:MZ)(tl:TE):TI:=λσ H R=>tl σ H λx H1=>∃a,x=.ref a/\(∃xs,Ni K H1 a xs)/\R (Wa K a) H1
theorem cX (hl:PE X l tl):PI X tg l (IU X.K tl):=by
 intro aa s σ H R I h;refine Nk (hl aa s σ H _ I h) λv s1 ⟨x,H1,I1,r1,q1⟩=>?_;obtain⟨a,e,⟨xs,hq⟩,q⟩:=q1;subst e;cases r1;obtain⟨MY,rv,p,hz⟩:=I1.list hq;refine aaw p.isList ?_;refine⟨s1.heap.objs.size,[s1.heap.objs.size],_,_,H1,rfl,I1.kept (t':=s1.toks) λb o e=>NK _ e,za a _,⟨_,OH _ rfl,rfl,rfl⟩,λb hb=>?_,q⟩;have e:b=s1.heap.objs.size:=by simpa using hb
 subst e;exact I1.XJ (Nl _) (I1.Nf.fresh (Nl _))
theorem im (hl:PE X l tl):PI X tg l (JW X.K tl):=by
 intro aa s σ H R I h;refine Nk (hl aa s σ H _ I h) λv s1 ⟨x,H1,I1,r1,q1⟩=>?_;obtain⟨a,e,⟨xs,hq⟩,q⟩:=q1;subst e;cases r1;obtain⟨MY,rv,p,hz⟩:=I1.tuple hq;refine wpAny_pyIter_tuple (show s1.heap.IsTuple a MY.toArray from p) ?_;refine⟨s1.heap.objs.size,[s1.heap.objs.size],_,_,H1,rfl,I1.kept (t':=s1.toks) λb o e=>NK _ e,xJ a _,⟨_,OH _ rfl,rfl,rfl⟩,λb hb=>?_,q⟩;have e:b=s1.heap.objs.size:=by simpa using hb
 subst e;exact I1.XJ (Nl _) (I1.Nf.fresh (Nl _))
variable {X:Cx}{tg:Nn} in
theorem sY {aa:List (A'×G')}{σ:St}{H:Hp}{s:J'}{R:It->Hp->Prop}{E:D'->J'->Prop}{lo hi:Int}{t u v:Tok}{tk:Nat}(I:Inv X aa σ H s)(h1:-(2 ^ 62)<=lo)(h2:lo<2 ^ 62)(h3:-(2 ^ 62)<=hi)(h4:hi<2 ^ 62)(q:R (Uj lo (hi-lo).toNat) H):M3 (M8 X.prog X.w) X.A (pyIter (.ref s.heap.objs.size)) (PIE X aa σ tg R) E { s with heap:=s.heap.push { cls:=.type "range",data:=.fields #[.int lo t,.int hi u,.int 1 v] },toks:=tk }:=by
 refine wpAny_pyIter_range (IsRange.new ..) (small_one h1 h2 h3 h4) ?_;have I1:Inv X aa σ H { s with heap:=s.heap.push { cls:=.type "range",data:=.fields #[.int lo t,.int hi u,.int 1 v] },toks:=tk }:=I.kept λb o e=>NK _ e;refine⟨(s.heap.push { cls:=.type "range",data:=.fields #[.int lo t,.int hi u,.int 1 v] }).objs.size,[(s.heap.push { cls:=.type "range",data:=.fields #[.int lo t,.int hi u,.int 1 v] }).objs.size],_,_,H,rfl,
  I1.kept (t':=tk) λb o e=>NK _ e,xK _ lo (hi-lo).toNat,?_,λb hb=>?_,q⟩
 .have e1:lo+((0:Nat):Int)*1=lo:=by simp
  have e2:(((hi-lo).toNat:Nat):Int)-((0:Nat):Int)=P4.Range.rangeSize lo hi 1:=by rw[rangeSize_one];split <;> lia
  show IsRangeIter _ _ (lo+((0:Nat):Int)*1) ((((hi-lo).toNat:Nat):Int)-((0:Nat):Int)) 1;rw[e1,e2];exact OH _ rfl
 .have e:b=(s.heap.push { cls:=.type "range",data:=.fields #[.int lo t,.int hi u,.int 1 v] }).objs.size:=by simpa using hb
  subst e;exact I1.XJ (Nl _) (I1.Nf.fresh (Nl _))
def IV (ta:TA):TI:=λσ H R=>ta σ H λvs H1=>∃j:Int,vs=[.int j]/\-(2 ^ 62)<=j/\j<2 ^ 62/\R (Uj 0 j.toNat) H1
def IW (ta:TA):TI:=λσ H R=>ta σ H λvs H1=>∃i j:Int,vs=[.int i,.int j]/\(-(2 ^ 62)<=i/\i<2 ^ 62/\-(2 ^ 62)<=j/\j<2 ^ 62)/\R (Uj i (j-i).toNat) H1
theorem eM (hg:Gl X "range")(hm:X.mg "range"=none)(ha:PA X [a] ta)(hs:Ob [a] X.env=[(false,eval a X.env)]:=by rfl):PI X tg (.Call (.Name "range" p) [a] [] pos) (IV ta):=by
 intro aa s σ H R I h;refine Call_ (kE I hg hm boot_range (abR (Nk (ha pos aa s σ H _ I h) λus s1 ⟨vs,H1,I1,r1,q1⟩=>?_) hs rfl));obtain⟨j,e,q1,q2,q⟩:=q1;subst e;cases r1 with
 | cons r rr=>
  cases rr;obtain⟨t,rfl⟩:=r;exact call_range_1 (sY I1 (by lia) (by lia) q1 q2 (by simpa using q))
theorem zb (hg:Gl X "range")(hm:X.mg "range"=none)(ha:PA X [a,b] ta)(hs:Ob [a,b] X.env=[(false,eval a X.env),(false,eval b X.env)]:=by rfl)(X5:Ob [b] X.env=[(false,eval b X.env)]:=by rfl):
  PI X tg (.Call (.Name "range" p) [a,b] [] pos) (IW ta):=by
 intro aa s σ H R I h;refine Call_ (kE I hg hm boot_range (abR (Nk (ha pos aa s σ H _ I h) λus s1 ⟨vs,H1,I1,r1,q1⟩=>?_) (by rw[hs,X5]) (by rw[X5];rfl)));obtain⟨i,j,e,⟨q1,q2,q3,q4⟩,q⟩:=q1;subst e;cases r1 with
 | cons r rr=>
  cases rr with
  | cons r' rr=>
   cases rr;obtain⟨t,rfl⟩:=r;obtain⟨t',rfl⟩:=r';exact call_range_2 (sY I1 q1 q2 q3 q4 q)
def JX (wi:TI)(g:TG)(tb:TS):TS:=λD σ H=>wi σ H λJ H1=>∃W:Nat->Nat->St->Hp->Prop,(∃m,W 0 m σ H1)/\∀i m σ H,W i m σ H->
 (J.stop i H/\D.nx σ H)\/(J.go i H/\∃N:St->Hp->Prop,(∀NV H',N NV H'->∃m',m' < m/\W (i+1) m' NV H')/\∀x H',J.V' i H x H'->g x σ H' λRD H2=>tb { D with nx:=N,ct:=N,bk:=D.nx } RD H2)
def jk (fp:List A')(h:M4):List (A'×G'):=fp.filterMap λb=>(h.get? b).map λo=>(b,o)
theorem eV (hb:b∈fp)(e:h.get? b=some o):(b,o)∈jk fp h:=Rv.mpr ⟨b,hb,by rw[e];rfl⟩
theorem zc (hp:p∈jk fp h):p.1∈fp/\h.get? p.1=some p.2:=by
 obtain⟨b,hb,e⟩:=Rv.mp hp;cases q:h.get? b with
 | none=>rw[q] at e;cases e
 | some o=>
  rw[q] at e;have e':(b,o)=p:=Rw e;subst e';exact⟨hb,q⟩
theorem Inv.pinned {σ:St}(I:Inv X aa σ H s)(hf:∀b∈fp,i8 X aa H b)(ho:∀b∈fp,∃o,s.heap.get? b=some o/\∀v,o.data≠.cell v):Inv X (aa++jk fp s.heap) σ H s:=
 I.V5 λp hp=>(Ov.mp hp).elim (λz=>I.pin p (PM _ z)) λz=>by
  obtain⟨hb,e⟩:=zc z;obtain⟨f0,f1,f2,_⟩:=hf p.1 hb;obtain⟨o,e',d⟩:=ho p.1 hb;rw[e] at e';cases e';exact⟨e,f0,f1,f2,d⟩
theorem Inv.UV {σ:St}(I:Inv X (aa++pl) σ H s):Inv X aa σ H s:=I.V5 λp hp=>I.pin p (PM _ (R3 _ hp))
theorem dQ (hp:PassesOwn (M8 X.prog X.w) X.A X.env X.xe)(hc:X.calm=true)(hi:PI X tg iter wi)(hg:PG X tg g)(hb:Rk X body tb)(hs:∀x,foldedSetIterable iter X.env x=pure x:=by intro _;rfl):PS X (.For tg iter body [] pos) (JX wi g tb):=by
 intro aa s σ H D I h;refine wpAny_For (Nk (hi aa s σ H _ I h) λv s1 h1=>Nk h1 λZ0 s2 h2=>?_) hs;obtain⟨it,fp,tn,J,H2,e,I2,T,Pc,f2,W,⟨m0,w0⟩,turn⟩:=h2;subst e;have Sh:∀{H':Hp},(∀b∈fp,H' b=none)->∀b∈fp,i8 X aa H' b:=λhn b hb=>⟨hn b hb,(f2 b hb).2⟩
 refine codeAny_forLoop_any (λn s'=>∃i NV H',Inv X aa NV H' s'/\tn i s'.heap/\(∀b∈fp,H' b=none)/\W i n NV H') ?_ m0 ⟨0,σ,H2,I2,Pc,λb hb=>(f2 b hb).1,w0⟩;rintro n s3 ⟨i,X6,H3,I3,Qh,Uk,w3⟩;rcases turn i n X6 H3 w3 with⟨stop,qn⟩|⟨go,N,hN,step⟩
 .refine Zc hp (Nk (T.done X rfl rfl rfl hc i aa s3 X6 H3 X.xe I3 (Sh Uk) Qh stop) λr s4 ⟨hr,I4⟩=>?_);subst hr;exact acE ⟨X6,H3,I4,qn⟩
 .refine Zc hp (Nk (T.item X rfl rfl rfl hc i aa s3 X6 H3 X.xe I3 (Sh Uk) Qh go) λr s4 ⟨u,hr,h4⟩=>?_);subst hr;refine Zc hp (Nk h4 λ_ s5 ⟨x,H5,I5,r5,y5,st5,fr5⟩=>?_);have I5':=I5.pinned (Sh fr5) (T.obj _ _ st5);refine Zc hp (Nk (hg _ s5 X6 H5 x u _ I5' r5 (step x H5 y5)) λ_ s6 ⟨σ6,H6,I6,q6⟩=>?_);refine Zc hp (Nk (hb _ s6 σ6 H6 _ I6 q6) λf s7 q7=>?_);have again:∀{Sj:St}{H7:Hp},Inv X (aa++jk fp s5.heap) Sj H7 s7->N Sj H7->∃m,m<n/\∃i NV H',Inv X aa NV H' s7/\tn i s7.heap/\(∀b∈fp,H' b=none)/\W i m NV H':=λ{Sj H7} I7 n7=>by
   obtain⟨m',hm,w7⟩:=hN Sj H7 n7;refine⟨m',hm,i+1,Sj,H7,I7.UV,T.keep _ _ _ st5 λb hb o e=>(I7.pin (b,o) (PM _ (PM _ (eV hb e)))).1,λb hb=>?_,w7⟩;obtain⟨o,e,d⟩:=T.obj _ _ st5 b hb;exact(I7.pin (b,o) (PM _ (PM _ (eV hb e)))).2.1
  cases f with
  | next=>obtain⟨Sj,H7,I7,n7⟩:=q7;exact again I7 n7
  | cont=>obtain⟨Sj,H7,I7,n7⟩:=q7;exact again I7 n7
  | brk=>obtain⟨Sj,H7,I7,q7⟩:=q7;exact⟨Sj,H7,I7.UV,q7⟩
  | ret v=>obtain⟨x7,Sj,H7,I7,r7,q7⟩:=q7;exact⟨x7,Sj,H7,I7.UV,r7,q7⟩
end
theorem fu {K:MZ}{a:A'}{xs:List V}{g:TG}{tb:TS}{D:Ends}{σ:St}{H:Hp}(Pv:Nat->St->Hp->Prop)(h0:Pv 0 σ H)(hl:∀i σ H,i<=xs.length->Pv i σ H->Nj K H a xs)(hs:∀i x σ H,xs[i]?=some x->Pv i σ H->g x σ H λRD H2=>tb { D with nx:=Pv (i+1),ct:=Pv (i+1),bk:=D.nx } RD H2)(hd:∀σ H,Pv xs.length σ H->D.nx σ H):
  ∃W:Nat->Nat->St->Hp->Prop,(∃m,W 0 m σ H)/\∀i m σ H,W i m σ H->
   ((Vb K a).stop i H/\D.nx σ H)\/((Vb K a).go i H/\∃N:St->Hp->Prop,(∀NV H',N NV H'->∃m',m' < m/\W (i+1) m' NV H')/\∀x H',(Vb K a).V' i H x H'->g x σ H' λRD H2=>tb { D with nx:=N,ct:=N,bk:=D.nx } RD H2):=by
 refine⟨λi m σ H=>m=xs.length-i/\i<=xs.length/\Pv i σ H,⟨xs.length,by simp,Ow _,h0⟩,?_⟩;rintro i m σ H ⟨rfl,hi,p⟩;have q:=hl i σ H hi p
 by_cases N9:i<xs.length
 .refine .inr ⟨⟨xs,xs[i],q,by simp[N9]⟩,Pv (i+1),λNV H' p'=>⟨xs.length-(i+1),by lia,rfl,N9,p'⟩,λx H' y=>?_⟩;obtain⟨e,y⟩:=y;subst e;exact hs i x σ _ (y xs q) p
 .have e:i=xs.length:=by lia
  subst e;exact .inl ⟨⟨xs,q,Nl _⟩,hd σ H p⟩
theorem lE {K:MZ}{a:A'}{xs:List V}{g:TG}{tb:TS}{D:Ends}{σ:St}{H:Hp}(Pv:Nat->St->Hp->Prop)(h0:Pv 0 σ H)(hl:∀i σ H,i<=xs.length->Pv i σ H->Ni K H a xs)(hs:∀i x σ H,xs[i]?=some x->Pv i σ H->g x σ H λRD H2=>tb { D with nx:=Pv (i+1),ct:=Pv (i+1),bk:=D.nx } RD H2)(hd:∀σ H,Pv xs.length σ H->D.nx σ H):
  ∃W:Nat->Nat->St->Hp->Prop,(∃m,W 0 m σ H)/\∀i m σ H,W i m σ H->
   ((Wa K a).stop i H/\D.nx σ H)\/((Wa K a).go i H/\∃N:St->Hp->Prop,(∀NV H',N NV H'->∃m',m' < m/\W (i+1) m' NV H')/\∀x H',(Wa K a).V' i H x H'->g x σ H' λRD H2=>tb { D with nx:=N,ct:=N,bk:=D.nx } RD H2):=by
 refine⟨λi m σ H=>m=xs.length-i/\i<=xs.length/\Pv i σ H,⟨xs.length,by simp,Ow _,h0⟩,?_⟩;rintro i m σ H ⟨rfl,hi,p⟩;have q:=hl i σ H hi p
 by_cases N9:i<xs.length
 .refine .inr ⟨⟨xs,xs[i],q,by simp[N9]⟩,Pv (i+1),λNV H' p'=>⟨xs.length-(i+1),by lia,rfl,N9,p'⟩,λx H' y=>?_⟩;obtain⟨e,y⟩:=y;subst e;exact hs i x σ _ (y xs q) p
 .have e:i=xs.length:=by lia
  subst e;exact .inl ⟨⟨xs,q,Nl _⟩,hd σ H p⟩
theorem qx {lo:Int}{n:Nat}{g:TG}{tb:TS}{D:Ends}{σ:St}{H:Hp}(Pv:Nat->St->Hp->Prop)(h0:Pv 0 σ H)(hs:∀i σ H,i<n->Pv i σ H->g (.int (lo+i)) σ H λRD H2=>tb { D with nx:=Pv (i+1),ct:=Pv (i+1),bk:=D.nx } RD H2)(hd:∀σ H,Pv n σ H->D.nx σ H):
  ∃W:Nat->Nat->St->Hp->Prop,(∃m,W 0 m σ H)/\∀i m σ H,W i m σ H->
   ((Uj lo n).stop i H/\D.nx σ H)\/((Uj lo n).go i H/\∃N:St->Hp->Prop,(∀NV H',N NV H'->∃m',m' < m/\W (i+1) m' NV H')/\∀x H',(Uj lo n).V' i H x H'->g x σ H' λRD H2=>tb { D with nx:=N,ct:=N,bk:=D.nx } RD H2):=by
 refine⟨λi m σ H=>m=n-i/\i<=n/\Pv i σ H,⟨n,by simp,Ow _,h0⟩,?_⟩;rintro i m σ H ⟨rfl,hi,p⟩
 by_cases N9:i<n
 .refine .inr ⟨N9,Pv (i+1),λNV H' p'=>⟨n-(i+1),by lia,rfl,N9,p'⟩,λx H' y=>?_⟩;obtain⟨e,y⟩:=y;subst e y;exact hs i σ _ N9 p
 .have e:i=n:=by lia
  subst e;exact .inl ⟨Nl _,hd σ H p⟩
abbrev R2:=V->V->Hp->VK->Prop
def N4 (X:Cx)(f:D'->D'->PY D')(r:R2):Prop:=
 ∀(aa:List (A'×G')) (s:J') (σ:St) (H:Hp) (x y:V) (v u:D') (Q:VK),Inv X aa σ H s->aI x v->aI y u->r x y H Q->
  M3 (M8 X.prog X.w) X.A (f v u) (EP X aa σ Q) X.xe s
def UnR (X:Cx)(f:D'->PY D')(r:V->Hp->VK->Prop):Prop:=
 ∀(aa:List (A'×G')) (s:J') (σ:St) (H:Hp) (x:V) (v:D') (Q:VK),Inv X aa σ H s->aI x v->r x H Q->
  M3 (M8 X.prog X.w) X.A (f v) (EP X aa σ Q) X.xe s
def cK (X:Cx)(f:D')(r:List V->Hp->VK->Prop):Prop:=
 ∀(aa:List (A'×G')) (s:J') (σ:St) (H:Hp) (xs:List V) (us:List D') (Q:VK),Inv X aa σ H s->aL xs us->r xs H Q->
  M3 (M8 X.prog X.w) X.A (call f us) (EP X aa σ Q) X.xe s
def JZ (X:Cx)(r:V->Hp->(Bool->Hp->Prop)->Prop):Prop:=
 ∀(aa:List (A'×G')) (s:J') (σ:St) (H:Hp) (x:V) (v:D') (Q:Bool->Hp->Prop),Inv X aa σ H s->aI x v->r x H Q->
  M3 (M8 X.prog X.w) X.A (truthy v) (TP X aa σ Q) X.xe s
def Tu (r:R2)(ta tb:TE):TE:=λσ H Q=>ta σ H λx H1=>tb σ H1 λy H2=>r x y H2 Q
def tUn (r:V->Hp->VK->Prop)(ta:TE):TE:=λσ H Q=>ta σ H λx H1=>r x H1 Q
def rI (C:Int->Int->Prop)(g:Int->Int->V):R2:=λx y H Q=>∃i j,x=.int i/\y=.int j/\C i j/\Q (g i j) H
def RE (g:Int->Int->V):R2:=λx y H Q=>∃i j,x=.int i/\y=.int j/\Q (g i j) H
def rU (g:Int->V):V->Hp->VK->Prop:=λx H Q=>∃i,x=.int i/\Q (g i) H
section
variable {X:Cx}{a:Nn}{b:Nn}{ta:TE}{tb:TE} in
theorem Bn (ha:PE X a ta)(hb:PE X b tb){aa:List (A'×G')}{s:J'}{σ:St}{H:Hp}{R:V->V->Hp->Prop}(I:Inv X aa σ H s)(h:ta σ H λx H1=>tb σ H1 λy H2=>R x y H2){Q:D'->J'->Prop}{f:D'->D'->PY D'}(hf:∀v u s2 x y H2,Inv X aa σ H2 s2->aI x v->aI y u->R x y H2->M3 (M8 X.prog X.w) X.A (f v u) Q X.xe s2):
  M3 (M8 X.prog X.w) X.A (eval a X.env) (λv Nw=>M3 (M8 X.prog X.w) X.A (eval b X.env) (λu NY=>M3 (M8 X.prog X.w) X.A (f v u) Q X.xe NY) X.xe Nw) X.xe s:=by
 refine Nk (ha aa s σ H _ I h) λv s1 ⟨x,H1,I1,r1,q1⟩=>?_;refine Nk (hb aa s1 σ H1 _ I1 q1) λu s2 ⟨y,H2,I2,r2,q2⟩=>?_;exact hf v u s2 x y H2 I2 r1 r2 q2
theorem aO (ho:N4 X (binaryOp op) r)(ha:PE X a ta)(hb:PE X b tb):PE X (.BinOp a op b pos) (Tu r ta tb):=by
 intro aa s σ H Q I h;exact wpAny_BinOp (Bn ha hb I h λv u s2 x y H2 I2 rx ry q=>ho aa s2 σ H2 x y v u Q I2 rx ry q)
theorem Dg (ho:UnR X (unaryOp op) r)(ha:PE X a ta):PE X (.UnaryOp op a pos) (tUn r ta):=by
 intro aa s σ H Q I h;exact UnaryOp_ (Nk (ha aa s σ H _ I h) λv s1 ⟨x,H1,I1,r1,q1⟩=>ho aa s1 σ H1 x v Q I1 r1 q1)
theorem X7 {g:Int->Int->Int}(rule:∀(i j:Int) (t u:Tok) (s:J') (Q:D'->J'->Prop) (E:D'->J'->Prop),C i j->Q (.int (g i j) s.toks) { s with toks:=s.toks+1 }->M3 (M8 X.prog X.w) X.A (f (.int i t) (.int j u)) Q E s):
  N4 X f (rI C λi j=>.int (g i j)):=by
 intro aa s σ H x y v u Q I rx ry h;obtain⟨i,j,rfl,rfl,hc,q⟩:=h;obtain⟨t,rfl⟩:=rx;obtain⟨t',rfl⟩:=ry;exact rule i j t t' s _ _ hc ⟨.int (g i j),H,I.tok _,⟨_,rfl⟩,q⟩
theorem xL {g:Int->Int->Int}(rule:∀(i j:Int) (t u:Tok) (s:J') (Q:D'->J'->Prop) (E:D'->J'->Prop),Q (.int (g i j) s.toks) { s with toks:=s.toks+1 }->M3 (M8 X.prog X.w) X.A (f (.int i t) (.int j u)) Q E s):
  N4 X f (RE λi j=>.int (g i j)):=by
 intro aa s σ H x y v u Q I rx ry h;obtain⟨i,j,rfl,rfl,q⟩:=h;obtain⟨t,rfl⟩:=rx;obtain⟨t',rfl⟩:=ry;exact rule i j t t' s _ _ ⟨.int (g i j),H,I.tok _,⟨_,rfl⟩,q⟩
theorem Bo {g:Int->Int->Bool}(rule:∀(i j:Int) (t u:Tok) (s:J') (Q:D'->J'->Prop) (E:D'->J'->Prop),Q (.bool (g i j)) s->M3 (M8 X.prog X.w) X.A (f (.int i t) (.int j u)) Q E s):
  N4 X f (RE λi j=>.bl (g i j)):=by
 intro aa s σ H x y v u Q I rx ry h;obtain⟨i,j,rfl,rfl,q⟩:=h;obtain⟨t,rfl⟩:=rx;obtain⟨t',rfl⟩:=ry;exact rule i j t t' s _ _ ⟨.bl (g i j),H,I,rfl,q⟩
def J0 (i j:Int):Prop:=0<j/\j<1073741824
def J1 (i j:Int):Prop:=0<=j/\j<=1000000/\i.natAbs<2 ^ 64
def Bp (i j:Int):Prop:=(-(2 ^ 64)<i/\i<2 ^ 64)\/(-(2 ^ 64)<j/\j<2 ^ 64)
theorem Bp.ok (h:Bp i j):IntMulOk i j:=by
 rcases h with⟨h1,h2⟩|⟨h1,h2⟩
 .exact .of_left (intBits_le_64 h1 h2)
 .exact .of_right (intBits_le_64 h1 h2)
theorem xM (k:Nat):(0:Int)<=2 ^ k:=by
 rw[two_pow_cast];exact Int.natCast_nonneg _
theorem bR:N4 X (binaryOp .Add) (RE λi j=>.int (i+j)):=xL λ_ _ _ _ _ _ _ q=>add_int q
theorem jm:N4 X (binaryOp .Sub) (RE λi j=>.int (i-j)):=xL λ_ _ _ _ _ _ _ q=>sub_int q
theorem nO:N4 X (binaryOp .Mult) (rI Bp λi j=>.int (i*j)):=X7 λ_ _ _ _ _ _ _ hc q=>mul_int q hc.ok
theorem ge:N4 X (binaryOp .FloorDiv) (rI J0 λi j=>.int (i / j)):=X7 λi j _ _ _ _ _ hc q=>by
 have h1:(0:Int)<j:=hc.1;have h2:j<1073741824:=hc.2;exact floordiv_int (by lia) (by rw[ad5 i (by lia)];exact q) (.inl (PyProof.noPylong_small (by lia)))
theorem cD:N4 X (binaryOp .Mod) (rI (λ_ j=>0<j) λi j=>.int (i % j)):=X7 λi j _ _ _ _ _ hc q=>by
 have h1:(0:Int)<j:=hc;exact mod_int' (by lia) (by rw[Int.fmod_eq_emod_of_nonneg i (by lia)];exact q)
theorem sZ:N4 X (binaryOp .LShift) (rI J1 λi j=>.int (i*2 ^ j.toNat)):=X7 λ_ _ _ _ _ _ _ hc q=>lshift_int_small hc.1 hc.2.1 hc.2.2 q
theorem Fc:N4 X (binaryOp .RShift) (rI (λ_ j=>0<=j) λi j=>.int (i / 2 ^ j.toNat)):=X7 λi j _ _ _ _ _ hc q=>
 rshift_int hc (by rw[ad5 i (xM _)];exact q)
theorem zd:N4 X (binaryOp .BitAnd) (RE λi j=>.int (aaJ i j)):=xL λ_ _ _ _ _ _ _ q=>and_int q
theorem Dh:N4 X (binaryOp .BitOr) (RE λi j=>.int (aaO i j)):=xL λ_ _ _ _ _ _ _ q=>or_int q
theorem unI {g:Int->Int}(rule:∀(i:Int) (t:Tok) (s:J') (Q:D'->J'->Prop) (E:D'->J'->Prop),Q (.int (g i) s.toks) { s with toks:=s.toks+1 }->M3 (M8 X.prog X.w) X.A (f (.int i t)) Q E s):
  UnR X f (rU λi=>.int (g i)):=by
 intro aa s σ H x v Q I rx h;obtain⟨i,rfl,q⟩:=h;obtain⟨t,rfl⟩:=rx;exact rule i t s _ _ ⟨.int (g i),H,I.tok _,⟨_,rfl⟩,q⟩
theorem ze:UnR X (unaryOp .USub) (rU λi=>.int (-i)):=unI λ_ _ _ _ _ q=>neg_int q
end
def Fd:V->V->Bool
 | .Nr,.Nr=>true | .Nr,.int _=>true | .int _,.Nr=>true | .Nr,.bl _=>true | .bl _,.Nr=>true | .Nr,.str _=>true | .str _,.Nr=>true
 | .int _,.int _=>true | .bl _,.bl _=>true | .str _,.str _=>true | .Rj _,.Rj _=>true
 | .int _,.str _=>true | .str _,.int _=>true | .bl _,.str _=>true | .str _,.bl _=>true
 | _,_=>false
def rEq:R2:=λx y H Q=>Fd x y=true/\Q (.bl (decide (x=y))) H
def rNe:R2:=λx y H Q=>Fd x y=true/\Q (.bl (!decide (x=y))) H
theorem cF:decide (V.int i=V.int j)=(i==j):=by
 rw[Sz];simp
theorem kH:decide (V.bl i=V.bl j)=(i==j):=by
 rw[Sz];simp
theorem wg:decide (V.str i=V.str j)=(i==j):=by
 rw[Sz];simp
theorem wj:decide (V.Rj i=V.Rj j)=(i.toList==j.toList):=by
 rw[Sz];cases i;cases j;simp
section
theorem bA {σ:St}(I:Inv X aa σ H s)(q:Q (.bl k) H)(e:k=k'):EP X aa σ Q (.bool k') s:=by
 subst e;exact⟨.bl k,H,I,rfl,q⟩
theorem bf:N4 X (Ps .Eq) rEq:=by
 intro aa s σ H x y v u Q I rx ry h;obtain⟨hs,q⟩:=h;cases x with
 | Nr=>
  cases rx;cases y with
  | Nr=>cases ry;exact PySem.EqNone.eq_none_none (bA I q (by simp))
  | bl j=>cases ry;exact PySem.EqNone.eq_none_bool (bA I q (by simp))
  | int j=>obtain⟨t',rfl⟩:=ry;exact PySem.EqNone.eq_none_int (bA I q (by simp))
  | str j=>obtain⟨t',rfl⟩:=ry;exact PySem.EqNone.eq_none_str (bA I q (by simp))
  | _=>exact Nc (show false=true from hs) OZ
 | bl i=>
  cases rx;cases y with
  | Nr=>cases ry;exact PySem.EqNone.eq_bool_none (bA I q (by simp))
  | bl j=>cases ry;exact eq_bool (bA I q kH)
  | str j=>obtain⟨t',rfl⟩:=ry;exact PySem.EqMixed.eq_bool_str (bA I q (by simp))
  | _=>exact Nc (show false=true from hs) OZ
 | int i=>
  obtain⟨t,rfl⟩:=rx;cases y with
  | Nr=>cases ry;exact PySem.EqNone.eq_int_none (bA I q (by simp))
  | int j=>obtain⟨t',rfl⟩:=ry;exact eq_int (bA I q cF)
  | str j=>obtain⟨t',rfl⟩:=ry;exact PySem.EqMixed.eq_int_str (bA I q (by simp))
  | _=>exact Nc (show false=true from hs) OZ
 | str i=>
  obtain⟨t,rfl⟩:=rx;cases y with
  | Nr=>cases ry;exact PySem.EqNone.eq_str_none (bA I q (by simp))
  | bl j=>cases ry;exact PySem.EqMixed.eq_str_bool (bA I q (by simp))
  | int j=>obtain⟨t',rfl⟩:=ry;exact PySem.EqMixed.eq_str_int (bA I q (by simp))
  | str j=>obtain⟨t',rfl⟩:=ry;exact eq_str (bA I q wg)
  | _=>exact Nc (show false=true from hs) OZ
 | Rj i=>
  obtain⟨t,rfl⟩:=rx;cases y with
  | Rj j=>obtain⟨t',rfl⟩:=ry;exact W.eq_bytes (bA I q wj)
  | _=>exact Nc (show false=true from hs) OZ
 | _=>cases y <;> exact Nc (show false=true from hs) OZ
theorem fS:N4 X (Ps .NotEq) rNe:=by
 intro aa s σ H x y v u Q I rx ry h;obtain⟨hs,q⟩:=h;cases x with
 | Nr=>
  cases rx;cases y with
  | Nr=>cases ry;exact PySem.EqNone.ne_none_none (bA I q (by simp))
  | bl j=>cases ry;exact PySem.EqNone.ne_none_bool (bA I q (by simp))
  | int j=>obtain⟨t',rfl⟩:=ry;exact PySem.EqNone.ne_none_int (bA I q (by simp))
  | str j=>obtain⟨t',rfl⟩:=ry;exact PySem.EqNone.ne_none_str (bA I q (by simp))
  | _=>exact Nc (show false=true from hs) OZ
 | bl i=>
  cases rx;cases y with
  | Nr=>cases ry;exact PySem.EqNone.ne_bool_none (bA I q (by simp))
  | bl j=>cases ry;exact ne_bool (bA I q (congrArg not kH))
  | str j=>obtain⟨t',rfl⟩:=ry;exact PySem.EqMixed.ne_bool_str (bA I q (by simp))
  | _=>exact Nc (show false=true from hs) OZ
 | int i=>
  obtain⟨t,rfl⟩:=rx;cases y with
  | Nr=>cases ry;exact PySem.EqNone.ne_int_none (bA I q (by simp))
  | int j=>obtain⟨t',rfl⟩:=ry;exact ne_int (bA I q (congrArg not cF))
  | str j=>obtain⟨t',rfl⟩:=ry;exact PySem.EqMixed.ne_int_str (bA I q (by simp))
  | _=>exact Nc (show false=true from hs) OZ
 | str i=>
  obtain⟨t,rfl⟩:=rx;cases y with
  | Nr=>cases ry;exact PySem.EqNone.ne_str_none (bA I q (by simp))
  | bl j=>cases ry;exact PySem.EqMixed.ne_str_bool (bA I q (by simp))
  | int j=>obtain⟨t',rfl⟩:=ry;exact PySem.EqMixed.ne_str_int (bA I q (by simp))
  | str j=>obtain⟨t',rfl⟩:=ry;exact ne_str (bA I q (congrArg not wg))
  | _=>exact Nc (show false=true from hs) OZ
 | Rj i=>
  obtain⟨t,rfl⟩:=rx;cases y with
  | Rj j=>obtain⟨t',rfl⟩:=ry;exact W.ne_bytes (bA I q (congrArg not wj))
  | _=>exact Nc (show false=true from hs) OZ
 | _=>cases y <;> exact Nc (show false=true from hs) OZ
theorem iL:N4 X (Ps .Lt) (RE λi j=>.bl (decide (i<j))):=Bo λ_ _ _ _ _ _ _ q=>lt_int q
theorem iM:N4 X (Ps .LtE) (RE λi j=>.bl (decide (i<=j))):=Bo λ_ _ _ _ _ _ _ q=>le_int q
theorem iO:N4 X (Ps .Gt) (RE λi j=>.bl (decide (j<i))):=Bo λ_ _ _ _ _ _ _ q=>gt_int q
theorem aw (b)(h:op≠.In:=by decide)(h2:op≠.NotIn:=by decide):behindInMarks op b=false:=by
 have e1:(op==CmpOp.In)=false:=by cases op <;> first|rfl|exact Nc rfl h
 have e2:(op==CmpOp.NotIn)=false:=by cases op <;> first|rfl|exact Nc rfl h2
 cases b <;> simp[behindInMarks,e1,e2]
theorem cg (ho:N4 X (Ps op) r)(ha:PE X a ta)(hb:PE X b tb)(hm:behindInMarks op b=false):PE X (.Compare a [op] [b] pos) (Tu r ta tb):=by
 intro aa s σ H Q I h;exact wpAny_Compare1 (Bn ha hb I h λv u s2 x y H2 I2 rx ry q=>ho aa s2 σ H2 x y v u Q I2 rx ry q) hm
def jN (t:TE):TT:=λσ H Q=>t σ H λx H'=>∃k,x=.bl k/\Q k H'
theorem ar (ho:N4 X (Ps op) r)(ha:PE X a ta)(hb:PE X b tb)(hm:behindInMarks op b=false):PT X (.Compare a [op] [b] pos) (jN (Tu r ta tb)):=by
 intro aa s σ H Q I h;refine wpAny_isTrue_Compare1 (Nk (ha aa s σ H _ I h) λv s1 ⟨x,H1,I1,r1,q1⟩=>Nk (hb aa s1 σ H1 _ I1 q1) λu s2 ⟨y,H2,I2,r2,q2⟩=>
  Nk (ho aa s2 σ H2 x y v u _ I2 r1 r2 q2) λc s3 ⟨z,H3,I3,r3,k,e,q3⟩=>?_) hm
 subst e;cases r3;exact Rb ⟨H3,I3,q3⟩
def zf (r r':R2)(ta tb tc:TE):TE:=λσ H Q=>ta σ H λx H1=>tb σ H1 λy H2=>r x y H2 λz H3=>∃k,z=.bl k/\
 (if k=true then tc σ H3 λw' H4=>r' y w' H4 Q else Q (.bl false) H3)
theorem Bq (ho:N4 X (Ps op) r)(Pp:N4 X (Ps Vc) r')(ha:PE X a ta)(hb:PE X b tb)(hc:PE X c tc)(hm:lastMarks [op,Vc] [b,c]=false:=by with_unfolding_all rfl):PE X (.Compare a [op,Vc] [b,c] pos) (zf r r' ta tb tc):=by
 intro aa s σ H Q I h;refine Compare_chain (Nk (ha aa s σ H _ I h) λv s1 ⟨x,H1,I1,r1,q1⟩=>chain_link (Nk (hb aa s1 σ H1 _ I1 q1) λu s2 ⟨y,H2,I2,r2,q2⟩=>
  Nk (ho aa s2 σ H2 x y v u _ I2 r1 r2 q2) λd s3 ⟨z,H3,I3,r3,k,e,q3⟩=>?_)) hm
 subst e;cases r3;refine Rb ?_;cases k with
 | false=>exact ite_ff ⟨.bl false,H3,I3,rfl,q3⟩
 | true=>exact ite_tt (chain_last (Nk (hc aa s3 σ H3 _ I3 q3) λw' s4 ⟨z',H4,I4,r4,q4⟩=>Pp aa s4 σ H4 y z' u w' Q I4 r2 r4 q4))
theorem jO (ho:N4 X (Ps op) r)(Pp:N4 X (Ps Vc) r')(ha:PE X a ta)(hb:PE X b tb)(hc:PE X c tc)(hm:lastMarks [op,Vc] [b,c]=false:=by with_unfolding_all rfl):PT X (.Compare a [op,Vc] [b,c] pos) (jN (zf r r' ta tb tc)):=by
 intro aa s σ H Q I h;refine isTrue_chain (Nk (ha aa s σ H _ I h) λv s1 ⟨x,H1,I1,r1,q1⟩=>test_link (Nk (hb aa s1 σ H1 _ I1 q1) λu s2 ⟨y,H2,I2,r2,q2⟩=>
  Nk (ho aa s2 σ H2 x y v u _ I2 r1 r2 q2) λd s3 ⟨z,H3,I3,r3,k,e,q3⟩=>?_)) hm
 subst e;cases r3;refine Rb ?_;cases k with
 | false=>
  obtain⟨k',e',q'⟩:=q3;cases e';exact ite_ff ⟨H3,I3,q'⟩
 | true=>
  refine ite_tt (test_last (Nk (hc aa s3 σ H3 _ I3 q3) λw' s4 ⟨z',H4,I4,r4,q4⟩=>Nk (Pp aa s4 σ H4 y z' u w' _ I4 r2 r4 q4) λd' s5 ⟨z2,H5,I5,r5,k2,e2,q5⟩=>?_));subst e2;cases r5;exact Rb ⟨H5,I5,q5⟩
def Br (K:MZ)(x:V)(H:Hp)(k:Bool):Prop:=
 match x with
 | .Nr=>k=false
 | .bl b=>k=b
 | .int i=>k=(i != 0)
 | .str y=>y.length<=Nh/\k=((y.length:Int) != 0)
 | .Rj y=>y.size<=Nh/\k=((y.size:Int) != 0)
 | .ref p=>(∃xs,Nj K H p xs/\k=!xs.isEmpty)\/(∃xs,Ni K H p xs/\k=!xs.isEmpty)\/∃kvs,H p=some (.dK kvs)/\k=!kvs.isEmpty
 | _=>False
theorem xN {κ:Type}{kvs:List (κ×V)}{vs:List (κ×D')}(r:KV kvs vs):(!vs.isEmpty)=!kvs.isEmpty:=by
 cases r <;> rfl
theorem nQ (r:aL xs MY):(!MY.toArray.isEmpty)=!xs.isEmpty:=by
 cases r <;> simp
theorem nS:(Nh:Nat)<2 ^ 63:=by rw[NU];decide
theorem Fe:JZ X (λx H Q=>∃k,Br X.K x H k/\Q k H):=by
 intro aa s σ H x v Q I rx h;obtain⟨k,e,q⟩:=h;have hl:=nS;have hs:Nh=16777216:=NU;cases x with
 | Nr=>
  cases rx;have e':k=false:=e;subst e';exact truthy_none ⟨H,I,q⟩
 | bl b=>
  cases rx;have e':k=b:=e;subst e';exact Rb ⟨H,I,q⟩
 | int i=>
  obtain⟨t,rfl⟩:=rx;have e':k=(i != 0):=e;subst e';exact PySem.P.truthy_int ⟨H,I,q⟩
 | str y=>
  obtain⟨t,rfl⟩:=rx;obtain⟨hy,e'⟩:y.length<=Nh/\k=((y.length:Int) != 0):=e;subst e';exact PySem.P.truthy_str (by lia) ⟨H,I.tok _,q⟩
 | Rj y=>
  obtain⟨t,rfl⟩:=rx;obtain⟨hy,e'⟩:y.size<=Nh/\k=((y.size:Int) != 0):=e;subst e';exact W.truthy_bytes (by lia) ⟨H,I.tok _,q⟩
 | ref p=>
  cases rx;have e':(∃xs,Nj X.K H p xs/\k=!xs.isEmpty)\/(∃xs,Ni X.K H p xs/\k=!xs.isEmpty)\/∃kvs,H p=some (.dK kvs)/\k=!kvs.isEmpty:=e;rcases e' with⟨xs,hx,e'⟩|⟨xs,hx,e'⟩|⟨kvs,hx,e'⟩
  .subst e';obtain⟨MY,r,pl,hz⟩:=I.list hx;have hlen:=r.length;exact wpAny_truthy_list pl.isList (by simp only[Od];lia) ⟨H,I.tok _,by rw[nQ r];exact q⟩
  .subst e';obtain⟨MY,r,pl,hz⟩:=I.tuple hx;have hlen:=r.length;exact truthy_tuple pl (by simp only[Od];lia) ⟨H,I.tok _,by rw[nQ r];exact q⟩
  .subst e';obtain⟨hz,hS,vs,r,m⟩:kvs.length<=Nh/\(p==Pr)=false/\∃vs,KV kvs vs/\s.heap.DictOf (bg X.prog X.w) p vs:=I.Nf p _ hx;have hlen:kvs.length=vs.length:=VS r;exact wpAny_truthy_dict hS m (by lia) ⟨H,I.tok _,by rw[xN r];exact q⟩
 | _=>exact(show False from e).elim
theorem mV (ha:PE X a ta)(he:∀whole,isTrue a X.env whole=(do let v <-whole;standAt a.pos;holding [v] (truthy v))):
  PT X a (λσ H Q=>ta σ H λx H'=>∃k,Br X.K x H' k/\Q k H'):=by
 intro aa s σ H Q I h;exact isTrue_plain (Nk (ha aa s σ H _ I h) λv s1 ⟨x,H1,I1,r1,q1⟩=>Fe aa s1 σ H1 x v Q I1 r1 q1) (he _)
theorem dm (r:aL [x] us):∃u,us=[u]/\aI x u:=by
 cases r with
 | cons r1 r2=>cases r2;exact⟨_,rfl,r1⟩
theorem IX (r:aL [x,y] us):∃u w',us=[u,w']/\aI x u/\aI y w':=by
 cases r with
 | cons r1 r2=>
  cases r2 with
  | cons r3 r4=>cases r4;exact⟨_,_,rfl,r1,r3⟩
theorem qz (hc:X.calm=true):cK X (.builtin "min") (λxs H Q=>∃i j,xs=[.int i,.int j]/\Q (.int (if j<i then j else i)) H):=by
 intro aa s σ H xs us Q I r h;obtain⟨i,j,rfl,q⟩:=h;obtain⟨u,w',rfl,⟨t,rfl⟩,⟨t',rfl⟩⟩:=IX r;refine min_two_ints (I.ok.hd hc) λh' tk k=>⟨_,H,I.kept k,?_,q⟩
 by_cases hj:j<i
 .rw[M6 hj,M6 hj];exact⟨_,rfl⟩
 .rw[M0 hj,M0 hj];exact⟨_,rfl⟩
theorem zg:cK X (.type "int") (λxs H Q=>(∃i,xs=[.int i]/\Q (.int i) H)\/∃k,xs=[.bl k]/\Q (.int (if k then 1 else 0)) H):=by
 intro aa s σ H xs us Q I r h;rcases h with⟨i,rfl,q⟩|⟨k,rfl,q⟩
 .obtain⟨u,rfl,t,rfl⟩:=dm r;exact call_int_int ⟨.int i,H,I,⟨_,rfl⟩,q⟩
 .obtain⟨u,rfl,r1⟩:=dm r;cases r1;exact call_int_bool ⟨.int (if k then 1 else 0),H,I.tok _,⟨_,rfl⟩,q⟩
end
structure U2 (h:M4)(x dx C:A')(mA:MV->Option D'):Prop where
 obj:h.get? x=some (UT C dx)
 ns:h.Ns1 dx mA
 ne:dx≠x
theorem zh {h:M4}(n:h.Ns1 dx mA):∃od,h.get? dx=some od/\∀name,W.lookIn name od=some (mA name):=by
 obtain⟨o,es,ep,ho,hd,hk,_,hm⟩:=n;refine⟨o,ho,λname=>?_⟩;have e:=hm name;unfold nsFind findBy at e;rw[<-Array.find?_toList] at e;unfold W.lookIn;rw[hd];dsimp only
 split
 .rename_i y q;rw[q] at e;exact congrArg some e
 .rename_i q;rw[q] at e;have a:es.toList.any (·.refKey)=false:=by
   rw[List.any_eq_false];intro y hy;obtain⟨z,t,PH⟩:=hk y (aam.mp hy);simp[O4.refKey,PH]
  have a':¬es.toList.any (·.refKey)=true:=by rw[a];exact OZ
  rw[M0 a'];exact congrArg some e
theorem U2.look (I:U2 h x dx C mA):∃od,W.InstAt h x (UT C dx) C (some od)/\∀name,W.lookIn name od=some (mA name):=
 let ⟨od,ho,hl⟩:=zh I.ns
 ⟨od,⟨I.obj,rfl,rfl,ho⟩,hl⟩
section
variable {K:MZ} in
theorem DR (X:K.In s.heap)(I:U2 s.heap x dx C mA)(hg:Zq K C name=true)(hh:aa0 K C=true)(ha:QG K (.ref C) name=some none)(hv:mA name=some v)(hv':W.handedIn v=true)(h:Q v { s with toks:=s.toks+1 }):
  M3 (M8 prog w) A (getAttr (.ref x) name expr) Q E s:=by
 obtain⟨od,J,hl⟩:=I.look;exact W.get_value X J (acU hg).1 (W.findObj_own hh ha rfl (by rw[hl,hv])) hv' h
variable {K:MZ} in
theorem Bt (X:K.In s.heap)(I:U2 s.heap x dx C mA)(hg:Zq K C name=true)(hf:QG K (.ref C) name=some (some (.ref f)))(ht:W.isFn K (.ref f)=true)(hv:mA name=none)(h:Q (.ref f,[.ref x]) s):
  M3 (M8 prog w) A (getMethod (.ref x) name pl) Q E s:=by
 obtain⟨od,J,hl⟩:=I.look;exact W.method_fn X J (acU hg).1 (acU hg).2 hf (beq_iff_eq.mp ht) (by show(W.lookIn name od).map (·.isSome)=some false;rw[hl,hv];rfl) h
variable {K:MZ} in
theorem DS (X:K.In s.heap)(I:U2 s.heap x dx C mA)(hs:QG K (.ref C) "__setattr__"=some (some (.builtin "object.__setattr__")))(hp:W.plainOver K C=true)(ht:W.takerIn K C name=some none)(hh:aa0 K C=true)(hw:ac0 mA ns)(hsz:ns.length<=Nh)(h:∀h',U2 h' x dx C (λy=>if y=name then some v else mA y)->R6 dx s.heap h'->Q () { s with heap:=h',toks:=s.toks+2 }):
  M3 (M8 prog w) A (setAttr (.ref x) name v) Q E s:=by
 obtain⟨od,J,hl⟩:=I.look;refine W.set_plain X J hs (W.osa_open (s:={ s with toks:=s.toks+1 }) (r:=none) X J hp ht λb=>?_);obtain⟨cd,hc,QZ⟩:=W.any_some hh;have hx:s.heap.get? x=some ⟨.ref C,some dx,.plain,#[]⟩:=I.obj;refine MW (M1 (MW (MW (wpAny_loadPart hx (MW (W.Looks.here (s:={ s with toks:=s.toks+1 }) (W.looks_clsIn X hc) ?_))))));rw[QZ];refine M1 (a:=some dx) (MW (M1 (MW ?_)));refine wpAny_nsSet1 (s:={ s with toks:=s.toks+1 }) I.ns λh' Z1 X5=>?_;obtain⟨oD,esD,epD,hoD,hdD,hcD⟩:=Z1.count (ac0.cons name v hw);refine MW (wpAny_lookBehind hoD (by rw[hdD];exact pastItsLine_dict (Ph hcD (by rw[OB];lia))) ?_);exact M1 (h _ ⟨(X5.2 _ (N1 I.ne)).trans I.obj,Z1,I.ne⟩ X5)
variable {K:MZ} in
theorem Bu (X:K.In s.heap)(hm:W.makesIn K C=true)(hi:QG K (.ref C) "__init__"=some (some (.ref f)))(hf:W.typeIn K (.ref f)=some (.type "function"))(h:codeAny (M8 prog w) (A.under (.builtin "type.__call__" ⟨.ref C::vs,kw⟩)) (.call (.ref f) ⟨.ref (s.heap.objs.size+1)::vs,kw⟩) (W.InitBack (s.heap.objs.size+1) R)
   { s with heap:=(s.heap.push T6).push (UT C s.heap.objs.size) }):
  codeAny (M8 prog w) A (.call (.ref C) ⟨vs,kw⟩) R s:=by
 obtain⟨hh,g,d,t,os⟩:=s;exact W.make_core (W.makes_of X hm) (aaK X hi) (λself=>W.bind_fn X self hf) (.inl rfl) h
end
def e8 (f:MV)(v:V):List (MV×V)->List (MV×V)
 | []=>[(f,v)]
 | (g,x)::r=>if g=f then (g,v)::r else (g,x)::e8 f v r
theorem mJ (f g)(v):∀fs:List (MV×V),(e8 f v fs).lookup g=if g=f then some v else fs.lookup g
 | []=>by
  show US g [(f,v)]=_
  by_cases h:g=f
  .have hb:(g==f)=true:=beq_iff_eq.mpr h;simp only[US,hb,M6 h]
  .have hb:(g==f)=false:=beq_eq_false_iff_ne.mpr h;simp only[US,hb,M0 h]
 | (k,x)::r=>by
  have ih:=mJ f g v r;rw[show e8 f v ((k,x)::r)=(if k=f then (k,v)::r else (k,x)::e8 f v r) from rfl]
  by_cases hk:k=f
  .rw[M6 hk]
   by_cases h:g=k
   .have hb:(g==k)=true:=beq_iff_eq.mpr h;simp only[US,hb,M6 (h.trans hk)]
   .have hb:(g==k)=false:=beq_eq_false_iff_ne.mpr h;simp only[US,hb,M0 (λe:g=f=>h (e.trans hk.symm))]
  .rw[M0 hk]
   by_cases h:g=k
   .have hb:(g==k)=true:=beq_iff_eq.mpr h;simp only[US,hb,M0 (λe:g=f=>hk (h.symm.trans e))]
   .have hb:(g==k)=false:=beq_eq_false_iff_ne.mpr h;simp only[US,hb];exact ih
theorem kI (f)(v):∀fs:List (MV×V),f∈(e8 f v fs).map (·.1)/\∀g,g∈fs.map (·.1)->g∈(e8 f v fs).map (·.1)
 | []=>⟨by simp[e8],λg h=>by simp at h⟩
 | (k,x)::r=>by
  obtain⟨i1,i2⟩:=kI f v r;rw[show e8 f v ((k,x)::r)=(if k=f then (k,v)::r else (k,x)::e8 f v r) from rfl]
  by_cases hk:k=f
  .rw[M6 hk];subst hk;exact⟨by simp,λg h=>by simpa using h⟩
  .rw[M0 hk];refine⟨?_,λg h=>?_⟩
   .rw[N7];exact NP _ i1
   .rw[N7] at h ⊢;rcases NG.mp h with e|e
    .exact NG.mpr (.inl e)
    .exact NP _ (i2 g e)
theorem mK (f)(v):∀fs:List (MV×V),(e8 f v fs).length<=fs.length+1
 | []=>by simp[e8]
 | (k,x)::r=>by
  have ih:=mK f v r;rw[show e8 f v ((k,x)::r)=(if k=f then (k,v)::r else (k,x)::e8 f v r) from rfl]
  by_cases hk:k=f
  .rw[M6 hk,OB,OB];lia
  .rw[M0 hk,OB,OB];lia
theorem eC.some_of (r:eC (some v) o):∃u,o=some u/\aI v u:=by
 cases o with
 | none=>exact(show False from r).elim
 | some u=>exact⟨u,rfl,r⟩
theorem eC.none_of (r:eC none o):o=none:=by
 cases o with
 | none=>rfl
 | some u=>exact(show False from r).elim
theorem zi (r:aI v u):W.handedIn u=true:=by
 cases v with
 | Nr=>cases (show u=T7 from r);rfl
 | bl b=>cases (show u=RN b from r);rfl
 | int i=>obtain⟨t,e⟩:=(show ∃t,u=O0 i t from r);cases e;rfl
 | str x=>obtain⟨t,e⟩:=(show ∃t,u=Zs x t from r);cases e;rfl
 | Rj b=>obtain⟨t,e⟩:=(show ∃t,u=D'.bytes b t from r);cases e;rfl
 | U8 b=>obtain⟨t,e⟩:=(show ∃t,u=ac5 b t from r);cases e;rfl
 | ref a=>cases (show u=NQ a from r);rfl
 | ty n=>cases (show u=QS n from r);rfl
section
theorem lG (Nf:OP P w H h)(e:H a=some (.ins C dx fs)):∃mA,U2 h a dx C mA/\(∀f,eC (fs.lookup f) (mA f))/\ac0 mA (fs.map (·.1))/\fs.length<=1000/\H dx=some (.own a):=by
 obtain⟨d,z,ne,ob,mA,n,r,q⟩:=(show bz P w H h a (.ins C dx fs) from Nf a _ e)
 exact⟨mA,⟨ob,n,ne⟩,r,q,z,d⟩
end
structure SL (K)(C):Prop where
 pg:Zq K C MV.empty=true
 hd:aa0 K C=true
 po:W.plainOver K C=true
 sa:QG K (.ref C) "__setattr__"=some (some (.builtin "object.__setattr__"))
theorem SL.get {K:MZ}(c:SL K C)(f:MV):Zq K C f=true:=c.pg
def gC (K:MZ)(C:A')(f:MV):Prop:=QG K (.ref C) f=some none
theorem gC.afd {K:MZ}(n:gC K C f):W.takerIn K C f=some none:=by
 unfold W.takerIn;rw[show QG K (.ref C) f=some none from n];rfl
structure Ue (K)(C)(m)(f):Prop where
 at_:QG K (.ref C) m=some (some (.ref f))
 fn:W.isFn K (.ref f)=true
 kp:R8 K (.ref f)=true
section
variable {σ:St} in
theorem xO (I:Inv X aa σ H s)(e:H a=some (.ins C dx fs))(c:SL X.K C)(n:gC X.K C f)(l:fs.lookup f=some v)(h:∀u s',Inv X aa σ H s'->aI v u->Q u s'):M3 (M8 X.prog X.w) A (getAttr (.ref a) f b) Q E s:=by
 obtain⟨mA,O,r,_,_,_⟩:=lG I.Nf e;obtain⟨u,hu,ru⟩:=eC.some_of (v:=v) (o:=mA f) (by rw[<-l];exact r f);exact DR I.Ox O (c.get f) c.hd n hu (zi ru) (h u _ (I.tok _) ru)
variable {σ:St} in
theorem xP (I:Inv X aa σ H s)(e:H a=some (.ins C dx fs))(c:SL X.K C)(k:Ue X.K C m g)(l:fs.lookup m=none)(h:Q (.ref g,[.ref a]) s):M3 (M8 X.prog X.w) A (getMethod (.ref a) m pl) Q E s:=by
 obtain⟨mA,O,r,_,_,_⟩:=lG I.Nf e;have hn:mA m=none:=eC.none_of (by rw[<-l];exact r m);exact Bt I.Ox O (c.get m) k.at_ k.fn hn h
variable {σ:St} in
theorem xQ (I:Inv X aa σ H s)(e:H a=some (.ins C dx fs))(c:SL X.K C)(n:gC X.K C f)(hl:fs.length<1000)(ry:aI y u)(h:∀s',Inv X aa σ (upd H a (.ins C dx (e8 f y fs))) s'->Q () s'):M3 (M8 X.prog X.w) A (setAttr (.ref a) f u) Q E s:=by
 obtain⟨mA,O,r,wi,_,ho⟩:=lG I.Nf e;have hz:(fs.map (·.1)).length<=Nh:=by rw[NT,NU];lia
 refine DS I.Ox O c.sa c.po n.afd c.hd wi hz λh' O' sb=>h _ ?_;have hd:∃o,h'.get? dx=some o:=let ⟨o,_,_,e',_⟩:=O'.ns;⟨o,e'⟩;refine I.write (x:=a) (e:=dx) (by rw[e];exact Qs) (.inr ho) (λb q hb z=>(sb.2 b hb).trans z) hd ?_;refine⟨by rw[aq O.ne];exact ho,?_,O.ne,O'.obj,_,O'.ns,λg=>?_,λg hg=>?_⟩
 .have:=mK f y fs;lia
 .show eC ((e8 f y fs).lookup g) (if g=f then some u else mA g);rw[mJ]
  by_cases q:g=f
  .rw[M6 q,M6 q];exact ry
  .rw[M0 q,M0 q];exact r g
 .by_cases q:g=f
  .rw[q];exact(kI f y fs).1
  .refine(kI f y fs).2 g (wi g λz=>hg ?_);show(if g=f then some u else mA g)=none;rw[M0 q];exact z
variable {σ:St} in
theorem Inv.made (I:Inv X aa σ H s):Inv X aa σ (upd (upd H s.heap.objs.size (.own (s.heap.objs.size+1))) (s.heap.objs.size+1) (.ins C s.heap.objs.size []))
  { s with heap:=(s.heap.push T6).push (UT C s.heap.objs.size) }:=by
 have e1:(s.heap.push T6).get? s.heap.objs.size=some T6:=OH s.heap rfl;have e2:((s.heap.push T6).push (UT C s.heap.objs.size)).get? (s.heap.objs.size+1)=some (UT C s.heap.objs.size):=by
  have:=OH (s.heap.push T6) (o:=UT C s.heap.objs.size) rfl;rwa[Zh] at this
 have e3:(s.heap.push T6).Ns s.heap.objs.size (λ_=>none):=⟨T6,#[],_,e1,rfl,(λe he=>Nc he (by simp)),λ_=>rfl⟩
 have I1:=I.laid (a:=s.heap.objs.size) (o:=.own (s.heap.objs.size+1)) (h':=s.heap.push T6) (t':=s.toks) (λb u q=>NK _ q) (Nl _) ⟨_,e1⟩;refine I1.laid (a:=s.heap.objs.size+1) (o:=.ins C s.heap.objs.size []) (t':=s.toks) (λb u q=>NK _ q) (VX (Zh _ _)) ?_;have ne:s.heap.objs.size≠s.heap.objs.size+1:=N0 (Xk _);refine⟨by rw[aq ne,al],Ow _,ne,e2,λ_=>none,(M4.Ns1.of_empty e3).at λo q=>NK _ q,λ_=>Qs,λy hy=>Nc rfl hy⟩
theorem DT (hb:attributeBase e f env (eval e env)=eval e env)(h:M3 (M8 prog w) A (eval e env) (λo Nw=>M3 (M8 prog w) A (getAttr o f true) Q E Nw) E s):M3 (M8 prog w) A (eval (.Attribute e f pos) env) Q E s:=
 Attribute_any_ h (by rw[arm_eval_Attribute,hb])
end
def J2 (K:MZ)(ta:TE)(f:MV):TE:=λσ H Q=>ta σ H λx H1=>∃a C dx fs v,x=.ref a/\H1 a=some (.ins C dx fs)/\SL K C/\gC K C f/\fs.lookup f=some v/\Q v H1
def J3 (K:MZ)(ta tv:TE)(f:MV):TS:=λD σ H=>tv σ H λy H1=>ta σ H1 λx H2=>∃a C dx fs,x=.ref a/\H2 a=some (.ins C dx fs)/\SL K C/\gC K C f/\fs.length<1000/\
 D.nx σ (upd H2 a (.ins C dx (e8 f y fs)))
section
theorem io (he:PE X e ta)(hb:attributeBase e f X.env (eval e X.env)=eval e X.env):PE X (.Attribute e f pos) (J2 X.K ta f):=by
 intro aa s σ H Q I h;refine DT hb (Nk (he aa s σ H _ I h) λu s1 ⟨x,H1,I1,rx,a,C,dx,fs,v,ex,ea,c,n,l,q⟩=>?_);subst ex;obtain rfl:u=NQ a:=rx;exact xO I1 ea c n l λu' s2 I2 ru=>⟨v,H1,I2,ru,q⟩
theorem zj (ha:PE X o ta)(hv:PE X value tv)(hs:swapsWith value (some (.Attribute o f pos')) pos.line X.env=pure false):PS X (.Assign [.Attribute o f pos'] value pos) (J3 X.K ta tv f):=by
 intro aa s σ H D I h;refine plainObj_wpAny_Assign_Attribute (Nk (hv aa s σ H _ I h) λu s1 ⟨y,H1,I1,ry,q⟩=>Nk (ha aa s1 σ H1 _ I1 q) λov s2 ⟨x,H2,I2,rx,a,C,dx,fs,ex,ea,c,n,l,q2⟩=>?_) hs;subst ex;obtain rfl:ov=NQ a:=rx;exact xQ I2 ea c n l ry λs3 I3=>⟨σ,_,I3,q2⟩
end
section
inductive Rz (K:MZ)(H:Hp):V->D'->Prop where
 | Nr:Rz K H .Nr (.type "NoneType")
 | bl (x:Bool):Rz K H (.bl x) (.type "bool")
 | int (i:Int):Rz K H (.int i) (.type "int")
 | str (x:MV):Rz K H (.str x) (.type "str")
 | U8 (x:UInt64):Rz K H (.U8 x) (.type "float")
 | lst {a:A'}{xs:List V}(e:H a=some (.lst xs)):Rz K H (.ref a) (.type "list")
 | Oq {a:A'}{o:G'}{xs:List V}(e:H a=some (.Oq o (.lst xs))):Rz K H (.ref a) (.type "list")
 | tup {a:A'}{xs:List V}(e:H a=some (.tup xs)):Rz K H (.ref a) (.type "tuple")
 | dK {a:A'}{kvs:List (Key×V)}(e:H a=some (.dK kvs)):Rz K H (.ref a) (.type "dict")
 | dT {a:A'}{kvs:List (List Key×V)}(e:H a=some (.dT kvs)):Rz K H (.ref a) (.type "dict")
 | ins {a C dx:A'}{fs:List (MV×V)}(e:H a=some (.ins C dx fs)) (cl:SL K C) (ha:QG K (.ref C) "__class__"=some (some (.builtin "object.__class__")))
   (hn:W.specialIn K (.builtin "object.__class__") "__get__"=some (some (.builtin "getset_descriptor.__get__"))) (htk:W.takesIn K (.builtin "object.__class__")=some true)
   (hm:W.mroIn K C (.type "object")=some true):Rz K H (.ref a) (.ref C)
variable {σ:St} in
theorem zm (I:Inv X aa σ H s)(rx:aI x u)(ty:Rz X.K H x t)(e:UU X.K t c=some b)(h:∀tk,Q (.bool b) { s with toks:=tk }):
  M3 (M8 X.prog X.w) A (call (.builtin "isinstance") [u,c]) Q E s:=by
 cases ty with
 | Nr=>cases (show u=T7 from rx);exact Ry W.kitx_none I.Ox Qs e (λz=>nomatch z) h
 | bl y=>cases (show u=RN y from rx);exact Ry W.kitx_bool I.Ox Qs e (λz=>nomatch z) h
 | int i=>obtain⟨t,q⟩:=(show ∃t,u=O0 i t from rx);cases q;exact Ry W.kitx_int I.Ox Qs e (λz=>nomatch z) h
 | str y=>obtain⟨t,q⟩:=(show ∃t,u=Zs y t from rx);cases q;exact Ry W.kitx_str I.Ox Qs e (λz=>nomatch z) h
 | U8 y=>obtain⟨t,q⟩:=(show ∃t,u=ac5 y t from rx);cases q;exact Ry W.kitx_float I.Ox Qs e (λz=>nomatch z) h
 | @lst a xs ea=>
  cases (show u=NQ a from rx);obtain⟨_,_,n,_,h1⟩:=(show bz X.prog X.w H s.heap a (.lst xs) from I.Nf a _ ea)
  exact Ry W.kitx_list I.Ox ⟨_,h1,rfl⟩ e (λz=>nomatch z) h
 | @Oq a ob xs ea=>
  cases (show u=NQ a from rx);obtain⟨_,_,_,n,_,h1⟩:=(show bz X.prog X.w H s.heap a (.Oq ob (.lst xs)) from I.Nf a _ ea)
  exact Ry W.kitx_list I.Ox ⟨_,h1,rfl⟩ e (λz=>nomatch z) h
 | @tup a xs ea=>
  cases (show u=NQ a from rx);obtain⟨_,_,_,p⟩:=(show bz X.prog X.w H s.heap a (.tup xs) from I.Nf a _ ea)
  obtain⟨o,h1,h2,_⟩:=p;exact Ry W.kitx_tuple I.Ox ⟨o,h1,h2⟩ e (λz=>nomatch z) h
 | @dK a kvs ea=>
  cases (show u=NQ a from rx);obtain⟨_,_,vs,_,p⟩:=(show bz X.prog X.w H s.heap a (.dK kvs) from I.Nf a _ ea)
  obtain⟨o,es,ep,h1,h2,_⟩:=p;exact Ry W.kitx_dict I.Ox ⟨o,h1,h2.1⟩ e (λz=>nomatch z) h
 | @dT a kvs ea=>
  cases (show u=NQ a from rx);obtain⟨_,_,xs,_,o,es,ep,h1,h2,_⟩:=(show bz X.prog X.w H s.heap a (.dT kvs) from I.Nf a _ ea)
  exact Ry W.kitx_dict I.Ox ⟨o,h1,h2.1⟩ e (λz=>nomatch z) h
 | @ins a C dx fs ea cl ha hn htk hm=>
  cases (show u=NQ a from rx);obtain⟨mA,O,_⟩:=lG I.Nf ea;obtain⟨od,J,_⟩:=O.look;exact Ry (W.kitx_own (cl.get _) cl.hd ha hn htk hm) I.Ox J e (λz=>nomatch z) h
end
structure MX (k:Nat)(A:Nv):Prop where
 hd:A.handled=none
 dp:A.depth+3*k+5<recursionLimit
 un:A.units+16*k+200<ND
 gd:A.guards=some []
theorem MX.mono (r:MX k A)(h:j<=k):MX j A:=⟨r.hd,by have:=r.dp;lia,by have:=r.un;lia,r.gd⟩
theorem MX.deeper (r:MX (k+1) A)(env):MX k (A.deeper env):=
 ⟨r.hd,by have:=r.dp;show A.depth+1+3*k+5<_;lia,by have:=r.un;show A.units+3+16*k+200<_;lia,r.gd⟩
theorem xR {A:Nv}{C:A'}{us:List D'}{kw:List (MV×D')}:(A.under (.builtin "type.__call__" ⟨.ref C::us,kw⟩)).depth=A.depth+1:=by
 first|rfl|simp[aaU,Code.weight,Code.isCreation,Code.isGuard,Code.isCaller,Code.frames,ac1,guardIds]
theorem xS {A:Nv}:(A.under (.builtin "type.__call__" ⟨.ref C::us,kw⟩)).units=A.units+1:=by
 first|rfl|simp[aaU,Code.cUnits,Code.frames,ac1]
theorem MX.make (r:MX (k+1) A)(C)(us)(kw):MX k (A.under (.builtin "type.__call__" ⟨.ref C::us,kw⟩)):=
 ⟨r.hd,by have:=r.dp;rw[xR];lia,by have:=r.un;rw[xS];lia,by
  first|exact r.gd|(have g:=r.gd;simp[aaU,Code.guards,Code.isGuard,guardIds,pushGuards,g])⟩
theorem MX.depth (r:MX k A):A.depth<recursionLimit:=by have:=r.dp;lia
theorem MX.units (r:MX k A):A.units+64<ND:=by have:=r.un;lia
theorem MX.XH (r:MX k A):A.units<ND:=by have:=r.un;lia
def jP:TA:=λ_ H Q=>Q [] H
def dX (ta:TE)(tr:TA):TA:=λσ H Q=>ta σ H λx H1=>tr σ H1 λxs H2=>Q (x::xs) H2
section
theorem ae:PA X [] jP:=λ_ _ _ _ H Q I h=>acr ⟨[],H,I,.nil,h⟩
theorem ac (ha:PE X e te)(hr:PA X es t)(hs:Ob (e::es) X.env=(false,eval e X.env)::Ob es X.env:=by rfl):PA X (e::es) (dX te t):=by
 intro pos aa s σ H Q I h;rw[hs];show M3 _ _ (spliced ((false,eval e X.env)::backTo pos (Ob es X.env))) _ _ s;refine Xc (Nk (ha aa s σ H _ I h) λu s1 ⟨x,H1,I1,r1,q1⟩=>?_);exact Nk (hr pos aa s1 σ H1 _ I1 q1) λus s2 ⟨xs,H2,I2,r2,q2⟩=>⟨x::xs,H2,I2,.cons r1 r2,q2⟩
def ti (t:TA):TE:=λσ H Q=>t σ H λxs H1=>xs.length<=Nh/\∀p,H1 p=none->Q (.ref p) (upd H1 p (.tup xs))
def J4 (t:TA):TE:=λσ H Q=>t σ H λxs H1=>xs.length<=Nh/\∀p,H1 p=none->Q (.ref p) (upd H1 p (.lst xs))
theorem bI {x1}(h:PA X es t):PE X (.Tuple es x1 pos) (ti t):=by
 intro aa s σ H Q I hq;refine wpAny_Tuple_spliced (Nk (h pos aa s σ H _ I hq) λus s1 ⟨xs,H1,I1,r,z,q⟩=>⟨by rw[<-r.length];exact z,?_⟩);have hf:H1 s1.heap.objs.size=none:=I1.Nf.fresh (Nl _);refine⟨.ref s1.heap.objs.size,upd H1 s1.heap.objs.size (.tup xs),I1.laid (t':=s1.toks) (λb u e=>NK _ e) (Nl _) ?_,rfl,q _ hf⟩;exact⟨z,us,r,⟨_,OH _ rfl,rfl,_,rfl,rfl⟩⟩
theorem bW (h:PA X es t):PE X (.List es pos) (J4 t):=by
 intro aa s σ H Q I hq;refine wpAny_List_spliced (Nk (h pos aa s σ H _ I hq) λus s1 ⟨xs,H1,I1,r,z,q⟩=>⟨by rw[<-r.length];exact z,?_⟩);have hf:H1 s1.heap.objs.size=none:=I1.Nf.fresh (Nl _);refine⟨.ref s1.heap.objs.size,upd H1 s1.heap.objs.size (.lst xs),I1.laid (t':=s1.toks) (λb u e=>NK _ e) (Nl _) ?_,rfl,q _ hf⟩;exact⟨z,us,0,r,OH _ rfl⟩
end
abbrev Sp:=List V->Hp->VK->XK->Prop
abbrev PU:=List OV->Hp->J'->XK->D'->J'->Prop
structure SG (P:Ng)(w:M7)(K:MZ)(mg:MV->Option D')(base:M4)(A:Nv)(outer:List OV)(s:J')(H:Hp):Prop where
 frames:A.frames=some outer
 mod:Mod K mg base
 bs:∀b o,base.get? b=some o->s.heap.get? b=some o/\H b=none
 Ts:base.objs.size<=s.heap.objs.size
 QW:s.heap.FunFrames base outer
 Tt:∀b∈O2 outer,H b=none
 Nf:OP P w H s.heap
 bare:Ti s.gens
def CE (outer:List OV)(P:Ng)(w:M7)(H:Hp)(s:J')(Q:VK)(u:D')(s':J'):Prop:=
 ∃v H',s'.os=s.os/\Ti s'.gens/\Un (O2 outer) [] H H' s.heap s'.heap/\OP P w H' s'.heap/\aI v u/\Q v H'
def CR (CX:PU)(outer:List OV)(P:Ng)(w:M7)(H:Hp)(s:J')(Q:VK)(E:XK)(r:Result)(s':J'):Prop:=
 match r with
 | .ok (.ret u)=>CE outer P w H s Q u s'
 | .ok _=>False
 | .error e=>CX outer H s E e s'
structure Nq (P:Ng)(w:M7)(K:MZ)(mg:MV->Option D')(base:M4)(CX:PU)(k:Nat)(f:A')(fd:Nt)(ps:List MV)(sp:Sp):Prop where
 len:∀vs H Q E,sp vs H Q E->vs.length=ps.length
 run:∀(A:Nv) (outer:List OV) (s:J') (H:Hp) (args:Args) (us:List D') (vs:List V) (Q:VK) (E:XK),MX k A->SG P w K mg base A outer s H->XD s fd args (ps.zip us)->aL vs us->sp vs H Q E->
  codeAny (M8 P w) A (.call (.ref f) args) (CR CX outer P w H s Q E) s
theorem SG.make {K:MZ}(e:SG P w K mg base A outer s H)(C:A')(us:List D')(kw:List (MV×D')):
  SG P w K mg base (A.under (.builtin "type.__call__" ⟨.ref C::us,kw⟩)) outer s H:=⟨by first|exact e.frames|(simpa [aaU,Code.envs,ac1,pushEnvs] using e.frames),e.mod,e.bs,e.Ts,e.QW,e.Tt,e.Nf,e.bare⟩
section
variable {σ:St} in
theorem Inv.ZH (I:Inv X aa σ H s):SG X.prog X.w X.K X.mg X.base X.A X.stack s H:=
 ⟨I.ok.frames,I.ok.mod,I.bs,Ph I.ok.Ts I.sz,I.stack,I.aba,I.Nf,I.bare⟩
variable {σ:St} in
theorem Inv.after (I:Inv X aa σ H s)(h:CE X.stack X.prog X.w H s Q u s'):EP X aa σ Q u s':=by
 obtain⟨v,H',os,bare,un,Nf,r,q⟩:=h;obtain⟨hh,g,d,t,os'⟩:=s';obtain rfl:os'=s.os:=os;exact⟨v,H',I.call (h':=hh) (g':=g) (d':=d) (t':=t) (ch:=[]) un Nf bare (λb z=>Nc z (by simp)),r,q⟩
end
def IY (C:A')(m:MV)(sp:Sp)(Pk:List V)(E:XK)(ta:TE)(t:TA):TE:=λσ H Q=>ta σ H λx H1=>∃a dx fs,x=.ref a/\H1 a=some (.ins C dx fs)/\fs.lookup m=none/\
 t σ H1 λvs H2=>sp (x::(vs++Pk)) H2 Q E
def IZ (C:A')(sp:Sp)(Pk:List V)(E:XK)(t:TA):TE:=λσ H Q=>t σ H λvs H1=>∀x dx,H1 x=none->H1 dx=none->dx≠x->
 sp (.ref x::(vs++Pk)) (upd (upd H1 dx (.own x)) x (.ins C dx [])) (λv H2=>v=.Nr/\Q (.ref x) H2) E
def bH (K:MZ)(fd:Nt)(ps:List MV)(ds:List D'):Prop:=
 ∀(s:J') (us:List D'),K.In s.heap->(us++ds).length=ps.length->XD s fd ⟨us,[]⟩ (ps.zip (us++ds))
theorem bH.all {K:MZ}(h:∀us:List D',us.length=ps.length->bindArgs fd ⟨us,[]⟩=pure (ps.zip us)):bH K fd ps []:=λs us _ hl=>by
 rw[QD] at hl ⊢;exact .of_eq (h us hl)
def jn (CX:PU)(X:Cx)(E:XK):Prop:=∀(aa:List (A'×G')) (σ:St) (H:Hp) (s:J') (e:D') (s':J'),Inv X aa σ H s->CX X.stack H s E e s'->X.xe e s'
section
variable {X:Cx}{CX:PU}{k:Nat}{f:A'}{fd:Nt}{ps:List MV}{sp:Sp}{Pk:List V}{ds:List D'}{E:XK} in
theorem Ff {aa:List (A'×G')}{σ:St}{H:Hp}{s:J'}{Q:VK}{us:List D'}{vs:List V}(F:Nq X.prog X.w X.K X.mg X.base CX k f fd ps sp)(hr:MX k X.A)(hb:bH X.K fd ps ds)(hd:aL Pk ds)(hx:jn CX X E)(I:Inv X aa σ H s)(r:aL vs us)(h:sp (vs++Pk) H Q E):M3 (M8 X.prog X.w) X.A (call (.ref f) us) (EP X aa σ Q) X.xe s:=by
 have r2:aL (vs++Pk) (us++ds):=r.append hd;have hl:(us++ds).length=ps.length:=by rw[<-r2.length];exact F.len _ _ _ _ h
 refine Zr (T5 (F.run X.A X.stack s H ⟨us,[]⟩ (us++ds) (vs++Pk) Q E hr I.ZH (hb s us I.Ox hl) r2 h) λr s' hq=>?_);cases r with
 | error e=>exact hx aa σ H s e s' I hq
 | ok fl=>
  cases fl with
  | ret u=>exact I.after hq
  | next=>exact P3 hq
  | brk=>exact P3 hq
  | cont=>exact P3 hq
theorem wl (he:PE X o ta)(c:SL X.K C)(hm:Ue X.K C m f)(F:Nq X.prog X.w X.K X.mg X.base CX k f fd ps sp)(hr:MX k X.A)(hb:bH X.K fd ps ds)(hd:aL Pk ds)(hx:jn CX X E)(ha:PA X (e::es) t)(Ui:Ob (e::es) X.env=(false,eval e X.env)::Ob es X.env:=by rfl)(Qo:(backTo pos (Ob es X.env)).any (·.1)=false:=by rfl)(ht:eval (.Call (.Attribute o m apos) (e::es) [] pos) X.env=(do
   let ov <-eval o X.env
   standAt apos.atName
   let (f,first) <-holding [ov] (getMethod ov m pl)
   callWith pos f first (backTo pos (Ob (e::es) X.env)) (backToKw pos (keywordEach [] X.env))):=by rfl):
  PE X (.Call (.Attribute o m apos) (e::es) [] pos) (IY C m sp Pk E ta t):=by
 intro aa s σ H Q I h;refine W.methodCall_KW (pl:=pl) (Nk (he aa s σ H _ I h) λu s1 ⟨x,H1,I1,rx,a,dx,fs,ex,ea,l,q⟩=>?_) ht;subst ex;obtain rfl:u=NQ a:=rx;refine xP I1 ea c hm l ?_;refine W.callWith_K (first:=[.ref a]) (h₀:=X.base) I.ok.mod.Uf hm.kp (Nk (ha pos aa s1 σ H1 _ I1 q) λus s2 ⟨vs,H2,I2,r,q2⟩=>⟨I2.Ox,?_⟩) Ui Qo;exact Ff (us:=.ref a::us) (vs:=.ref a::vs) F hr hb hd hx I2 (.cons rfl r) q2
structure Mk (K)(C f):Prop where
 makes:W.makesIn K C=true
 init:QG K (.ref C) "__init__"=some (some (.ref f))
 fn:W.isFn K (.ref f)=true
 kp:R8 K (.ref C)=true
variable {X:Cx}{CX:PU}{k:Nat}{f:A'}{C:A'}{fd:Nt}{ps:List MV}{sp:Sp}{Pk:List V}{ds:List D'}{E:XK}{x:MV} in
theorem Bv {aa:List (A'×G')}{σ:St}{H:Hp}{s:J'}{Q:VK}{us:List D'}{vs:List V}(M:Mk X.K C f)(F:Nq X.prog X.w X.K X.mg X.base CX k f fd ps sp)(hr:MX (k+1) X.A)(hb:bH X.K fd ps ds)(hd:aL Pk ds)(hx:jn CX X E)(I:Inv X aa σ H s)(r:aL vs us)(h:∀x dx,H x=none->H dx=none->dx≠x->sp (.ref x::(vs++Pk)) (upd (upd H dx (.own x)) x (.ins C dx [])) (λv H2=>v=.Nr/\Q (.ref x) H2) E):
  M3 (M8 X.prog X.w) X.A (call (.ref C) us) (EP X aa σ Q) X.xe s:=by
 have hq:=h (s.heap.objs.size+1) s.heap.objs.size (I.Nf.fresh (V0 _)) (I.Nf.fresh (Nl _)) (N0 (Xk _));have I2:=Inv.made (C:=C) I;have r2:aL (V.ref (s.heap.objs.size+1)::(vs++Pk)) (NQ (s.heap.objs.size+1)::(us++ds)):=.cons rfl (r.append hd);have hl:(NQ (s.heap.objs.size+1)::us++ds).length=ps.length:=by
  have e:=r2.length;rw[F.len _ _ _ _ hq] at e;exact e.symm
 refine Zr (Bu (f:=f) I.Ox M.makes M.init (beq_iff_eq.mp M.fn) (T5 (F.run _ X.stack _ _ ⟨NQ (s.heap.objs.size+1)::us,[]⟩ (NQ (s.heap.objs.size+1)::(us++ds)) _ _ E (hr.make C us [])
  (I2.ZH.make C us []) (hb _ (NQ (s.heap.objs.size+1)::us) I2.Ox hl) r2 hq) λr s' X8=>?_))
 cases r with
 | error e=>exact hx aa σ _ _ e s' I2 X8
 | ok fl=>
  cases fl with
  | ret u=>
   obtain⟨v,H',I3,rv,ev,q3⟩:=I2.after X8;subst ev;exact⟨rv,⟨V.ref (s.heap.objs.size+1),H',I3,rfl,q3⟩⟩
  | next=>exact P3 X8
  | brk=>exact P3 X8
  | cont=>exact P3 X8
theorem tu (M:Mk X.K C f)(F:Nq X.prog X.w X.K X.mg X.base CX k f fd ps sp)(hr:MX (k+1) X.A)(hg:Gl X x)(hm:X.mg x=some (.ref C))(hb:bH X.K fd ps ds)(hd:aL Pk ds)(hx:jn CX X E)(Q1:(x==("__debug__":MV))=false:=by decide):PE X (.Call (.Name x p) [] [] pos) (IZ C sp Pk E jP):=by
 intro aa s σ H Q I h;refine Xd (jh I hg hm ?_ Q1);exact W.callWith_K0 I.Ox M.kp (Bv (us:=[]) M F hr hb hd hx I .nil h)
end
section
end
structure N3 (N P:List MV)(sc:PX):Prop where
 kind:sc.kind=.function
 co:sc.isCoroutine=false
 gen:sc.isGenerator=false
 nd:N.Nodup
 pre:N.take P.length=P
 par:∀x∈P,sc.names.lookup x=some .local \/sc.names.lookup x=some .cell
 ae7:∀y∈sc.names,y.2≠.free
theorem qA {kindOf:MV->Option Th}:∀{binds:List (MV×D')}{m:MV->Option D'},(∀v,(x,v)∉binds)->bindL kindOf binds m x=m x
 | [],_,_=>rfl
 | (n,v)::r,m,h=>by
  unfold bindL;rw[qA λw hw=>h w (NP _ hw)]
  split
  .have:x≠n:=by rintro rfl;exact h v Nu
   simp[this]
  .rfl
theorem qB {kindOf:MV->Option Th}:∀{binds:List (MV×D')}{m:MV->Option D'},(∀v,(x,v)∉binds)->bindC kindOf binds m x=m x
 | [],_,_=>rfl
 | (n,v)::r,m,h=>by
  unfold bindC;rw[qB λw hw=>h w (NP _ hw)]
  split
  .rfl
  .have:x≠n:=by rintro rfl;exact h v Nu
   simp[this]
theorem qC {kindOf:MV->Option Th}:∀{P:List MV}{vs:List D'}{i:Nat}{m:MV->Option D'},P.Nodup->P[i]?=some x->vs[i]?=some v->kindOf x=some .local ->
  bindL kindOf (P.zip vs) m x=some v
 | [],_,_,_,_,h,_,_=>by simp at h
 | _::_,[],_,_,_,_,h,_=>by simp at h
 | p::P,w::vs,0,m,nd,h1,h2,hk=>by
  simp at h1 h2;subst h1;subst h2;show bindL kindOf ((p,w)::P.zip vs) m p=_;unfold bindL;rw[qA λv hv=>(QE.mp nd).1 (acF hv).1,M6 hk];simp
 | p::P,w::vs,i+1,m,nd,h1,h2,hk=>by
  show bindL kindOf ((p,w)::P.zip vs) m x=_;unfold bindL;exact qC (i:=i) (QE.mp nd).2 (by simpa using h1) (by simpa using h2) hk
theorem qD {kindOf:MV->Option Th}:∀{P:List MV}{vs:List D'}{i:Nat}{m:MV->Option D'},P.Nodup->P[i]?=some x->vs[i]?=some v->kindOf x≠some .local ->
  bindC kindOf (P.zip vs) m x=some v
 | [],_,_,_,_,h,_,_=>by simp at h
 | _::_,[],_,_,_,_,h,_=>by simp at h
 | p::P,w::vs,0,m,nd,h1,h2,hk=>by
  simp at h1 h2;subst h1;subst h2;show bindC kindOf ((p,w)::P.zip vs) m p=_;unfold bindC;rw[qB λv hv=>(QE.mp nd).1 (acF hv).1,M0 hk];simp
 | p::P,w::vs,i+1,m,nd,h1,h2,hk=>by
  show bindC kindOf ((p,w)::P.zip vs) m x=_;unfold bindC;exact qD (i:=i) (QE.mp nd).2 (by simpa using h1) (by simpa using h2) hk
def gz (N:List MV)(vs:List V):St:=vs.map some++OJ (N.length-vs.length) none
def eO (CX:PU)(P:Ng)(w:M7)(K:MZ)(mg:MV->Option D')(base:M4)(N:List MV)(qual:MV)(scope:PX)(f:A')(cd:D')(A:Nv)(outer:List OV)(s:J')(H:Hp)(E:XK):Cx where
 prog:=P
 w:=w
 K:=K
 mg:=mg
 base:=base
 A:=A.deeper (envOfC qual scope s.heap.objs.size f cd)
 N:=N
 OU:=s
 U1:=H
 env:=envOfC qual scope s.heap.objs.size f cd
 outer:=outer
 stack:=envOfC qual scope s.heap.objs.size f cd::outer
 ex:=[]
 calm:=true
 fn:=λ_=>true
 pn:=[]
 xe:=λe s'=>M3 (M8 P w) (A.deeper (envOfC qual scope s.heap.objs.size f cd)) (leaving (envOfC qual scope s.heap.objs.size f cd) e) (λ_ Vd=>CX outer H s E e Vd) (λe' Vd=>CX outer H s E e' Vd) s'
theorem tz {sc:PX}(h:sc.names.lookup x=some .cell):∃c,(cellsFrom n sc.names []).lookup x=some c:=by
 have q:=W.cellsFrom_some sc.names n [] (.inl h);exact SZ.mp q
theorem zn {K:MZ}(S:N3 N ps scope)(hd:A.handled=none)(e0:SG P w K mg base A outer s H)(hl:vs.length=ps.length)(r:aL vs us)(x:InCallC s s.heap.objs.size (bindL (envOfC qual scope s.heap.objs.size f cd).kindOf (ps.zip us) λ_=>none) (cellsFrom (s.heap.objs.size+1) scope.names []) (bindC (envOfC qual scope s.heap.objs.size f cd).kindOf (ps.zip us) λ_=>none) s1):
  Inv (eO CX P w K mg base N qual scope f cd A outer s H E) [] (gz N vs) H s1:=by
 have Qo:ps.length<=N.length:=by have:=congrArg RM S.pre;rw[Qb] at this;lia
 obtain⟨h1,tk,rfl,hk⟩:=x.done;have Ve:∀b:A',b∉(eO CX P w K mg base N qual scope f cd A outer s H E).ex:=λb z=>Nc (show b∈([]:List A') from z) (by simp);refine⟨⟨e0.mod,S.kind,rfl,rfl,Nl _,λy z c h1 h2=>?_,λy hy=>?_,λy c _ h=>?_,λ_=>hd,aeC e0.frames,.inr ⟨rfl,rfl⟩,λb z=>Nc z (Ve b),e0.bs,e0.Ts,λb _ _=>Ve b,λb z=>Nc z (Ve b),e0.QW,e0.Tt⟩,
  rfl,e0.bare,Un.kept hk,⟨_,x.toInCall.ns,λi y v h1 h2 h3=>?_⟩,λy c h=>⟨_,x.cell y c h⟩,e0.Nf.fresh (Nl _),λy c h=>?_,λp hp=>Nc (show p∈([]:List (A'×G')) from hp) (by simp),e0.Nf.kept hk,?_⟩
 .exact name_of_addr x.apart (Ra h1) (Ra h2)
 .have hy:scope.names.lookup y=some .cell\/scope.names.lookup y=some .free:=hy;rcases hy with hy|hy
  .exact tz hy
  .exact Nc rfl (S.ae7 _ (Ra hy))
 .exact UR (x.above y c (Ra h))
 .have hi:i<vs.length:=by
   unfold gz at h2
   by_cases hi:i<vs.length
   .exact hi
   .rw[UG (by simpa using hi)] at h2;rw[aei] at h2
    split at h2 <;> cases h2
  have ha:vs[i]?=some v:=by
   unfold gz at h2;rw[SX (by simpa using hi),Pa] at h2;cases e:vs[i]? with
   | none=>rw[e] at h2;cases h2
   | some a=>rw[e] at h2;cases h2;rfl
  obtain⟨u,hu,rv⟩:=r.get ha;have hp:ps[i]?=some y:=by
   rw[<-S.pre,abZ (by lia)];exact h1
  have Vf:ps.Nodup:=by rw[<-S.pre];exact S.nd.sublist (aax _ _)
  refine⟨u,rv,?_⟩;rcases S.par y (Oo hp) with k|k
  .exact .inl ⟨k,qC Vf hp hu k⟩
  .obtain⟨c,e⟩:=tz (n:=s.heap.objs.size+1) k;refine .inr ⟨.inl k,c,e,?_⟩;have q:=x.cell y c e;rw[qD Vf hp hu (by show scope.names.lookup y≠_;rw[k];decide)] at q;exact q
 .exact e0.Nf.fresh (UR (x.above y c (Ra h)))
 .unfold gz;show _=N.length;rw[Os,NT,aew];lia
theorem xT {CX:PU}{P:Ng}{w:M7}{K:MZ}{mg:MV->Option D'}{base:M4}{k:Nat}{f:A'}{name qual:MV}{params:V3}{body:List M'}{scope:PX}{dV kV doc pm No ct oc:D'}{an od:Option A'}{Qi:Array (Option D')}{N ps:List MV}{sp:Sp}(lk:K.lookup f=some ⟨oc,od,.func (Tj name qual params body scope dV kV doc pm an No ct),Qi⟩)(Pq:Zv K No qual=true)(S:N3 N ps scope)(len:∀vs H Q E,sp vs H Q E->vs.length=ps.length)(Tm:∀(A:Nv) (outer:List OV) (s:J') (H:Hp) (vs:List V) (Q:VK) (E:XK),MX k (A.deeper (envOfC qual scope s.heap.objs.size f No))->sp vs H Q E->
   ∃t,Rk (eO CX P w K mg base N qual scope f No A outer s H E) body t/\t { nx:=λ_ H'=>Q .Nr H',rt:=Q } (gz N vs) H):
  Nq P w K mg base CX (k+1) f (Tj name qual params body scope dV kV doc pm an No ct) ps sp:=by
 refine⟨len,λA outer s H args us vs Q E hr e0 hb r NW=>?_⟩;have hl:=len _ _ _ _ NW;have KX:K.In s.heap:=e0.mod.Uf.keeps λb o e=>(e0.bs b o e).1;have lim:s.heap.NoLimit:=e0.mod.nolimit.keeps λb o e=>(e0.bs b o e).1;have afe:∀y∈ps.zip us,scope.names.lookup y.1=some .local \/(scope.names.lookup y.1=some .cell/\((cellsFrom (s.heap.objs.size+1) scope.names []).lookup y.1).isSome=true):=λ⟨n,v⟩ hy=>by
  rcases S.par n (acF hy).1 with q|q
  .exact .inl q
  .exact .inr ⟨q,W.cellsFrom_some _ _ _ (.inl q)⟩
 refine codeAny_call_function hr.depth (KX _ _ lk) rfl S.co S.gen rfl (W.codeRec_of KX Pq) (hb _ _ _ _ ?_);refine wpAny_newFunctionEnv_cells S.kind afe λenv he s1 x=>?_;subst he;refine⟨lim.keeps x.toInCall.keep,codeAny_func ?_⟩;obtain⟨t,ht,hq⟩:=Tm A outer s H vs Q E (hr.deeper _) NW;have I:Inv (eO CX P w K mg base N qual scope f No A outer s H E) [] (gz N vs) H s1:=zn S hr.hd e0 hl r x;refine RO (ht [] s1 (gz N vs) H _ I hq) (λfl s' hs=>?_) λe s' hs=>hs;have fin:∀{NV:St}{H':Hp}{v:V}{u:D'},Inv (eO CX P w K mg base N qual scope f No A outer s H E) [] NV H' s'->aI v u->Q v H'->CE outer P w H s Q u s':=
  λ{NV H' v u} J rv q=>⟨v,H',J.os,J.bare,J.base,J.Nf,rv,q⟩
 cases fl with
 | ret u=>
  obtain⟨v,NV,H',J,rv,q⟩:=hs;exact fin J rv q
 | next=>
  obtain⟨NV,H',J,q⟩:=hs;exact fin (v:=V.Nr) (u:=T7) J rfl q
 | brk=>
  obtain⟨_,_,_,q⟩:=hs;exact P3 q
 | cont=>
  obtain⟨_,_,_,q⟩:=hs;exact P3 q
section
def Z2 (r:List V->Hp->VK->Prop)(t:TA):TE:=λσ H Q=>t σ H λvs H1=>r vs H1 Q
variable {id:String} in
theorem aQ (hc:cK X (.builtin id) r)(hg:Gl X x)(hm:X.mg x=none)(hv:Qc x=some (.builtin id))(ha:PA X (e::es) t)(hn:x≠"__name__":=by decide)(Q1:(x==("__debug__":MV))=false:=by decide)(he:Ob (e::es) X.env=(false,eval e X.env)::Ob es X.env:=by rfl)(Qo:(backTo pos (Ob es X.env)).any (·.1)=false:=by rfl):PE X (.Call (.Name x p) (e::es) [] pos) (Z2 r t):=by
 intro aa s σ H Q I h;refine Xd (kE I hg hm hv ?_ hn Q1);exact PyProof.Rows.callWith_builtin1 (Nk (ha pos aa s σ H _ I h) λus s1 ⟨vs,H1,I1,r1,q1⟩=>hc aa s1 σ H1 vs us Q I1 r1 q1) he Qo
theorem bC (hc:cK X (.type T) r)(hg:Gl X x)(hm:X.mg x=none)(hv:Qc x=some (.type T))(ha:PA X (e::es) t)(hn:x≠"__name__":=by decide)(Q1:(x==("__debug__":MV))=false:=by decide)(he:Ob (e::es) X.env=(false,eval e X.env)::Ob es X.env:=by rfl)(Qo:(backTo pos (Ob es X.env)).any (·.1)=false:=by rfl):PE X (.Call (.Name x p) (e::es) [] pos) (Z2 r t):=by
 intro aa s σ H Q I h;refine Xd (kE I hg hm hv ?_ hn Q1);exact abR (Nk (ha pos aa s σ H _ I h) λus s1 ⟨vs,H1,I1,r1,q1⟩=>hc aa s1 σ H1 vs us Q I1 r1 q1) he Qo
end
end L2
namespace HT
open PySem PyProof.Rows
def cb:List Int->List Int->Bool
 | [],[]=>false
 | [],_::_=>true
 | _::_,[]=>false
 | x::xs,y::ys=>if x=y then cb xs ys else decide (x<y)
theorem eW (x y:Int)(xs ys):cb (x::xs) (y::ys)=if x=y then cb xs ys else decide (x<y):=rfl
theorem E3:cb [] []=false:=rfl
theorem pB (y:Int)(ys):cb [] (y::ys)=true:=rfl
theorem pC (x:Int)(xs):cb (x::xs) []=false:=rfl
section
open PySem.SeqAt
open PySem.AutoSeq1 (wpAny_loadPart')
open PySem.MeetsSeq PySem.MeetsSeq2 PySem.MeetsSeq3
end
section
theorem DU (ht:UY s.heap t vs.toArray)(hb:UY s.heap b ws.toArray)(hv:vs≠[])(h1:ws=[]->Q (.ref t) s)(h2:ws≠[]->Q (.ref s.heap.objs.size) { s with heap:=s.heap.push { cls:=.type "tuple",data:=.seq (vs++ws).toArray } })(hsz:vs.length+ws.length<=Nh):M3 (M8 prog w) A (binaryOp .Add (.ref t) (.ref b)) Q E s:=by
 obtain⟨⟨cls,dd,data,sl⟩,ho,hc,n,hd⟩:=id ht;obtain⟨⟨afv,Z3,data2,Z4⟩,Tv,Wb,n2,hd2⟩:=id hb;simp only at hc hd Wb hd2;subst hc hd Wb hd2;have e:vs.toArray++ws.toArray=(vs++ws).toArray:=by simp
 by_cases hw:ws=[]
 .exact concat_meets ⟨_,ho,rfl⟩ ⟨_,Tv,rfl⟩ acx acV ab6 ab4 (ab0 _ _)
   (tuple_addW1 t b vs.toArray ws.toArray n n2 dd Z3 sl Z4 (by simpa using hv) (by simp[hw])) ⟨ho,Tv,h1 hw⟩
 .refine concat_meets ⟨_,ho,rfl⟩ ⟨_,Tv,rfl⟩ acx acV ab6 ab4 (ab0 _ _)
   (tuple_addW2 t b vs.toArray ws.toArray n n2 dd Z3 sl Z4 (by simpa using hv) (by simpa using hw) (by rw[Od,Od];exact hsz)) ⟨ho,Tv,?_⟩
  rw[e];exact h2 hw
def NI (n d:Nat):Option Int->Nat
 | none=>d
 | some v=>if v<0 then (v+(n:Int)).toNat else min v.toNat n
theorem mW (n d:Nat):NI n d none=d:=rfl
theorem wm (n d k:Nat):NI n d (some (k:Int))=min k n:=by
 show(if (k:Int)<0 then ((k:Int)+(n:Int)).toNat else min (k:Int).toNat n)=min k n;rw[M0 (by lia),QQ]
theorem Fh (n d:Nat)(hd:d<=n)(o):NI n d o<=n:=by
 cases o with
 | none=>exact hd
 | some v=>
  show(if v<0 then (v+(n:Int)).toNat else min v.toNat n)<=n
  by_cases hv:v<0
  .rw[M6 hv];lia
  .rw[M0 hv];exact Nat.min_le_right _ _
theorem wq (v:Int)(n d:Nat):(if v<0 then max (v+(n:Int)) 0 else min v (n:Int))=((NI n d (some v):Nat):Int):=by
 show(if v<0 then max (v+(n:Int)) 0 else min v (n:Int))=(((if v<0 then (v+(n:Int)).toNat else min v.toNat n):Nat):Int)
 by_cases hv:v<0
 .simp only[M6 hv];lia
 .simp only[M0 hv];lia
theorem xU (lo hi)(n:Nat):abW lo hi 1 (n:Int)=(((NI n 0 lo:Nat):Int),((NI n n hi:Nat):Int)):=by
 have h1:¬((1:Int)<0):=by lia
 unfold abW;simp only[h1,if_false];refine XA ?_ ?_
 .cases lo with
  | none=>rfl
  | some v=>exact wq v n 0
 .cases hi with
  | none=>rfl
  | some v=>exact wq v n n
theorem xV (i j:Nat):aad (i:Int) (j:Int) 1=j-i:=by
 unfold aad;have h1:(1:Int) > 0:=by lia
 simp only[h1,if_true,Int.ediv_one]
 split <;> lia
theorem nT (p:UW v o)(h:Q o s):M3 (M8 prog w) A (P4.Slice.slicePartIndex v) Q E s:=by
 cases p with
 | none=>exact slicePart_none h
 | int i t=>exact slicePart_int h
variable {prog:Ng}{w:M7}{A:Nv}{E:D'->J'->Prop}{s:J'} in
theorem mX {sl:A'}{vl vu:D'}{lo hi:Option Int}{n:Nat}{Q:Int×Int×Nat->J'->Prop}(hs:s.heap.IsSliceOf sl vl vu .none)(pl:UW vl lo)(pu:UW vu hi)(h:Q (((NI n 0 lo:Nat):Int),1,NI n n hi-NI n 0 lo) s):M3 (M8 prog w) A (ad6 (.ref sl) (pure (n:Int))) Q E s:=by
 obtain⟨os,Oh,Ul,Z5⟩:=id hs;unfold ad6 P4.Slice.sliceFields;refine MW (MW (wpAny_field Oh Z5 (x:=vl) rfl (MW (wpAny_field Oh Z5 (x:=vu) rfl (MW (wpAny_field Oh Z5 (x:=.none) rfl (M1 ?_)))))));refine MW (slicePart_none ?_);show M3 _ _ (if ((1:Int)==0)=true then _ else _) _ _ s;rw[M0 (by decide)];refine MW (nT pl (MW (nT pu (MW (M1 ?_)))));show M3 _ _ (match abW lo hi 1 (n:Int) with|(lo,hi)=>pure (lo,(1:Int),aad lo hi 1)) _ _ s;rw[xU lo hi n];show M3 _ _ (pure (((NI n 0 lo:Nat):Int),(1:Int),aad ((NI n 0 lo:Nat):Int) ((NI n n hi:Nat):Int) 1)) _ _ s;rw[xV];exact M1 h
theorem Bw (xs:Array D')(i k:Nat):((Oe k).filterMap λ(m:Nat)=>xs[((i:Int)+(m:Int)*1).toNat]?).toArray=((xs.toList.drop i).take k).toArray:=by
 have e:(λ(m:Nat)=>xs[((i:Int)+(m:Int)*1).toNat]?)=λm=>xs[i+m]?:=by
  funext m
  have:((i:Int)+(m:Int)*1).toNat=i+m:=by lia
  rw[this]
 rw[e];have:=pick_run xs i k;rw[List.filterMap_map] at this;have e2:((λx=>xs[x]?)∘λx=>i+x)=λm=>xs[i+m]?:=rfl;rw[e2] at this;rw[this]
theorem mI {lo hi:Option Int}(ht:UY s.heap t items)(hs:s.heap.IsSliceOf sl vl vu .none)(pl:UW vl lo)(pu:UW vu hi)(hw:¬(NI items.size 0 lo=0/\NI items.size items.size hi=items.size))(h:Q (.ref s.heap.objs.size) { s with heap:=s.heap.push { cls:=.type "tuple",data:=.seq ((items.toList.drop (NI items.size 0 lo)).take (NI items.size items.size hi-NI items.size 0 lo)).toArray } })(hsz:items.size<=Nh):M3 (M8 prog w) A (getItem (.ref t) (.ref sl)) Q E s:=by
 have ZC:sizeOk (.seq ((items.toList.drop (NI items.size 0 lo)).take (NI items.size items.size hi-NI items.size 0 lo)).toArray):=by
  show((items.toList.drop (NI items.size 0 lo)).take (NI items.size items.size hi-NI items.size 0 lo)).toArray.size<=Nh;rw[Od,Qb,Xl,Pe];lia
 have hj:NI items.size items.size hi<=items.size:=Fh _ _ (Nl _) hi;obtain⟨os,Oh,Ul,Z5⟩:=id hs;have hTs:s.TypeIs (.ref sl) "slice":=⟨os,Oh,Ul⟩
 unfold getItem
 try with_reducible refine PN ?_
 first|refine MW (M1 ?_)|skip
 refine MW (acs ht.typeIs (by decide) ?_);refine MW (YX (name:=R7 "__getitem__") ht.typeIs abO
  (RK abO ht.typeIs entry_tuple_getitem ?_ (args_tuple_getitem _ _)))
 show M3 _ _ (ad7 (.ref t) >>= _) _ _ s;refine MW (tupleItemsOf_ ht ?_);refine MW (VY hTs ?_);rw[M6 (by decide)];refine MW (mX hs pl pu ?_);have Vg:¬((((NI items.size 0 lo:Nat):Int)==0&&(1:Int)==1&&(NI items.size items.size hi-NI items.size 0 lo)==items.size)=true):=by
  intro q;rw[Rc,Rc] at q;have q1:((NI items.size 0 lo:Nat):Int)=0:=eq_of_beq q.1.1;have q2:NI items.size items.size hi-NI items.size 0 lo=items.size:=eq_of_beq q.2;exact hw ⟨by lia,by lia⟩
 show M3 _ _ (if (((NI items.size 0 lo:Nat):Int)==0&&(1:Int)==1&&(NI items.size items.size hi-NI items.size 0 lo)==items.size)=true then _ else _) _ _ s;rw[M0 Vg,Bw]
 first
  | exact MW (m:=aaf _) (TX (M1 ⟨_,rfl,M1 h⟩) ZC)
  | exact MW (m:=aaf _) (TX (MW (M1 (M1 ⟨_,rfl,M1 h⟩))) ZC)
  | exact MW (MW (m:=aaf _) (TX (M1 (M1 ⟨_,rfl,M1 h⟩)) ZC))
  | exact MW (MW (m:=aaf _) (TX (M1 ⟨_,rfl,M1 h⟩) ZC))
end
end HT
namespace L2
open PySem PySem.Spec PyProof.Rows
abbrev TO:=St->Hp->(Option Int->Hp->Prop)->Prop
def PO (X:Cx)(e:Option Nn)(t:TO):Prop:=
 ∀(aa:List (A'×G')) (s:J') (σ:St) (H:Hp) (Q:Option Int->Hp->Prop),Inv X aa σ H s->t σ H Q->
  M3 (M8 X.prog X.w) X.A (evalPart e X.env) (λu s'=>∃o H',Inv X aa σ H' s'/\UW u o/\Q o H') X.xe s
def DV:TO:=λ_ H Q=>Q none H
def I0 (t:TE):TO:=λσ H Q=>t σ H λx H1=>∃i,x=.int i/\Q (some i) H1
theorem xW:∀{us:List D'},aL (ns.map V.int) us->RQ us ns:=by
 induction ns with
 | nil=>intro us r;rw[Zo] at r;cases r;exact .nil
 | cons n ns ih=>
  intro us r;rw[N7] at r;cases r with
  | cons r1 r2=>
   obtain⟨t,e⟩:=r1;subst e;exact .cons n t (ih r2)
section
theorem gY:PO X none DV:=by
 intro aa s σ H Q I h;rw[evalPart_none];exact M1 ⟨none,H,I,.none,h⟩
theorem gZ (h:PE X e te):PO X (some e) (I0 te):=by
 intro aa s σ H Q I hw;rw[evalPart_some];refine Nk (h aa s σ H _ I hw) λu s1 ⟨x,H1,I1,r1,q1⟩=>?_;obtain⟨i,rfl,q⟩:=q1;obtain⟨t,rfl⟩:=r1;exact⟨some i,H1,I1,.int i t,q⟩
def Z6 (X:Cx)(r:V->Option Int->Option Int->Hp->VK->Prop):Prop:=
 ∀(aa:List (A'×G')) (s:J') (σ:St) (H:Hp) (x:V) (v vl vu:D') (lo hi:Option Int) (sl:A') (Q:VK),Inv X aa σ H s->aI x v->s.heap.IsSliceOf sl vl vu .none->UW vl lo->UW vu hi->r x lo hi H Q->
  ∃T id,typeLookup (.type T) "__getitem__"=pure (some (.builtin id))/\s.TypeIs v T/\M3 (M8 X.prog X.w) X.A (getItem v (.ref sl)) (EP X aa σ Q) X.xe s
def tSl (r:V->Option Int->Option Int->Hp->VK->Prop)(te:TE)(tl th:TO):TE:=λσ H Q=>te σ H λx H1=>tl σ H1 λl H2=>th σ H2 λu H3=>r x l u H3 Q
variable {lo:Option Nn} in
theorem gf (hr:Z6 X r)(he:PE X e te)(hl:PO X lo tl)(hu:PO X hi th):PE X (.Subscript e (.Slice lo hi none p2) pos) (tSl r te tl th):=by
 intro aa s σ H Q I h;refine Subscript_ (Nk (he aa s σ H _ I h) λv s1 ⟨x,H1,I1,r1,q1⟩=>?_);refine wpAny_Slice (Nk (hl aa s1 σ H1 _ I1 q1) λvl s2 ⟨l,H2,I2,pl,q2⟩=>Nk (hu aa s2 σ H2 _ I2 q2) λvu s3 ⟨u,H3,I3,pu,q3⟩=>?_);rw[evalPart_none];refine M1 ?_;have I4:Inv X aa σ H3 { s3 with heap:=s3.heap.push { cls:=.type "slice",data:=.fields #[vl,vu,.none] } }:=I3.kept (t':=s3.toks) λb ob q=>NK _ q;obtain⟨T,id,hT,ht,hg⟩:=hr aa { s3 with heap:=s3.heap.push { cls:=.type "slice",data:=.fields #[vl,vu,.none] } } σ H3 x v vl vu l u s3.heap.objs.size Q I4 r1 (M4.IsSliceOf.new ..) pl pu q3;show M3 (M8 X.prog X.w) X.A (subscriptTail e (.Slice lo hi none p2) v (.ref s3.heap.objs.size)) (EP X aa σ Q) X.xe { s3 with heap:=s3.heap.push { cls:=.type "slice",data:=.fields #[vl,vu,.none] } };exact tail_any (ops:=[.ref s3.heap.objs.size,v]) ht hT hg (by with_unfolding_all rfl)
def cQ (xs:List V)(lo hi:Option Int):List V:=(xs.drop (HT.NI xs.length 0 lo)).take (HT.NI xs.length xs.length hi-HT.NI xs.length 0 lo)
theorem mL (xs)(lo hi):(cQ xs lo hi).length<=xs.length:=by
 unfold cQ;rw[Qb,Xl];lia
def Fj (K:MZ):V->Option Int->Option Int->Hp->VK->Prop:=λx lo hi H Q=>∃a xs,x=.ref a/\Ni K H a xs/\
 ¬(HT.NI xs.length 0 lo=0/\HT.NI xs.length xs.length hi=xs.length)/\∀p,H p=none->Q (.ref p) (upd H p (.tup (cQ xs lo hi)))
theorem nU:Z6 X (Fj X.K):=by
 intro aa s σ H x v vl vu lo hi sl Q I rx hs pl pu h;obtain⟨a,xs,rfl,hx,hw,q⟩:=h;cases rx;obtain⟨MY,r,ht,hz⟩:=I.tuple hx;have hlen:MY.toArray.size=xs.length:=by rw[Od];exact r.length.symm
 refine⟨"tuple",_,abO.lookup,ht.typeIs,?_⟩;refine HT.mI ht hs pl pu (by rw[hlen];exact hw) ?_ (by rw[hlen];exact hz);rw[hlen];refine⟨.ref s.heap.objs.size,_,I.laid (t':=s.toks) (o:=.tup (cQ xs lo hi)) (λb ob q=>NK _ q) (Nl _) ?_,rfl,q _ (I.Nf.fresh (Nl _))⟩;exact⟨Ph (mL xs lo hi) hz,_,(r.drop (HT.NI xs.length 0 lo)).take (HT.NI xs.length xs.length hi-HT.NI xs.length 0 lo),fh.new _ _⟩
def Ja (K:MZ):R2:=λx y H Q=>∃a b xs ys,x=.ref a/\y=.ref b/\Ni K H a xs/\Ni K H b ys/\xs≠[]/\xs.length+ys.length<=Nh/\
 (ys=[]->Q (.ref a) H)/\(ys≠[]->∀p,H p=none->Q (.ref p) (upd H p (.tup (xs++ys))))
theorem aL.abb (r:aL xs us):us=[]↔xs=[]:=by
 cases r with
 | nil=>simp
 | cons _ _=>simp
theorem wt:N4 X (binaryOp .Add) (Ja X.K):=by
 intro aa s σ H x y v u Q I rx ry h;obtain⟨a,b,xs,ys,rfl,rfl,ha,hb,hx,hz,q1,q2⟩:=h;cases rx;cases ry;obtain⟨MY,r1,p1,_⟩:=I.tuple ha;obtain⟨U3,r2,p2,_⟩:=I.tuple hb;refine HT.DU p1 p2 (λz=>hx (r1.abb.mp z)) (λz=>⟨.ref a,H,I,rfl,q1 (r2.abb.mp z)⟩) (λz=>?_) (by rw[<-r1.length,<-r2.length];exact hz);refine⟨.ref s.heap.objs.size,_,I.laid (t':=s.toks) (o:=.tup (xs++ys)) (λb ob q=>NK _ q) (Nl _) ?_,rfl,q2 (λw=>z (r2.abb.mpr w)) _ (I.Nf.fresh (Nl _))⟩;exact⟨by rw[Os];exact hz,_,r1.append r2,fh.new _ _⟩
end
def Wc (n:Nat)(i:Int):Option Nat:=if 0<=i then (if i<n then some i.toNat else none) else if -(n:Int)<=i then some (i+n).toNat else none
def Qj {α:Type}(xs:List α)(i:Int):Option α:=(Wc xs.length i).bind λj=>xs[j]?
theorem DX (h:Wc n i=some j):seqIndex? i n=some j/\j<n/\-(n:Int)<=i/\i<n:=by
 unfold Wc at h
 by_cases h0:0<=i
 .rw[M6 h0] at h
  by_cases h1:i<n
  .rw[M6 h1] at h;have e:i.toNat=j:=Rw h;exact⟨by rw[seqIndex_of h0 h1,e],by lia,by lia,h1⟩
  .rw[M0 h1] at h;cases h
 .rw[M0 h0] at h
  by_cases h1:-(n:Int)<=i
  .rw[M6 h1] at h;have e:(i+n).toNat=j:=Rw h;exact⟨by rw[seqIndex_neg (by lia) h1,e],by lia,h1,by lia⟩
  .rw[M0 h1] at h;cases h
theorem wu {α:Type}{xs:List α}{i:Int}{v:α}(h:Qj xs i=some v):∃j,seqIndex? i xs.length=some j/\xs[j]?=some v/\j<xs.length/\-(xs.length:Int)<=i/\i<xs.length:=by
 unfold Qj at h;cases e:Wc xs.length i with
 | none=>rw[e] at h;cases h
 | some j=>
  rw[e] at h;obtain⟨h1,h2,h3,h4⟩:=DX e;exact⟨j,h1,h,h2,h3,h4⟩
theorem cG {α:Type}{xs:List α}{j:Nat}{v:α}(h:xs[j]?=some v):Qj xs (j:Int)=some v:=by
 have hj:j<xs.length:=(OA.mp h).1;have e:Wc xs.length (j:Int)=some j:=by
  unfold Wc;rw[M6 (by lia),M6 (by lia)];simp
 unfold Qj;rw[e];exact h
def DY (b:Nn):Prop:=∀o i,subscripted b false o i=operate [o,i] (getItem o i)
def Np (X:Cx)(r:R2):Prop:=
 ∀(value slice:Nn) (aa:List (A'×G')) (s:J') (σ:St) (H:Hp) (x y:V) (v u:D') (Q:VK),Inv X aa σ H s->aI x v->aI y u->r x y H Q->
  subscripted slice false v u=operate [v,u] (getItem v u)->M3 (M8 X.prog X.w) X.A (subscriptTail value slice v u) (EP X aa σ Q) X.xe s
def MtR (X:Cx)(id:String)(r:V->List V->Hp->VK->Prop):Prop:=
 ∀(aa:List (A'×G')) (s:J') (σ:St) (H:Hp) (x:V) (xs:List V) (v:D') (us:List D') (Q:VK),Inv X aa σ H s->aI x v->aL xs us->r x xs H Q->
  M3 (M8 X.prog X.w) X.A (call (.builtin id) (v::us)) (EP X aa σ Q) X.xe s
section
theorem ay (hr:Np X r)(ha:PE X a ta)(hb:PE X b tb)(hs:DY b):PE X (.Subscript a b pos) (Tu r ta tb):=by
 intro aa s σ H Q I h;exact Subscript_ (Bn ha hb I h λv u s2 x y H2 I2 rx ry q=>hr a b aa s2 σ H2 x y v u Q I2 rx ry q (hs _ _))
def gM (K:MZ):R2:=λx y H Q=>∃p xs i v,x=.ref p/\y=.int i/\Nj K H p xs/\Qj xs i=some v/\Q v H
def aU (K:MZ):R2:=λx y H Q=>∃p xs i v,x=.ref p/\y=.int i/\Ni K H p xs/\Qj xs i=some v/\Q v H
theorem cL:Np X (gM X.K):=by
 intro value slice aa s σ H x y v u Q I rx ry h hs;obtain⟨p,xs,i,z,rfl,rfl,hq,he,q⟩:=h;cases rx;obtain⟨t,rfl⟩:=ry;obtain⟨MY,r,pl,hz⟩:=I.list hq;obtain⟨j,h1,h2,h3,h4,h5⟩:=wu he;obtain⟨w,ew,Sl⟩:=r.get h2;have hl:=r.length;have hn:=nS;have fin:EP X aa σ Q w s:=⟨z,H,I,Sl,q⟩
 by_cases h0:0<=i
 .have hj:i.toNat=j:=by
   rw[seqIndex_of h0 h5] at h1;exact Rw h1
  exact item_listR pl.isList h0 (by lia) (by rw[hj];simpa using ew) fin hs
 .have hj:(i+(MY.toArray.size:Int)).toNat=j:=by
   rw[seqIndex_neg (by lia) h4] at h1;rw[Od,<-hl];exact Rw h1
  exact subscriptTail_builtinR (x:=w) pl.isList.typeIs slot_list_getitem.lookup
   (wpAny_getItem_list_neg (Q:=λr s'=>r=w/\EP X aa σ Q r s') pl.isList (by lia) (by rw[Od] <;> lia) (by lia) (by rw[hj];simpa using ew) ⟨rfl,fin⟩) hs
theorem ax:Np X (aU X.K):=by
 intro value slice aa s σ H x y v u Q I rx ry h hs;obtain⟨p,xs,i,z,rfl,rfl,hq,he,q⟩:=h;cases rx;obtain⟨t,rfl⟩:=ry;obtain⟨MY,r,pl,hz⟩:=I.tuple hq;obtain⟨j,h1,h2,h3,h4,h5⟩:=wu he;obtain⟨w,ew,Sl⟩:=r.get h2;have hl:=r.length;have hn:=nS;have fin:EP X aa σ Q w s:=⟨z,H,I,Sl,q⟩
 exact subscriptTail_builtinR (x:=w) pl.typeIs slot_tuple_getitem.lookup
  (getItem_tuple (j:=j) (Q:=λr s'=>r=w/\EP X aa σ Q r s') pl (by lia) (by lia) (by rw[Od,<-hl];exact h1) (by simpa using ew) ⟨rfl,fin⟩) hs
theorem tD (lo hi)(n:Nat):(sliceBounds lo hi none n).1=((HT.NI n 0 lo:Nat):Int)/\(sliceBounds lo hi none n).2.1=((HT.NI n n hi:Nat):Int)/\(sliceBounds lo hi none n).2.2=1:=by
 refine⟨?_,?_,rfl⟩
 .cases lo with
  | none=>simp[sliceBounds,HT.NI]
  | some i=>
   simp only[sliceBounds,HT.NI,aeZ,show(1:Int) > 0 by decide,if_true]
   by_cases h:i<0
   .simp only[h,if_true] <;> lia
   .simp only[h,if_false] <;> lia
 .cases hi with
  | none=>simp[sliceBounds,HT.NI]
  | some i=>
   simp only[sliceBounds,HT.NI,aeZ,show(1:Int) > 0 by decide,if_true]
   by_cases h:i<0
   .simp only[h,if_true] <;> lia
   .simp only[h,if_false] <;> lia
theorem sr (MY:List D')(lo hi:Option Int):slicePick MY.toArray lo hi none=((MY.drop (HT.NI MY.length 0 lo)).take (HT.NI MY.length MY.length hi-HT.NI MY.length 0 lo)).toArray:=by
 obtain⟨h1,h2,h3⟩:=tD lo hi MY.toArray.size;unfold slicePick;rw[h1,h2,h3];simp only[sliceRange_one,pick_run,Od] <;> rfl
def J5 (K:MZ):V->Option Int->Option Int->Hp->VK->Prop:=λx lo hi H Q=>∃a xs,x=.ref a/\Nj K H a xs/\∀p,H p=none->Q (.ref p) (upd H p (.lst (cQ xs lo hi)))
theorem wv:Z6 X (J5 X.K):=by
 intro aa s σ H x v vl vu lo hi sl Q I rx hs pl pu h;obtain⟨a,xs,rfl,hx,q⟩:=h;cases rx;obtain⟨MY,r,ht,hz⟩:=I.list hx;have hlen:=r.length;refine⟨"list",_,slot_list_getitem.lookup,ht.isList.typeIs,?_⟩;refine wpAny_getItem_list_slice ht.isList hs pl pu .none (by simp) ?_ (by rw[Od] <;> lia);rw[sr,<-hlen];refine⟨.ref s.heap.objs.size,_,I.laid (t':=s.toks) (o:=.lst (cQ xs lo hi)) (λb ob q=>NK _ q) (Nl _) ?_,rfl,q _ (I.Nf.fresh (Nl _))⟩;exact⟨Ph (mL xs lo hi) hz,_,0,(r.drop (HT.NI xs.length 0 lo)).take (HT.NI xs.length xs.length hi-HT.NI xs.length 0 lo),OH _ rfl⟩
def dC:V->Bool
 | .Nr=>true
 | .bl _=>true
 | .int _=>true
 | .str _=>true
 | _=>false
def Qv:V->V->Bool
 | .Nr,.Nr=>true
 | .bl a,.bl b=>a==b
 | .bl a,.int b=>(if a then 1 else 0)==b
 | .int a,.bl b=>a==(if b then 1 else 0)
 | .int a,.int b=>a==b
 | .str a,.str b=>a==b
 | _,_=>false
theorem zp (ry:aI y u)(rx:aI x v)(fy:dC y=true)(fx:dC x=true):RP A s u v (Qv y x):=by
 cases y with
 | Nr=>
  cases ry;cases x with
  | Nr=>cases rx;exact Xm _
  | bl b=>cases rx;exact RP.none_bool b
  | int b=>obtain⟨t,rfl⟩:=rx;exact RP.none_int b t
  | str b=>obtain⟨t,rfl⟩:=rx;exact RP.none_str b t
  | _=>exact Nc (show false=true from fx) OZ
 | bl a=>
  cases ry;cases x with
  | Nr=>cases rx;exact RP.bool_none a
  | bl b=>cases rx;exact RP.bool_bool a b
  | int b=>obtain⟨t,rfl⟩:=rx;exact RP.bool_int a b t
  | str b=>obtain⟨t,rfl⟩:=rx;exact RP.bool_str a b t
  | _=>exact Nc (show false=true from fx) OZ
 | int a=>
  obtain⟨t',rfl⟩:=ry;cases x with
  | Nr=>cases rx;exact RP.int_none a t'
  | bl b=>cases rx;exact RP.int_bool a t' b
  | int b=>obtain⟨t,rfl⟩:=rx;exact aas a t' b t
  | str b=>obtain⟨t,rfl⟩:=rx;exact aeR a t' b t
  | _=>exact Nc (show false=true from fx) OZ
 | str a=>
  obtain⟨t',rfl⟩:=ry;cases x with
  | Nr=>cases rx;exact RP.str_none a t'
  | bl b=>cases rx;exact RP.str_bool a t' b
  | int b=>obtain⟨t,rfl⟩:=rx;exact aeS a t' b t
  | str b=>obtain⟨t,rfl⟩:=rx;exact RP.str_str a t' b t
  | _=>exact Nc (show false=true from fx) OZ
 | _=>exact Nc (show false=true from fy) OZ
def Qw (x:V)(u:D'):Bool:=match u with
 | .none=>Qv .Nr x
 | .bool b=>Qv (.bl b) x
 | .int i _=>Qv (.int i) x
 | .str z _=>Qv (.str z) x
 | _=>false
theorem tE (r:aI y u)(f:dC y=true):Qw x u=Qv y x:=by
 cases y with
 | Nr=>cases r;rfl
 | bl b=>cases r;rfl
 | int i=>obtain⟨t,rfl⟩:=r;rfl
 | str z=>obtain⟨t,rfl⟩:=r;rfl
 | _=>exact Nc (show false=true from f) OZ
theorem jp:∀{xs:List V}{us:List D'},aL xs us->xs.all dC=true->us.any (Qw x)=xs.any λy=>Qv y x
 | _,_,.nil,_=>rfl
 | y::xs,u::us,.cons r t,f=>by
  rw[Zl,Rc] at f;rw[Td,Td,tE r f.1,jp t f.2]
theorem gh (rx:aI x v)(fx:dC x=true):∀{xs:List V}{us:List D'},aL xs us->xs.all dC=true->∀u∈us,RP A s u v (Qw x u)
 | _,_,.nil,_=>λu hu=>by cases hu
 | y::xs,u::us,.cons r t,f=>λu' hu=>by
  rw[Zl,Rc] at f;rcases NG.mp hu with rfl|hu
  .rw[tE r f.1];exact zp r rx f.1 fx
  .exact gh rx fx t f.2 u' hu
def We (x:V)(xs:List V):Bool:=xs.any λy=>Qv y x
def Tw (K:MZ)(neg:Bool):R2:=λx y H Q=>∃p xs,y=.ref p/\(Nj K H p xs\/Ni K H p xs)/\dC x=true/\xs.all dC=true/\Q (.bl (if neg then !We x xs else We x xs)) H
theorem fH:N4 X (Ps .In) (Tw X.K false):=by
 intro aa s σ H x y v u Q I rx ry h;obtain⟨p,xs,rfl,hq,fx,fs,q⟩:=h;cases ry;rcases hq with hq|hq
 .obtain⟨MY,r,pl,hz⟩:=I.list hq;refine SeqAt.in_listAt (Qw x) pl.isList (λw hw=>gh rx fx r fs w (by simpa using hw)) ⟨.bl _,H,I,rfl,?_⟩;rw[show MY.toArray.any (Qw x)=MY.any (Qw x) by simp,jp r fs];exact q
 .obtain⟨MY,r,pl,hz⟩:=I.tuple hq;refine SeqAt.in_tupleAt (Qw x) pl (λw hw=>gh rx fx r fs w (by simpa using hw)) ⟨.bl _,H,I,rfl,?_⟩;rw[show MY.toArray.any (Qw x)=MY.any (Qw x) by simp,jp r fs];exact q
theorem tF:N4 X (Ps .NotIn) (Tw X.K true):=by
 intro aa s σ H x y v u Q I rx ry h;obtain⟨p,xs,rfl,hq,fx,fs,q⟩:=h;cases ry;rcases hq with hq|hq
 .obtain⟨MY,r,pl,hz⟩:=I.list hq;refine aeU (Qw x) pl.isList (λw hw=>gh rx fx r fs w (by simpa using hw)) ⟨.bl _,H,I,rfl,?_⟩;rw[show MY.toArray.any (Qw x)=MY.any (Qw x) by simp,jp r fs];exact q
 .obtain⟨MY,r,pl,hz⟩:=I.tuple hq;refine aeH (Qw x) pl (λw hw=>gh rx fx r fs w (by simpa using hw)) ⟨.bl _,H,I,rfl,?_⟩;rw[show MY.toArray.any (Qw x)=MY.any (Qw x) by simp,jp r fs];exact q
theorem bd:cK X (.builtin "len") (λxs H Q=>∃p ys,xs=[.ref p]/\(Nj X.K H p ys\/Ni X.K H p ys)/\Q (.int ys.length) H):=by
 intro aa s σ H xs us Q I r h;obtain⟨p,ys,rfl,hq,q⟩:=h;obtain⟨u,rfl,rx⟩:=dm r;cases rx;have hn:=nS;rcases hq with hq|hq
 .obtain⟨MY,r',pl,hz⟩:=I.list hq;have hlen:=r'.length;exact Calls.call_len_list pl.isList (by simp only[Od] <;> lia) ⟨.int ys.length,H,I.tok _,⟨s.toks+1,by rw[Od,hlen]⟩,q⟩
 .obtain⟨MY,r',pl,hz⟩:=I.tuple hq;have hlen:=r'.length;exact len_tuple pl (by simp only[Od] <;> lia) ⟨.int ys.length,H,I.tok _,⟨s.toks+1,by rw[Od,hlen]⟩,q⟩
theorem tG:cK X (.type "list") (λxs H Q=>∃p ys,xs=[.ref p]/\(Nj X.K H p ys\/Ni X.K H p ys)/\∀l,H l=none->Q (.ref l) (upd H l (.lst ys))):=by
 intro aa s σ H xs us Q I r h;obtain⟨p,ys,rfl,hq,q⟩:=h;obtain⟨u,rfl,rx⟩:=dm r;cases rx;have fin:∀(MY:List D'),aL ys MY->ys.length<=Nh->∀(h':M4) (c':Nat),(∀b o',s.heap.get? b=some o'->h'.get? b=some o')->
   h'.get? s.heap.objs.size=some { cls:=.type "list",dict:=none,data:=.seq MY.toArray c',slots:=#[] }->EP X aa σ Q (.ref s.heap.objs.size) { s with heap:=h' }:=λMY r' hz h' c' kp e=>
  ⟨.ref s.heap.objs.size,_,I.laid (t':=s.toks) kp (Nl _) (show bz X.prog X.w _ h' _ (.lst ys) from⟨hz,MY,c',r',e⟩),rfl,q _ (I.Nf.fresh (Nl _))⟩
 rcases hq with hq|hq
 .obtain⟨MY,r',pl,hz⟩:=I.list hq;have hlen:=r'.length;obtain⟨o,ho,hc,n,hd⟩:=pl.isList;exact call_list_seq p (.inl rfl) ho hc hd (λh' c' kp e=>fin MY r' hz h' c' kp e) (by simp only[Od] <;> lia)
 .obtain⟨MY,r',pl,hz⟩:=I.tuple hq;have hlen:=r'.length;obtain⟨o,ho,hc,n,hd⟩:=pl;exact call_list_seq p (.inr rfl) ho hc hd (λh' c' kp e=>fin MY r' hz h' c' kp e) (by simp only[Od] <;> lia)
theorem dA:cK X (.type "tuple") (λxs H Q=>∃p ys,xs=[.ref p]/\((Nj X.K H p ys/\∀l,H l=none->Q (.ref l) (upd H l (.tup ys)))\/(Ni X.K H p ys/\Q (.ref p) H))):=by
 intro aa s σ H xs us Q I r h;obtain⟨p,ys,rfl,h⟩:=h;obtain⟨u,rfl,rx⟩:=dm r;cases rx;rcases h with⟨hq,q⟩|⟨hq,q⟩
 .obtain⟨MY,r',pl,hz⟩:=I.list hq;have hlen:=r'.length;refine call_tuple_list pl.isList (λh' kp=>?_) (by simp only[Od] <;> lia);have I1:Inv X aa σ H { s with heap:=h' }:=I.kept (t':=s.toks) kp;have I2:Inv X aa σ (upd H h'.objs.size (.tup ys)) { s with heap:=h'.push { cls:=.type "tuple",data:=.seq MY.toArray } }:=
   I1.laid (t':=s.toks) (λb o e=>NK _ e) (Nl _) (show bz X.prog X.w _ _ _ (.tup ys) from⟨hz,MY,r',fh.new _ _⟩)
  exact⟨.ref h'.objs.size,_,I2,rfl,q _ (I1.Nf.fresh (Nl _))⟩
 .obtain⟨MY,r',pl,hz⟩:=I.tuple hq;exact call_tuple_same pl ⟨.ref p,H,I,rfl,q⟩
def tyV (K:MZ)(T:String)(x:V)(H:Hp):Prop:=match x with
 | .str _=>T="str"
 | .int _=>T="int"
 | .ref p=>(T="list"/\∃xs,Nj K H p xs)\/(T="tuple"/\∃o,K.lookup p=some o/\o.cls=.type "tuple"/\o.dict=none)\/
   (T="dict"/\((∃kvs,H p=some (.dK kvs))\/∃kvs,H p=some (.dT kvs)))\/(T="set"/\∃S n,H p=some (.set S n))
 | _=>False
theorem Fl {σ:St}(I:Inv X aa σ H s)(r:aI x v)(ty:tyV X.K T x H):
  s.TypeIs v T/\∀a,v=.ref a->∃ob,s.heap.get? a=some ob/\ob.dict=none:=by
 cases x with
 | str z=>
  obtain⟨t,rfl⟩:=r;cases (show T="str" from ty);exact⟨typeIs_str s z t,λ_ e=>nomatch e⟩
 | int i=>
  obtain⟨t,rfl⟩:=r;cases (show T="int" from ty);exact⟨aa4 s i t,λ_ e=>nomatch e⟩
 | ref p=>
  cases r;rcases ty with⟨rfl,xs,hq⟩|⟨rfl,o,hk,hc,hd⟩|⟨rfl,hk⟩|⟨rfl,S,n,hk⟩
  .obtain⟨MY,_,pl,_⟩:=I.list hq;refine⟨pl.isList.typeIs,λa e=>?_⟩;cases e;obtain⟨o,n,e,c,hd,_⟩:=pl;exact⟨o,e,hd⟩
  .refine⟨⟨o,I.Ox p o hk,hc⟩,λa e=>?_⟩;cases e;exact⟨o,I.Ox _ o hk,hd⟩
  .have z:∃o,s.heap.get? p=some o/\o.ExactDict:=by
    rcases hk with⟨kvs,hk⟩|⟨kvs,hk⟩
    .obtain⟨_,_,_,_,o,_,_,e,ex,_⟩:=I.Nf p _ hk;exact⟨o,e,ex⟩
    .obtain⟨_,_,_,_,o,_,_,e,ex,_⟩:=I.Nf p _ hk;exact⟨o,e,ex⟩
   obtain⟨o,e,ex⟩:=z;refine⟨⟨o,e,ex.1⟩,λa e2=>?_⟩;cases e2;exact⟨o,e,ex.2.1⟩
  .obtain⟨o,_,_,_,e,ex,_⟩:=I.Nf p _ hk;refine⟨⟨o,e,ex.1⟩,λa e2=>?_⟩;cases e2;exact⟨o,e,ex.2.1⟩
 | _=>exact P3 ty
def tBM (K:MZ)(T:String)(r:V->List V->Hp->VK->Prop)(to:TE)(t:TA):TE:=λσ H Q=>to σ H λx H1=>tyV K T x H1/\t σ H1 λxs H2=>r x xs H2 Q
variable {X:Cx}{o:Nn}{e:Nn}{es:List Nn}{to:TE}{t:TA}{name:MV}{apos:NS}{O6:NS}{T:String}{id:String}{r:V->List V->Hp->VK->Prop} in
theorem gR (pa:PlainAttrs T)(slot:Slot T name id)(hty:typeOf (.builtin id)=pure (.type "method_descriptor"))(hm:MtR X id r)(ho:PE X o to)(ha:PA X (e::es) t)(abi:attributeBase o name X.env (eval o X.env)=eval o X.env:=by rfl)(abr:((backTo O6 (Ob (e::es) X.env)).all (λx=>!x.1)&&(backToKw O6 (keywordEach [] X.env)).all (λx=>x.1.isSome)
   && decide ((e::es).length+([]:List V4).length+(if ([]:List V4).isEmpty then 0 else 1)<30))=true:=by rfl)(abj:(apos.endLine==O6.line)=true:=by rfl)(hs:Ob (e::es) X.env=(false,eval e X.env)::Ob es X.env:=by rfl)(abd:(backTo O6 (Ob es X.env)).any (·.1)=false:=by rfl):
  PE X (.Call (.Attribute o name apos) (e::es) [] O6) (tBM X.K T r to t):=by
 intro aa s σ H Q I h;refine wpAny_Call_method_late abi abr abj rfl (Nk (ho aa s σ H _ I h) λv s1 ⟨x,H1,I1,r1,ty,q1⟩=>?_);obtain⟨h1,h2⟩:=Fl I1 r1 ty;refine⟨T,id,pa,slot,hty,h1,h2,?_⟩;have hA:=ha O6 aa s1 σ H1 _ I1 q1;rw[hs] at hA ⊢;refine ab7 (by show(false||(backTo O6 (Ob es X.env)).any (·.1))=false;rw[abd] <;> rfl) (aan ?_);exact Nk hA λus s2 ⟨vs,H2,I2,r2,q2⟩=>hm aa s2 σ H2 x vs v us Q I2 r1 r2 q2
end
def Z7 (X:Cx)(id:String)(r:V->List V->Hp->VK->Prop):Prop:=
 ∀(aa:List (A'×G')) (s:J') (σ:St) (H:Hp) (x:V) (xs:List V) (v:D') (us:List D') (Q:VK),Inv X aa σ H s->aI x v->aL xs us->r x xs H Q->
  M3 (M8 X.prog X.w) X.A (call (.builtin id) (v::us)) (EP X aa σ Q) X.xe s
theorem aL.one:∀{x:V}{us:List D'},aL [x] us->∃u,us=[u]/\aI x u
 | _,_,.cons r .nil=>⟨_,rfl,r⟩
theorem aL.two:∀{x y:V}{us:List D'},aL [x,y] us->∃u v,us=[u,v]/\aI x u/\aI y v
 | _,_,_,.cons r (.cons q .nil)=>⟨_,_,rfl,r,q⟩
theorem aL.rep (h:aL xs us):∀k:Nat,aL (OJ k xs).flatten (OJ k us).flatten
 | 0=>.nil
 | k+1=>by
  rw[VJ,VJ,Y6,Y6];exact aL.append h (aL.rep h k)
theorem qE (MY):∀(k:Nat) (acc:List D'),
  aa5 (λx1 x2=>x1++x2) acc.toArray (OJ k MY.toArray)=(acc++(OJ k MY).flatten).toArray
 | 0,acc=>by simp
 | k+1,acc=>by
  have e:acc.toArray++MY.toArray=(acc++MY).toArray:=by simp
  have e2:(acc++MY)++(OJ k MY).flatten=acc++(OJ (k+1) MY).flatten:=by
   rw[VJ,Y6,VM]
  rw[<-e2,<-qE MY k (acc++MY),<-e,VJ,VO]
section
variable {X:Cx}{aa:List (A'×G')}{σ:St}{H:Hp}{s:J'}{l:A'}{xs:List V}{ys:List V} in
theorem Inv.afw {MY its':List D'}{n:Nat}{f:Array D'->Array D'}{t':Nat}(I:Inv X aa σ H s)(hH:H l=some (.lst xs))(e:s.heap.get? l=some { cls:=.type "list",data:=.seq MY.toArray n })(hf:f MY.toArray=its'.toArray)(hv:aL ys its')(hz:ys.length<=Nh):
  Inv X aa σ (upd H l (.lst ys)) { s with heap:=s.heap.update l (PP f),toks:=t' }:=by
 have q:=PySem.IsL.update e f;rw[hf] at q;refine I.write (x:=l) (e:=l) (by rw[hH];exact trivial) (.inl rfl) (λb' u hb hu=>(WZ s.heap (PP f) (N1 hb)).trans hu) ⟨_,q⟩ ?_;exact⟨hz,its',_,hv,q⟩
variable {σ:St} in
theorem Inv.adu {t':Nat}(I:Inv X aa σ H s)(hv:aL ys MY)(hz:ys.length<=Nh):
  Inv X aa σ (upd H s.heap.objs.size (.lst ys)) { s with heap:=s.heap.push { cls:=.type "list",data:=.seq MY.toArray },toks:=t' }:=
 I.laid (λ_ _ q=>NK _ q) (Nl _) ⟨hz,MY,0,hv,OH _ rfl⟩
variable {σ:St} in
theorem Inv.fresh (I:Inv X aa σ H s):H s.heap.objs.size=none:=I.Nf.fresh (Nl _)
variable {σ:St} in
theorem Inv.ZI (I:Inv X aa σ H s)(hH:H l=some (.lst xs)):xs.length<=Nh/\∃(MY:List D') (n:Nat),aL xs MY/\xs.length=MY.length/\s.heap.get? l=some { cls:=.type "list",data:=.seq MY.toArray n }:=by
 obtain⟨z,MY,n,r,e⟩:=I.Nf l _ hH;exact⟨z,MY,n,r,r.length,e⟩
theorem Bx (h:n<=Nh):ab1 n=false:=by
 unfold ab1;exact Ny (by lia)
end
section
def DZ:V->List V->Hp->VK->Prop:=λx vs H Q=>∃l xs y,x=.ref l/\vs=[y]/\H l=some (.lst xs)/\xs.length<Nh/\Q .Nr (upd H l (.lst (xs++[y])))
theorem eP:Z7 X "list.append" DZ:=by
 intro aa s σ H x vs v us Q I rx rv h;obtain⟨l,xs,y,rfl,rfl,hH,hz,q⟩:=h;cases rx;obtain⟨u,rfl,ru⟩:=rv.one;obtain⟨z,MY,n,r,hl,e⟩:=I.ZI hH;refine Xv F.slot_list_append ⟨_,e,rfl⟩ F.entry_list_append (F.args_list_append_2 _ _) (PySem.list_append l MY.toArray n u (by rw[Od];lia)) ⟨e,?_⟩;refine⟨.Nr,_,I.afw (its':=MY++[u]) hH e (by simp) (r.append (.cons ru .nil)) ?_,rfl,q⟩;rw[Os,acb];lia
def J6:R2:=λx y H Q=>∃l b xs zs,x=.ref l/\y=.ref b/\H l=some (.lst xs)/\H b=some (.lst zs)/\xs.length+zs.length<=Nh/\∀p,H p=none->Q (.ref p) (upd H p (.lst (xs++zs)))
theorem Fm:N4 X (binaryOp .Add) J6:=by
 intro aa s σ H x y v u Q I rx ry h;obtain⟨l,b,xs,zs,rfl,rfl,hH,hB,hz,q⟩:=h;cases rx;cases ry;obtain⟨z,MY,n,r,hl,e⟩:=I.ZI hH;obtain⟨z2,U3,n2,r2,OD,e2⟩:=I.ZI hB;refine PySem.P.add_list e e2 ?_ (by rw[Od,Od];lia);have ea:MY.toArray++U3.toArray=(MY++U3).toArray:=by simp
 rw[ea];exact⟨.ref _,_,I.adu (t':=s.toks) (r.append r2) (by rw[Os];lia),rfl,q _ I.fresh⟩
def J7:R2:=λx y H Q=>∃l k xs,x=.ref l/\y=.int k/\H l=some (.lst xs)/\-(2 ^ 63)<=k/\k<2 ^ 63/\xs.length*k.toNat<=Nh/\
 ∀p,H p=none->Q (.ref p) (upd H p (.lst (OJ k.toNat xs).flatten))
theorem D3 {α:Type}(xs:List α)(k:Nat):(OJ k xs).flatten.length=k*xs.length:=by
 induction k with
 | zero=>simp
 | succ k ih=>rw[VJ,Y6,Os,ih,ac2,Nat.add_comm]
theorem Fn:N4 X (binaryOp .Mult) J7:=by
 intro aa s σ H x y v u Q I rx ry h;obtain⟨l,k,xs,rfl,rfl,hH,h1,h2,hz,q⟩:=h;cases rx;obtain⟨t,rfl⟩:=ry;obtain⟨z,MY,n,r,hl,e⟩:=I.ZI hH;have hlen:MY.toArray.size*k.toNat<=Nh:=by rw[Od,<-hl];exact hz
 have afx:¬MY.toArray.size*k.toNat > (2 ^ 63-1) / 8:=by
  have:(Nh:Nat)<=(2 ^ 63-1) / 8:=by decide
  lia
 have afy:¬(!P4.List.listFitsIndex k)=true:=by
  rw[fitsIndex_both h1 h2];exact OZ
 have aff:¬ab1 (MY.toArray.size*k.toNat)=true:=by
  rw[Bx hlen];exact OZ
 have XM:aa5 (λx1 x2=>x1++x2) #[] (OJ (if MY.toArray.isEmpty=true then 0 else k.toNat) MY.toArray)=(OJ k.toNat MY).flatten.toArray:=by
  have f0:∀m:Nat,aa5 (λx1 x2=>x1++x2) #[] (OJ m MY.toArray)=(OJ m MY).flatten.toArray:=λm=>by
   have:=qE MY m [];rw[List.nil_append] at this;exact this
  rw[f0];cases MY with
  | nil=>simp
  | cons a r'=>rw[M0 (by simp)]
 refine wpAny_binaryOp_repeat_ref (T:="list") (U:="int") (by decide) ⟨_,e,rfl⟩ (λs'=>aa4 s' k t) noFill_list_mul F.fills_int_mul F.slot_int_rmul repeat_list F.slot_int_index.lookup
  (Xv F.slot_int_rmul (aa4 s k t) F.entry_int_rmul (F.args_int_rmul_2 _ _) (int___rmul___int_list k t l MY.toArray n)
   ⟨e,rfl,⟨_,e,rfl⟩,Xv F.slot_list_mul ⟨_,e,rfl⟩ F.entry_list_mul (F.args_list_mul_2 _ _) (AutoListH.list___mul___list_int_3 l MY.toArray n k t afy afx aff) ⟨e,?_⟩⟩)
 rw[XM];exact⟨.ref _,_,I.adu (t':=s.toks) (r.rep k.toNat) (by rw[D3,Nat.mul_comm];exact hz),rfl,q _ I.fresh⟩
end
section
set_option maxRecDepth 100000 in
end
section
end
end L2
namespace Att
open PySem PySem.W PySem.Calls PyProof.Rows
theorem nV:∀(ns:List Int) (vs:List D'),WellAll P h vs (ns.map WData.int)->RQ vs ns:=by
 intro ns
 induction ns with
 | nil=>
  intro vs w;rw[Zo] at w;cases w;exact .nil
 | cons n ns ih=>
  intro vs w;rw[N7] at w;cases w with
  | cons a b=>
   cases a;exact .cons _ _ (ih _ b)
theorem zq {l:OpenLaw}(hn:l.most=some n)(ZJ:l.row.toRowW.claim.pre args=true)(hwl:WellAll P h vals args):
  ∃a vs ns,vals=[NQ a]/\args=[WData.list (ns.map WData.int)]/\h.get? a=some { cls:=.type "list",data:=.seq vs.toArray }/\RQ vs ns/\ns.length<=n:=by
 have hsh:WShape.hasAll [] args [.list .int]=true:=(pre_splitW ZJ).1;have hc:l.pre.holds [] { args:=args }=true:=(pre_splitW ZJ).2;obtain⟨d,r,rfl,h1,h2⟩:=hasAllW_cons hsh;obtain rfl:=hasAllW_nil h2;obtain⟨xs,rfl,h3⟩:=hasW_list h1;obtain⟨ns,rfl⟩:=aa6 h3;have hlen:ns.length<=n:=by
  unfold OpenLaw.pre at hc;have h4:(WTm.not (.lt (.lit (.int (n:Int))) (.len (.arg 0)))).holds [] { args:=[.list (ns.map .int)] }=true:=by
   have h4:=(holds_andW hc).1;rw[hn] at h4;exact h4
  have h5:=condW_of h4 (w_not (w_lt w_lit (w_len_list (w_arg rfl))));rw[NT] at h5;refine acy λq=>?_;have q':(n:Int)<((ns.length:Nat):Int):=by lia
  first
   | (rw[Nz q'] at h5;exact Nc h5 (by decide))
   | (simp at h5;lia)
 cases hwl with
 | cons w1 w2=>
  cases w2;cases w1 with
  | list ho Qu=>exact⟨_,_,ns,rfl,rfl,ho,nV ns _ Qu,hlen⟩
theorem zt (l:OpenLaw)(args:List WData):l.row.toRowW.claim.post args (.bool true) args=true:=
 postW_of (r:=l.row.toRowW) (X:=(true==true))
  (show WShape.has [] (.bool true) .bool=true by first|rfl|decide|simp[WShape.has,WShape.arms,WShape.armsAll])
  (show(WTm.eq .res (.lit (.bool true))).value [] { args:=args,res:=some (.bool true),after:=args }=some (.bool (true==true)) from w_eq_bool (w_res rfl) w_lit) rfl
theorem vO {l:OpenLaw}(hn:l.most=some n)(X9:d.params.defaults=[])(call:∀(w:M7) (OU Nw:J') (mg mb:MV->Option D') (fa:A') (o:G') (pm cd doc:D') (a:A') (vs:List D') (ns:List Int),
   Ground q loose [] XP w OU mg mb Nw.heap->YP w Nw.heap->
   Nw.heap.get? fa=some o->o.data=.func (docDef d.name d.params d.body d.scope pm cd doc)->Nw.heap.CodeRec cd d.name->mg d.name=some (.ref fa)->
   Nw.heap.get? a=some { cls:=.type "list",data:=.seq vs.toArray }->RQ vs ns->ns.length<=n->Nw.gens=#[]->
   codeAny (M8 l.prog w) callerA (.call (.ref fa) ⟨[.ref a],[]⟩) (λr s'=>r=.ok (.ret (.bool true))/\OldK Nw.heap s'.heap/\s'.os=Nw.os/\Ti s'.gens) Nw):
  WalkO q loose XP YP l.row.toRowW d [] (λf vs=>ac7 f vs):=by
 intro w OU Nw mg mb G Y fa o pm cd doc dV kV ho hd Pq hD X' hg args vals as ZJ agj hrd hwl Yb;obtain rfl:dV=.none:=Dflts.none hD X9;obtain rfl:kV=.none:=Dflts.noKw hD;obtain⟨a,vs,ns,rfl,rfl,abt,hints,hlen⟩:=zq hn ZJ hwl;refine enter_call (T5 (call w OU Nw mg mb fa o pm cd doc a vs ns G Y ho (fd_plain hd) Pq X' abt hints hlen hg) λr s' hq=>?_);obtain⟨rfl,h2,h3,h4⟩:=hq;exact⟨.inl ⟨.bool true,.bool true,[],rfl,λ_=>rfl,.bool true,zt l _,λ_=>⟨UM,λ_ hm=>(nomatch hm)⟩⟩,h2,h3,h4⟩
section
end
end Att
namespace L2
open PySem PySem.Spec PyProof.Rows
theorem iP:∀{vs:List D'}{ns:List Int},RQ vs ns->aL (ns.map V.int) vs
 | _,_,.nil=>.nil
 | _,_,.cons n t h=>.cons ⟨t,rfl⟩ (iP h)
def dS (s:M'):V3:=match s with
 | .FunctionDef _ a _ _ _ _ _ _ _ _=>a
 | _=>{ posonlyargs:=[],args:=[],vararg:=none,kwonlyargs:=[],kw_defaults:=[],kwarg:=none,defaults:=[] }
def cH (s:M'):List M':=match s with
 | .FunctionDef _ _ b _ _ _ _ _ _ _=>b
 | _=>[]
def am (s:M'):PX:=match s with
 | .FunctionDef _ _ _ _ _ _ sc _ _ _=>sc
 | _=>{ kind:=.function,names:=[],isGenerator:=false,isCoroutine:=false }
abbrev Nb:PU:=λ_ _ _ _ _ _=>False
abbrev E0:XK:=λ_ _ _=>False
theorem lH:jn Nb X E0:=λ_ _ _ _ _ _ _ h=>h.elim
structure NE (K)(x qual)(st)(f)(fd):Prop where
 ex:∃(oc:D') (od:Option A') (kV doc pm:D') (an:Option A') (No ct:D') (Qi:Array (Option D')),
  fd=Tj x qual (dS st) (cH st) (am st) .none kV doc pm an No ct/\K.lookup f=some ⟨oc,od,.func fd,Qi⟩/\Zv K No qual=true
 kp:R8 K (.ref f)=true
section
variable {P:Ng}{w:M7}{K:MZ}{mg:MV->Option D'}{base:M4} in
theorem NE.ok {x qual:MV}{st:M'}{f:A'}{fd:Nt}{N ps:List MV}{k:Nat}{sp:Sp}(F:NE K x qual st f fd)(S:N3 N ps (am st))(len:∀vs H Q E,sp vs H Q E->vs.length=ps.length)(Tm:∀(No:D') (A:Nv) (outer:List OV) (s:J') (H:Hp) (vs:List V) (Q:VK) (E:XK),MX k (A.deeper (envOfC qual (am st) s.heap.objs.size f No))->sp vs H Q E->
   ∃t,Rk (eO Nb P w K mg base N qual (am st) f No A outer s H E).QJ (cH st) t/\t { nx:=λ_ H'=>Q .Nr H',rt:=Q } (gz N vs) H):Nq P w K mg base Nb (k+1) f fd ps sp:=by
 obtain⟨oc,od,kV,doc,pm,an,No,ct,Qi,rfl,lk,Pq⟩:=F.ex;refine xT lk Pq S len λA outer s H vs Q E hr NW=>?_;obtain⟨t,h,q⟩:=Tm No A outer s H vs Q E hr NW;exact⟨t,h.QJ,q⟩
variable {K:MZ} in
theorem NE.binds {x qual:MV}{st:M'}{f:A'}{fd:Nt}{ps:List MV}(F:NE K x qual st f fd)(h:∀(kV doc pm:D') (an:Option A') (No ct:D') (us:List D'),us.length=ps.length->bindArgs (Tj x qual (dS st) (cH st) (am st) .none kV doc pm an No ct) ⟨us,[]⟩=pure (ps.zip us)):bH K fd ps []:=by
 obtain⟨oc,od,kV,doc,pm,an,No,ct,Qi,rfl,lk,Pq⟩:=F.ex;exact .all (h kV doc pm an No ct)
variable {K:MZ} in
theorem zu {x qual:MV}{st:M'}{f:A'}{oc:D'}{od an:Option A'}{Qi:Array (Option D')}{kV doc pm No ct:D'}(l:K.lookup f=some ⟨oc,od,.func (Tj x qual (dS st) (cH st) (am st) .none kV doc pm an No ct),Qi⟩)(c:Zv K No qual=true)(k:R8 K (.ref f)=true):NE K x qual st f (Tj x qual (dS st) (cH st) (am st) .none kV doc pm an No ct):=⟨⟨oc,od,kV,doc,pm,an,No,ct,Qi,rfl,l,c⟩,k⟩
end
theorem sA (hr:MX k A):A.units+1<ND:=acm (Nat.add_le_add_left (by decide:1<=64) _) hr.units
section
theorem pv (i:Nat)(hN:X.N[i]?=some x:=by rfl)(hv:ZW X.env.scope x:=by first|exact NB rfl|exact N' (NB rfl)|exact N' (N' rfl))(hd:(x==("__debug__":MV))=false:=by decide)(Pq:(x==("__classdict__":MV))=false:=by decide):PE X (.Name x pos) (dL i):=y7 hN hv hd Pq
end
theorem aA {A B:Prop}(h:B):if false=true then A else B:=by
 rw[M0 OZ];exact h
theorem aZ {A B:Prop}(h:A):if true=true then A else B:=by
 rw[M6 rfl];exact h
theorem pD {c A B:Prop}[Decidable c](h1:c->A)(h2:¬c->B):if c then A else B:=by
 by_cases h:c
 .rw[M6 h];exact h1 h
 .rw[M0 h];exact h2 h
def aB (H H':Hp):Prop:=∀b o,H b=some o->H' b=some o
theorem aB.refl (H):aB H H:=λ_ _ h=>h
theorem aB.trans (a:aB H H1)(b:aB H1 H2):aB H H2:=λc o h=>b c o (a c o h)
theorem aB.free (e:aB H H')(h:H' l=Option.none):H l=Option.none:=by
 cases q:H l with
 | none=>rfl
 | some o=>
  rw[e l o q] at h;cases h
end L2
set_option maxHeartbeats 4000000
namespace L2
open PySem PySem.Spec PyProof.Rows
theorem zv (x:bz P w H h a o):∃u,h.get? a=some u:=by
 cases o with
 | lst xs=>obtain⟨_,_,_,_,e⟩:=x;exact⟨_,e⟩
 | tup xs=>obtain⟨_,_,_,_,e,_⟩:=x;exact⟨_,e⟩
 | dK kvs=>obtain⟨_,_,_,_,o,_,_,e,_⟩:=x;exact⟨_,e⟩
 | dT kvs=>obtain⟨_,_,_,_,o,_,_,e,_⟩:=x;exact⟨_,e⟩
 | set S n=>obtain⟨o,_,_,_,e,_⟩:=x;exact⟨_,e⟩
 | ins C dx fs=>obtain⟨_,_,_,e,_⟩:=x;exact⟨_,e⟩
 | own y=>obtain⟨_,e⟩:=x;exact⟨_,e⟩
 | xd fs=>obtain⟨_,⟨_,_,_,e,_⟩,_⟩:=x;exact⟨_,e⟩
 | RB lo hi=>obtain⟨_,_,_,e⟩:=x;exact⟨_,e⟩
 | Oq ob u=>obtain⟨e,_⟩:=x;exact⟨_,e⟩
 | PR ps=>exact⟨_,show h.get? a=some _ from x⟩
 | met f y=>exact⟨_,show h.get? a=some _ from x⟩
 | ext φ=>obtain⟨_,⟨_,e⟩,_⟩:=x;exact⟨_,e⟩
def Z8 (h:M4)(e:A')(cls:D')(T:A'):Prop:=
 ∃a0 oe vs oT ts,h.get? e=some oe/\(oe.cls=cls/\vs[0]?=some a0)/\oe.data=.fields vs/\vs[1]?=some (.ref T)/\T≠e/\h.get? T=some oT/\oT.data=.fields ts/\ts[3]?=some .none
theorem Z8.ae8 (x:Z8 h e cls T)(hT:B.get? T=none):∃a0,h.TracedW B e cls a0:=by
 obtain⟨a0,oe,vs,oT,ts,x1,x2,x3,x4,x5,x6⟩:=x;exact⟨a0,oe,vs,T,oT,ts,x1,x2,x3,x4,hT,x5,x6⟩
theorem Fo (x:h.TracedW B e cls a0):∃T,Z8 h e cls T/\B.get? T=none:=by
 obtain⟨oe,vs,T,oT,ts,x1,x2,x3,x4,hT,x5,x6⟩:=x;exact⟨T,⟨a0,oe,vs,oT,ts,x1,x2,x3,x4,x5,x6⟩,hT⟩
structure Fly (h0:M4)(H:Hp)(e:A')(cls:D')(h:M4):Prop where
 new:h0.get? e=none
 free:H e=none
 tr:∃T,Z8 h e cls T/\h0.get? T=none/\H T=none
def P6 (P:Ng)(w:M7):PU:=λouter H s E e s'=>
 ∃(ea:A') (cls:D') (H':Hp),e=.ref ea/\s'.os=s.os/\Ti s'.gens/\Un (O2 outer) [] H H' s.heap s'.heap/\OP P w H' s'.heap/\Fly s.heap H' ea cls s'.heap/\E cls none H'
section
variable {X:Cx} in
theorem Jb (hso:X.stack=X.env::X.outer)(hb:b∈X.fs):b∈O2 X.stack:=by
 rw[hso];obtain⟨env,he,hf⟩:=Rv.mp hb;exact Rv.mpr ⟨env,NP _ he,hf⟩
variable {σ:St} in
theorem Jc (I:Inv X aa σ H s)(hb:b∈O2 X.stack):∃o,s.heap.get? b=some o/\∀vs,o.data≠.fields vs:=(I.stack.mem hb).2
variable {σ:St} in
theorem wx (I:Inv X aa σ H s)(hex:X.ex=[])(hso:X.stack=X.env::X.outer)(hl:∀b∈l,H b=none/\X.OU.heap.get? b=none)(he:H e=none)(Px:X.OU.heap.get? e=none)(st:∀b o,b∉O2 X.stack->b∉l->s.heap.get? b=some o->h'.get? b=some o)(up:s.heap.UpToSlots h')(tr:h'.TracedW (Zt s.heap (O2 X.stack++l)) e cls a0)(q:E cls none H):
  P6 X.prog X.w X.outer X.U1 X.OU E (.ref e) { s with heap:=h' }:=by
 have Sf:∀b,b∉X.ex:=λb z=>by rw[hex] at z;exact Nc z (by simp)
 have nfr:∀b o,X.OU.heap.get? b=some o->b∉X.fs->b∉O2 X.stack:=λb o e1 nb z=>by
  rcases NG.mp (I.Tk b z) with r|r
  .exact Nc (OY (NC e1) I.ok.above) (by rw[r];exact T4 _)
  .exact nb r
 have nl:∀b o,X.OU.heap.get? b=some o->b∉l:=λb o e1 z=>by rw[(hl b z).2] at e1;cases e1
 have abu:∀b,b∈O2 X.stack->∃o sl,s.heap.get? b=some o/\(∀vs,o.data≠.fields vs)/\h'.get? b=some { o with slots:=sl }:=λb hb=>by
  obtain⟨o,e1,nd⟩:=Jc I hb;obtain⟨sl,e2⟩:=up b o e1 nd;exact⟨o,sl,e1,nd,e2⟩
 obtain⟨T,Z9,hT⟩:=Fo tr;refine⟨e,cls,H,rfl,I.os,I.bare,⟨λb o e1 n hb _=>?_,λb o e1 n hb _=>?_,λb o e1 n _=>I.base.free b o e1 n (Sf b),λb o e1 _=>?_,I.base.Pb,I.base.Sd,I.base.Se⟩,λa o ea=>?_,⟨Px,he,T,Z9,?_,?_⟩,q⟩
 .exact st b o (nfr b o e1 hb) (nl b o e1) (I.base.keep b o e1 n hb (Sf b))
 .obtain⟨sl,e2⟩:=I.base.slot b o e1 n hb (Sf b);obtain⟨o',X2,e3,nd,e4⟩:=abu b (Jb hso hb);rw[e2] at e3;cases e3;exact⟨X2,e4⟩
 .obtain⟨o',e2⟩:=I.base.there b o e1 (Sf b)
  by_cases hb:b∈O2 X.stack
  .obtain⟨_,_,_,_,e4⟩:=abu b hb;exact⟨_,e4⟩
  .exact⟨o',st b o' hb (nl b o e1) e2⟩
 .refine(I.Nf a o ea).Ud (λb u hb e1=>st b u (λz=>?_) (λz=>?_) e1) (λ_ z=>z) λ_ _ z=>z
  .have n:=I.aba b z;rcases hb with r|r
   .rw[r,ea] at n;cases n
   .rw[r] at n;cases n
  .have n:=(hl b z).1;rcases hb with r|r
   .rw[r,ea] at n;cases n
   .rw[r] at n;cases n
 all_goals
  have nfT:T∉O2 X.stack:=λz=>by
   obtain⟨o,sl,_,nd,e4⟩:=abu T z;obtain⟨_,_,_,oT,ts,_,_,_,_,_,e5,e6,_⟩:=Z9;rw[e4] at e5;cases e5;exact nd ts e6
  have old:T∈l\/s.heap.get? T=none:=by
   by_cases z:T∈l
   .exact .inl z
   .refine .inr ?_;cases e1:s.heap.get? T with
    | none=>rfl
    | some o=>
     rw[Zk _ e1 (λm=>(Ov.mp m).elim nfT z)] at hT;cases hT
 .rcases old with z|z
  .exact(hl T z).2
  .cases e1:X.OU.heap.get? T with
   | none=>rfl
   | some o=>
    obtain⟨o',e2⟩:=I.base.there T o e1 (Sf T);rw[z] at e2;cases e2
 .rcases old with z|z
  .exact(hl T z).1
  .cases e1:H T with
   | none=>rfl
   | some o=>
    obtain⟨u,e2⟩:=zv (I.Nf T o e1);rw[z] at e2;cases e2
end
def fI (CX:PU)(X:Cx)(E:St->XK):Prop:=∀(aa:List (A'×G')) (σ:St) (H:Hp) (s:J') (e:D') (s':J'),Inv X aa σ H s->CX X.stack H s (E σ) e s'->X.xe e s'
def tI (X:Cx)(E:St->XK):Prop:=∀(aa:List (A'×G')) (σ:St) (H:Hp) (s:J') (h':M4) (e:A') (cls:D') (vs:List D'),Inv X aa σ H s->M4.MadeExcOf s.heap h' e cls vs->E σ cls none H->X.xe (.ref e) { s with heap:=h' }
def Fp (sp:Sp)(Pk:List V)(E:St->XK)(t:TA):TE:=λσ H Q=>t σ H λvs H1=>sp (vs++Pk) H1 Q (E σ)
section
variable {X:Cx}{CX:PU}{k:Nat}{f:A'}{fd:Nt}{ps:List MV}{sp:Sp}{Pk:List V}{ds:List D'}{E:St->XK} in
theorem wy {aa:List (A'×G')}{σ:St}{H:Hp}{s:J'}{Q:VK}{us:List D'}{vs:List V}(F:Nq X.prog X.w X.K X.mg X.base CX k f fd ps sp)(hr:MX k X.A)(hb:bH X.K fd ps ds)(hd:aL Pk ds)(hx:fI CX X E)(I:Inv X aa σ H s)(r:aL vs us)(h:sp (vs++Pk) H Q (E σ)):M3 (M8 X.prog X.w) X.A (call (.ref f) us) (EP X aa σ Q) X.xe s:=by
 have r2:aL (vs++Pk) (us++ds):=r.append hd;have hl:(us++ds).length=ps.length:=by rw[<-r2.length];exact F.len _ _ _ _ h
 refine Zr (T5 (F.run X.A X.stack s H ⟨us,[]⟩ (us++ds) (vs++Pk) Q (E σ) hr I.ZH (hb s us I.Ox hl) r2 h) λr s' hq=>?_);cases r with
 | error e=>exact hx aa σ H s e s' I hq
 | ok fl=>
  cases fl with
  | ret u=>exact I.after hq
  | next=>exact P3 hq
  | brk=>exact P3 hq
  | cont=>exact P3 hq
theorem Bz (F:Nq X.prog X.w X.K X.mg X.base CX k f fd ps sp)(hr:MX k X.A)(hg:Gl X x)(hm:X.mg x=some (.ref f))(hk:R8 X.K (.ref f)=true)(hb:bH X.K fd ps ds)(hd:aL Pk ds)(hx:fI CX X E)(ha:PA X (e::es) t)(Q1:(x==("__debug__":MV))=false:=by decide)(he:Ob (e::es) X.env=(false,eval e X.env)::Ob es X.env:=by rfl)(Qo:(backTo pos (Ob es X.env)).any (·.1)=false:=by rfl):
  PE X (.Call (.Name x p) (e::es) [] pos) (Fp sp Pk E t):=by
 intro aa s σ H Q I h;refine Xd (jh I hg hm ?_ Q1);refine W.callWith_K (h₀:=X.base) I.ok.mod.Uf hk (Nk (ha pos aa s σ H _ I h) λus s1 ⟨vs,H1,I1,r,q⟩=>⟨I1.Ox,?_⟩) he Qo;exact wy F hr hb hd hx I1 r q
end
theorem az:fI Nb X E:=λ_ _ _ _ _ _ _ h=>h.elim
section
variable {K:MZ} in
theorem BA:fI (P6 P w) (eO (P6 P w) P w K mg base N qual scope f cd A outer Nw H₁ E) (λ_=>E):=by
 intro aa σ H s e s' I hx;obtain⟨ea,cls,H',rfl,ho,hg,un,Nf,fl,q⟩:=hx;have I':=I.adg (ch:=[]) ho un Nf hg (λb z=>Nc z (by simp));obtain⟨T,Z9,hT0,hTH⟩:=fl.tr;have up:∀b,s.heap.get? b=none->Nw.heap.get? b=none:=λb hb=>by
  cases e1:Nw.heap.get? b with
  | none=>rfl
  | some o=>
   obtain⟨o',e2⟩:=I.base.there b o e1 (by intro z;exact Nc (show b∈([]:List A') from z) (by simp));rw[hb] at e2;cases e2
 have hB:∀b∈[ea,T],(Zt s'.heap (O2 (eO (P6 P w) P w K mg base N qual scope f cd A outer Nw H₁ E).stack++[ea,T])).get? b=none:=λb hb=>acN _ (PM _ hb);obtain⟨a0,tw⟩:=Z9.ae8 (hB T (by simp));show M3 (M8 P w) (A.deeper (envOfC qual scope Nw.heap.objs.size f cd)) (leaving (envOfC qual scope Nw.heap.objs.size f cd) (.ref ea)) _ _ s';refine wpAny_leaving_nextW (outer:=outer) (L:=Nw.heap.objs.size) I'.ok.frames (W.funFrames_hide I'.stack λenv he a ha=>R3 _ (Rv.mpr ⟨env,he,ha⟩)) rfl tw (λb o z=>aaT _ z) (hB ea (by simp)) λh' hL=>?_;obtain⟨k1,k2,k3,k4⟩:=hL;exact wx (X:=eO (P6 P w) P w K mg base N qual scope f cd A outer Nw H₁ E) (l:=[ea,T]) I' rfl rfl
  (λb hb=>by
   rcases NG.mp hb with z|z
   .rw[z];exact⟨fl.free,up ea fl.new⟩
   .rw[Pl.mp z];exact⟨hTH,up T hT0⟩)
  fl.free (up ea fl.new) (λb o z1 z2 e1=>k1 b o (Zk _ e1 λm=>(Ov.mp m).elim z1 z2)) k4 k3 q
variable {K:MZ} in
theorem xX:tI (eO (P6 P w) P w K mg base N qual scope f cd A outer Nw H₁ E) (λ_=>E):=by
 intro aa σ H s h1 e cls vs I hm q;show M3 (M8 P w) (A.deeper (envOfC qual scope Nw.heap.objs.size f cd)) (leaving (envOfC qual scope Nw.heap.objs.size f cd) (.ref e)) _ _ { s with heap:=h1 };have hn:H e=none:=by
  cases e1:H e with
  | none=>rfl
  | some o=>
   obtain⟨u,e2⟩:=zv (I.Nf e o e1);rw[hm.new] at e2;cases e2
 have h0:Nw.heap.get? e=none:=by
  cases e1:Nw.heap.get? e with
  | none=>rfl
  | some o=>
   obtain⟨o',e2⟩:=I.base.there e o e1 (by intro z;exact Nc (show e∈([]:List A') from z) (by simp));rw[hm.new] at e2;cases e2
 refine wpAny_leaves_madeW (base:=Zt s.heap (O2 (eO (P6 P w) P w K mg base N qual scope f cd A outer Nw H₁ E).stack++[])) (h:=s.heap) (outer:=outer) (L:=Nw.heap.objs.size) (cls:=cls) (args:=vs) I.ok.frames rfl (λb o z=>aaT _ z)
  (W.funFrames_hide I.stack λenv he a ha=>R3 _ (Rv.mpr ⟨env,he,ha⟩)) hm λh' t fl _ _ ups=>?_
 obtain⟨k1,k2,k3,k4⟩:=fl;exact wx (X:=eO (P6 P w) P w K mg base N qual scope f cd A outer Nw H₁ E) (s:=s) (l:=[]) I rfl rfl (λb z=>Nc z (by simp)) hn h0
  (λb o z1 z2 e1=>k1 b o (Zk _ e1 λm=>(Ov.mp m).elim z1 z2)) ((M4.UpToSlots.of_keeps hm.keeps).trans ups) k4 q
end
theorem NE.okX {P:Ng}{w:M7}{K:MZ}{mg:MV->Option D'}{base:M4}{x qual:MV}{st:M'}{f:A'}{fd:Nt}{N ps:List MV}{k:Nat}{sp:Sp}(F:NE K x qual st f fd)(S:N3 N ps (am st))(len:∀vs H Q E,sp vs H Q E->vs.length=ps.length)(Tm:∀(X:Cx) (No:D') (A:Nv) (outer:List OV) (s:J') (H:Hp) (vs:List V) (Q:VK) (E:XK),X=eO (P6 P w) P w K mg base N qual (am st) f No A outer s H E->fI (P6 P w) X (λ_=>E)->tI X (λ_=>E)->
   MX k X.A->sp vs H Q E->∃t,Rk X (cH st) t/\t { nx:=λ_ H'=>Q .Nr H',rt:=Q } (gz N vs) H):Nq P w K mg base (P6 P w) (k+1) f fd ps sp:=by
 obtain⟨oc,od,kV,doc,pm,an,No,ct,Qi,rfl,lk,Pq⟩:=F.ex;refine xT lk Pq S len λA outer s H vs Q E hr NW=>?_;exact Tm _ No A outer s H vs Q E rfl BA xX hr NW
section
theorem PS.QJ {st:M'}(h:PS X.QJ st t):PS X st t:=λaa s σ H D I hw=>
 RO (h aa s σ H D (I.Sg _) hw) (λ_ _ q=>q.Tl) λ_ _ z=>P3 z
end
abbrev bmV:List D':=[.type "ValueError",.type "Exception",.type "BaseException",.type "object"]
theorem Jd {K:MZ}(I:K.In h)(q:W.excIn K C bmB newId=true):
  ∃bm N nm qn bs hdct sn sub ab col dd k0 k1 k2 k3 k5 mN,h.get? C=some (excClassObj nm qn C N bs bm hdct sn sub ab col dd k0 k1 k2 k3 k5 newId)/\h.Ns N mN/\mN "__init__"=none/\OwnTail h bmB bm:=by
 unfold W.excIn at q
 split at q
 case h_2=>cases q
 case h_1 dd cd sl lk=>
  split at q
  case h_2=>cases q
  case h_1 C' bm k0 k1 k2 k3 nid k5 em es=>
   rw[Rc,Rc,Rc,Rc,Rc] at q;obtain⟨⟨⟨⟨⟨q1,q2⟩,q3⟩,q4⟩,q5⟩,q6⟩:=q;have e1:C'=C:=beq_iff_eq.mp q1;have e2:nid=newId:=beq_iff_eq.mp q2;have e3:cd.hasDel=false:=by cases hh:cd.hasDel with
    | false=>rfl
    | true=>rw[hh] at q3;cases q3
   subst e1 e2;have e4:sl=#[k0,k1,k2,k3,some (.builtin nid),k5]:=by
    cases sl with
    | mk l=>exact congrArg Array.mk es
   cases cd with
   | mk name bases mro ns qualname hasDict slotNames subclasses abstract collection hasDel=>
    simp only at em e3;subst em e3 e4;exact⟨bm,ns,name,qualname,bases,hasDict,slotNames,subclasses,abstract,collection,dd,k0,k1,k2,k3,k5,_,I _ _ lk,
     .of_isNs (W.isNs_of_in I q5),W.nsMap_none_of_in I q5 (beq_iff_eq.mp q6),W.tail_of_in I q4⟩
structure adv (K)(mg:MV->Option D')(x)(C):Prop where
 bound:mg x=some (.ref C)
 ok:W.excIn K C bmV "ValueError.__new__"=true
def Fq (C:A')(E:St->XK)(t:TA):TS:=λ_ σ H=>t σ H λvs H1=>vs.length<=Nh/\E σ (.ref C) none H1
theorem jQ (hc:X.calm=true)(hg:Gl X x)(O:adv X.K X.mg x C)(hr:tI X E)(ha:PA X (ZK::rest) t)(hd:(x==("__debug__":MV))=false:=by decide)(he:Ob (ZK::rest) X.env=(false,eval ZK X.env)::Ob rest X.env:=by rfl)(Qo:(backTo O6 (Ob rest X.env)).any (·.1)=false:=by rfl):
  PS X (.Raise (some (.Call (.Name x np) (ZK::rest) [] O6)) none pos) (Fq C E t):=by
 intro aa s σ H D I h;obtain⟨bm,N,nm,qn,bs,hdct,sn,sub,ab,col,dd,k0,k1,k2,k3,k5,mN,hC,hN,hni,T⟩:=Jd I.ok.mod.Uf O.ok;refine wpAny_Raise_call_subT (C:=C) (nm:=nm) (q:=qn) (N:=N) (bs:=bs) (bm:=bm) (hdct:=hdct) (sn:=sn) (sub:=sub) (ab:=ab) (col:=col) (dd:=dd) (k0:=k0) (k1:=k1) (k2:=k2) (k3:=k3) (k5:=k5) (mN:=mN)
  PySem.F.excBase_ValueError (T.hasType (by decide +kernel)) (I.ok.hd hc) (by rw[he];show(false||(backTo O6 (Ob rest X.env)).any (·.1))=false;rw[Qo];rfl) hni (jh I hg O.bound ⟨rfl,?_⟩ hd)
 have h2:=ha O6 aa s σ H _ I h;rw[he] at h2 ⊢;refine aan (Nk h2 λus s2 ⟨vs,H2,I2,r,q1,q2⟩=>⟨rfl,by rw[<-r.length];exact q1,I2.bk _ _ hC,hN.keeps I2.bk,T.keeps I2.bk,λh' e hm=>?_⟩);exact hr aa σ H2 s2 h' e _ _ I2 hm q2
theorem ip:∀(names:List (MV×Th)) (acc:List (MV×A')),(∀y∈names,y.2=.free->∃c,env.cells.lookup y.1=some c)->
  ∃cl,(forIn (m:=PY) names acc λ(y:MV×Th) cs=>(do if (y.2==VT)=true then (do let c <-cellOf env y.1;pure (T1 ((y.1,c)::cs))) else pure (T1 cs)))=pure cl/\
   (∀y c,cl.lookup y=some c->acc.lookup y=some c\/env.cells.lookup y=some c)/\(∀y∈names,y.2=.free->(cl.lookup y.1).isSome=true)/\∀y,(acc.lookup y).isSome=true->(cl.lookup y).isSome=true
 | [],acc,_=>⟨acc,rfl,λ_ _ e=>.inl e,(λ_ h=>Nc h (by simp)),λ_ e=>e⟩
 | (n,k)::r,acc,h=>by
  by_cases hk:k=.free
  .subst hk;obtain⟨c,hc⟩:=h (n,.free) Nu rfl;obtain⟨cl,e1,e2,e3,e4⟩:=ip r ((n,c)::acc) λy hy=>h y (NP _ hy);have look:∀y,US y ((n,c)::acc)=if (y==n)=true then some c else acc.lookup y:=λy=>by
    rw[UP];cases (y==n) <;> rfl
   refine⟨cl,?_,λy d e=>?_,λy hy hf=>?_,λy e=>?_⟩
   .rw[List.forIn_cons];have hco:cellOf env n=pure c:=by unfold cellOf;rw[hc]
    simp only[beq_self_eq_true,if_true,hco,pure_bind];exact e1
   .rcases e2 y d e with z|z
    .rw[look] at z
     by_cases hy:(y==n)=true
     .rw[M6 hy] at z;have:y=n:=by simpa using hy
      subst this;rw[hc];exact .inr z
     .rw[M0 hy] at z;exact .inl z
    .exact .inr z
   .rcases NG.mp hy with z|z
    .subst z;exact e4 n (by rw[look,M6 (by simp)];rfl)
    .exact e3 y z hf
   .refine e4 y ?_;rw[look]
    split
    .rfl
    .exact e
  .obtain⟨cl,e1,e2,e3,e4⟩:=ip r acc λy hy=>h y (NP _ hy);refine⟨cl,?_,e2,λy hy hf=>?_,e4⟩
   .rw[List.forIn_cons];have hb:(k==VT)=false:=by simpa using hk
    simp only[hb,OI,if_false,pure_bind];exact e1
   .rcases NG.mp hy with z|z
    .subst z;exact Nc hf hk
    .exact e3 y z hf
theorem nW (h:∀y∈scope.names,y.2=.free->∃c,env.cells.lookup y.1=some c):
  ∃cl,closureFor scope env=pure cl/\(∀y c,cl.lookup y=some c->env.cells.lookup y=some c)/\∀y∈scope.names,y.2=.free->(cl.lookup y.1).isSome=true:=by
 obtain⟨cl,e1,e2,e3,_⟩:=ip scope.names [] h;refine⟨cl,?_,λy c e=>(e2 y c e).elim (λz=>by cases z) id,e3⟩;have e:closureFor scope env=((forIn (m:=PY) scope.names ([]:List (MV×A')) λ(y:MV×Th) cs=>(do if (y.2==VT)=true then (do let c <-cellOf env y.1;pure (T1 ((y.1,c)::cs))) else pure (T1 cs))) >>= pure):=rfl;rw[e,e1];rfl
def O7 (X:Cx)(scope:PX)(cl:List (MV×A'))(x:MV)(C:A')(NY:J')(OM:Hp)(fp:List A')(aa:List (A'×G')):Cx where
 prog:=X.prog
 w:=X.w
 K:=X.K
 mg:=X.mg
 base:=X.base
 A:=X.A
 N:=x::X.N
 OU:=NY
 U1:=OM
 env:=compEnvC scope cl C X.env
 outer:=X.stack
 stack:=X.stack
 ex:=fp
 fn:=λ_=>false
 calm:=X.calm
 pn:=X.pn++aa
 xe:=λ_ _=>False
structure Qf (sc:PX)(N:List MV)(scope:PX)(x:MV):Prop where
 kind:scope.kind=.function
 cell:∀y∈scope.names,y.2≠.cell
 free:∀y∈scope.names,y.2=.free->sc.names.lookup y.1=some .cell\/sc.names.lookup y.1=some .free
 names:∀y∈scope.names,y.2=.local ->scope.names.lookup y.1=some .local
 var:scope.names.lookup x=some .local
 fresh:x∉N
 other:∀y∈N,scope.names.lookup y≠some .local
theorem jq {scope:PX}{env:OV}:∀{names:List (MV×Th)}{y:MV}{k:Th},
  (names.map λ(n,k)=>if (k==VT&&env.scope.kind==.function&&env.kindOf n==some .cell) then (n,Th.cell) else (n,k)).lookup y=some k->
   ∃k',names.lookup y=some k'/\(k'=k\/(k'=.free/\k=.cell))
 | [],_,_,h=>by simp at h
 | (n,k0)::r,y,k,h=>by
  rw[N7] at h
  by_cases hy:(y==n)=true
  .have:y=n:=by simpa using hy
   subst this
   by_cases hc:(k0==VT&&env.scope.kind==.function&&env.kindOf y==some .cell)=true
   .simp only[hc,if_true,UP,beq_self_eq_true] at h;cases h;rw[Rc,Rc] at hc;exact⟨k0,by simp[UP],.inr ⟨by simpa using hc.1.1,rfl⟩⟩
   .simp only[hc,OI,if_false,UP,beq_self_eq_true] at h;cases h;exact⟨k0,by simp[UP],.inl rfl⟩
  .have Yc:(y==n)=false:=by simpa using hy
   have h':(r.map λ(n,k)=>if (k==VT&&env.scope.kind==.function&&env.kindOf n==some .cell) then (n,Th.cell) else (n,k)).lookup y=some k:=by
    by_cases hc:(k0==VT&&env.scope.kind==.function&&env.kindOf n==some .cell)=true
    .simp only[hc,if_true,UP,Yc] at h;exact h
    .simp only[hc,OI,if_false,UP,Yc] at h;exact h
   obtain⟨k',e1,e2⟩:=jq (scope:=scope) (env:=env) h';exact⟨k',by rw[UP,Yc];exact e1,e2⟩
section
abbrev cj (MY:List D')(n:Nat):G':={ cls:=.type "list",data:=.seq MY.toArray n }
variable {X:Cx}{scope:PX}{cl:List (MV×A')}{x:MV}{C:A'}{D:A'}{NY:J'}{OM:Hp}{fp:List A'}{aa:List (A'×G')}{σ:St} in
theorem qF {P5:M4}{t':Nat}{MY:List D'}{n:Nat}(I:Inv X aa σ OM NY)(S:Qf X.env.scope X.N scope x)(Yd:∀b∈fp,i8 X aa OM b)(hfo:∀b∈fp,∃o,NY.heap.get? b=some o)(Qp:∀y c,cl.lookup y=some c->X.env.cells.lookup y=some c)(hcf:∀y∈scope.names,y.2=.free->(cl.lookup y.1).isSome=true)(hD:NY.heap.objs.size<=D)(hC:NY.heap.objs.size<=C)(Um:D≠C)(Rm:∃m,P5.Ns C m)(hd:P5.get? D=some (cj MY n))(keep:∀b o,NY.heap.get? b=some o->P5.get? b=some o):
  Inv (O7 X scope cl x C NY OM fp aa) [(D,cj MY n)] (none::σ) OM { NY with heap:=P5,toks:=t' }:=by
 have lk:∀{y:MV}{k:Th},(compEnvC scope cl C X.env).kindOf y=some k->∃k',scope.names.lookup y=some k'/\(k'=k\/(k'=.free/\k=.cell)):=λ{y k} h=>jq (scope:=scope) h;have adb:∀{y:MV},((compEnvC scope cl C X.env).kindOf y=some .cell\/(compEnvC scope cl C X.env).kindOf y=some .free)->scope.names.lookup y=some .free:=λ{y} h=>by
  rcases h with h|h
  .obtain⟨k',e1,e2⟩:=lk h;rcases e2 with z|z
   .subst z;exact Nc rfl (S.cell _ (Ra e1))
   .rw[z.1] at e1;exact e1
  .obtain⟨k',e1,e2⟩:=lk h;rcases e2 with z|z
   .rw[z] at e1;exact e1
   .exact Nc z.2 (by decide)
 have sz:=I.sz;have new:∀b,NY.heap.objs.size<=b->b∉O2 X.stack:=λb hb z=>by
  rcases NG.mp (I.Tk b z) with r|r
  .exact Nc (OY I.lt hb) (by rw[r];exact T4 _)
  .exact I.ads hb r
 have RC:∀b o,NY.heap.get? b=some o->b≠C:=λb o e=>N0 (OY (NC e) hC);refine⟨⟨I.ok.mod,S.kind,I.ok.glob,I.ok.blt,hC,λy z c h1 h2=>I.ok.inj y z c (Qp y c h1) (Qp z c h2),λy hy=>?_,λy c h=>Nc h (by show ¬(false=true);decide),I.ok.hd,I.ok.frames,.inl rfl,λb hb=>⟨?_,λy c h=>?_⟩,I.bs,Ph I.ok.Ts sz,λb o e hb=>?_,λb hb z=>?_,I.stack,I.aba⟩,
  rfl,I.bare,Un.kept keep,?_,λy c h=>?_,I.Nf.fresh hC,λy c h=>I.Sb y c (Qp y c h),λp hp=>?_,I.Nf.kept keep,?_⟩
 .have e:=adb hy;exact SZ.mp (hcf (y,.free) (Ra e) rfl)
 .obtain⟨o,e⟩:=hfo b hb;exact RC b o e
 .exact(Yd b hb).2.2.2.2.1 y c (Qp y c h)
 .obtain⟨_,_,_,hx,_⟩:=Yd b hb;rcases hx with r|r
  .exact I.ok.Sf b o e r
  .exact Nc (OY (NC (I.ok.bs b o e).1) r) (T4 _)
 .obtain⟨_,hL,hf,_⟩:=Yd b hb;rcases NG.mp (I.Tk b z) with r|r
  .exact hL r
  .exact hf r
 .obtain⟨m,hm⟩:=Rm;obtain⟨m',_,hl⟩:=I.loc;refine⟨m,hm,λi y v e1 e2 e3=>?_⟩;cases i with
  | zero=>cases (show some (none:Option V)=some (some v) from e2)
  | succ i=>
   have Vh:X.N[i]?=some y:=e1;have Tx:σ[i]?=some (some v):=e2;have fr:scope.names.lookup y=some .free:=by
    rcases e3 with z|z
    .obtain⟨k',q1,q2⟩:=lk z;rcases q2 with q2|q2
     .rw[q2] at q1;exact Nc q1 (S.other y (Oo Vh))
     .exact Nc q2.2 (by decide)
    .exact adb z
   have kd:(compEnvC scope cl C X.env).kindOf y=some .cell\/(compEnvC scope cl C X.env).kindOf y=some .free:=by
    rcases e3 with z|z
    .obtain⟨k',q1,q2⟩:=lk z;rw[fr] at q1;cases q1;rcases q2 with q2|q2
     .cases q2
     .exact Nc q2.2 (by decide)
    .exact z
   have kx:=S.free (y,.free) (Ra fr) rfl;obtain⟨u,r,q⟩:=hl i y v Vh Tx (.inr kx);refine⟨u,r,.inr ⟨kd,?_⟩⟩;obtain⟨c,hc⟩:=SZ.mp (hcf (y,.free) (Ra fr) rfl);refine⟨c,hc,?_⟩;rcases q with⟨ql,_⟩|⟨_,c',U',z⟩
   .have ql':X.env.scope.names.lookup y=some .local :=ql;rcases kx with kx|kx <;> (rw[ql'] at kx;cases kx)
   .have:=Qp y c hc;rw[U'] at this;cases this;obtain⟨o,ho,hd⟩:=z;exact⟨o,keep _ _ ho,hd⟩
 .obtain⟨v,o,ho,hd⟩:=I.cell y c (Qp y c h);exact⟨v,o,keep _ _ ho,hd⟩
 .rcases Ov.mp hp with z|z
  .obtain⟨e,n0,ne,nf,d⟩:=I.pin p z;refine⟨keep _ _ e,n0,RC _ _ e,λq=>?_,d⟩;rcases NG.mp (I.Tk _ q) with r|r
   .exact ne r
   .exact nf r
  .rw[Pl.mp z];exact⟨hd,I.Nf.fresh hD,Um,new D hD,λv q=>nomatch q⟩
 .show σ.length+1=X.N.length+1;rw[I.len]
variable {X:Cx}{scope:PX}{cl:List (MV×A')}{x:MV}{C:A'}{D:A'}{NY:J'}{OM:Hp}{fp:List A'}{aa:List (A'×G')}{σ:St} in
theorem tJ {Z':M4}{s':J'}{H':Hp}{NV:St}{MY:List D'}{n:Nat}{ys:List V}(I:Inv X aa σ OM NY)(Yd:∀b∈fp,i8 X aa OM b)(hD:NY.heap.objs.size<=D)(hC:NY.heap.objs.size<=C)(J:Inv (O7 X scope cl x C NY OM fp aa) [(D,cj MY n)] NV H' s')(hs:R6 C s'.heap Z')(r:aL ys MY)(hz:ys.length<=Nh):
  Inv X aa σ (upd H' D (.lst ys)) { s' with heap:=Z' }/\H' D=none:=by
 obtain⟨eD,nD,Vi,_,_⟩:=J.pin (D,cj MY n) (PM _ Nu);have kp:∀b,b≠C->Z'.get? b=s'.heap.get? b:=λb hb=>hs.2 b hb;have RC:∀b o,NY.heap.get? b=some o->b≠C:=λb o e=>N0 (OY (NC e) hC);have afz:∀b o,NY.heap.get? b=some o->b≠D:=λb o e=>N0 (OY (NC e) hD);have trC:∀b u,H' b=some u->b≠C:=λb u e z=>by
  have f:H' C=none:=J.free;rw[z,f] at e;cases e
 have un:=J.base;refine⟨I.adg (ch:=fp) J.os ⟨λb o e m hb hx=>?_,λb o e m hb hx=>?_,λb o e m hx=>?_,λb o e hx=>?_,λb xs e=>?_,λb o u e=>?_,λb ps e=>?_⟩ ?_ J.bare (λb hb=>?_),nD⟩
 .exact(kp b (RC b o e)).trans (un.keep b o e m hb hx)
 .obtain⟨sl,q⟩:=un.slot b o e m hb hx;exact⟨sl,(kp b (RC b o e)).trans q⟩
 .rw[aq (afz b o e)];exact un.free b o e m hx
 .obtain⟨o',q⟩:=un.there b o e hx;exact⟨o',(kp b (RC b o e)).trans q⟩
 .have q:=un.Pb b xs e;rw[aq (av q nD)];exact q
 .have q:=un.Sd b o u e;rw[aq (av q nD)];exact q
 .obtain⟨m,q⟩:=un.Se b ps e;exact⟨m,by rw[aq (av q nD)];exact q⟩
 .intro a o e
  by_cases ha:a=D
  .subst ha;rw[al] at e;cases e;exact⟨hz,MY,n,r,(kp _ Vi).trans eD⟩
  .rw[aq ha] at e;refine(J.Nf a o e).Ud (λb u hb q=>(kp b ?_).trans q) (λb q=>by rw[aq (av q nD)];exact q) λb xs q=>by rw[aq (av q nD)];exact q
   rcases hb with z|z
   .rw[z];exact trC a o e
   .exact trC b _ z
 .obtain⟨_,h2,_,h4,h5,h6⟩:=Yd b hb;exact⟨h4,h2,h5,h6⟩
end
def lI (J:It)(σ:St)(tt:TT)(te:TE)(Q:VK)(H1:Hp):Prop:=∃W:Nat->Nat->List V->Hp->Prop,(∃m,W 0 m [] H1)/\∀i m ys H2,W i m ys H2->
 (J.stop i H2/\ys.length<=Nh/\∀p,H2 p=none->Q (.ref p) (upd H2 p (.lst ys)))\/
 (J.go i H2/\ys.length<Nh/\∃N:List V->Hp->Prop,(∀zs H',N zs H'->∃m',m' < m/\W (i+1) m' zs H')/\∀x H3,J.V' i H2 x H3->tt (some x::σ) H3 λb H4=>if b=true then te (some x::σ) H4 λy H5=>N (ys++[y]) H5 else N ys H4)
def Di (wi:TI)(tt:TT)(te:TE):TE:=λσ H Q=>wi σ H λJ H1=>lI J σ tt te Q H1
def Dj:TT:=λ_ H Q=>Q true H
theorem Wf (h:Q true H):Dj σ H Q:=h
def δ (Y:Cx)(ifs:List Nn)(t:TT):Prop:=
 ∀(aa:List (A'×G')) (s:J') (σ:St) (H:Hp) (Q:Bool->Hp->Prop),Inv Y aa σ H s->t σ H Q->
  M3 (M8 Y.prog Y.w) Y.A (forIn ifs true λc r=>if r=true then do let ok <-isTrue c Y.env (eval c Y.env);pure (T1 ok) else pure (T1 r)) (TP Y aa σ Q) Y.xe s
theorem hG:δ Y [] Dj:=λaa s σ H Q I h=>wpAny_tests_nil ⟨H,I,h⟩
theorem ez (h:PT Y c t):δ Y [c] t:=λaa s σ H Q I q=>wpAny_tests_one (h aa s σ H Q I q)
section
theorem gS {α:Type}{M:UZ}{A:Nv}{t:PY α}{Q:α->J'->Prop}{E:D'->J'->Prop}{s:J'}(h:M3 M A t Q (λ_ _=>False) s):M3 M A t Q E s:=RO h (λ_ _ z=>z) λ_ _ z=>z.elim
theorem eA (hc:X.calm=true)(S:Qf X.env.scope X.N scope x)(hi:PI X (.Name x px) iter wi)(ht:∀(cl:List (MV×A')) (C:A') (NY:J') (OM:Hp) (fp:List A') (aa:List (A'×G')),δ (O7 X scope cl x C NY OM fp aa) ifs tt)(he:∀(cl:List (MV×A')) (C:A') (NY:J') (OM:Hp) (fp:List A') (aa:List (A'×G')),PE (O7 X scope cl x C NY OM fp aa) elt te)(hN:X.N.Nodup)(hs:∀v,foldedSetIterable iter X.env v=pure v:=by intro _;rfl):PE X (.ListComp elt [⟨.Name x px,iter,ifs,0⟩] scope pos) (Di wi tt te):=by
 intro aa s σ H Q I h;obtain⟨cl,abv,U4,abw⟩:=nW (scope:=scope) (env:=X.env) (λy hy hf=>I.ok.has y.1 (S.free y hy hf));rw[eval_ListComp];refine aef (use:=none) (E:=X.xe) rfl hs abv S.kind S.names (Nk (hi aa s σ H _ I h) λxv s1 h1=>Nk h1 λZ0 s2 h2=>?_);obtain⟨it,fp,tn,J,H2,e,I2,T,Pc,f2,W,⟨m0,w0⟩,turn⟩:=h2;subst e;refine TX (acg S.cell (by intro y hy;cases hy) (λP5 Rm Q2=>?_) S.kind);dsimp only at Rm Q2 ⊢;generalize hP:s2.heap.push { cls:=.type "list",dict:=none,data:=.seq ([]:List D').toArray }=P2 at Rm Q2 ⊢;have hC:P2.objs.size=s2.heap.objs.size+1:=by rw[<-hP,Zh]
 have Um:s2.heap.objs.size≠P2.objs.size:=by rw[hC];exact N0 (Xk _)
 have Si:s2.heap.objs.size<=P2.objs.size:=by rw[hC];exact V0 _
 have old:∀b o,s2.heap.get? b=some o->P5.get? b=some o:=λb o e=>by
  have hb:=NC e;exact Q2.extBut b o (by rw[hC];exact N0 (Y7 hb)) (NK _ (hP▸NK _ e))
 have hd:P5.get? s2.heap.objs.size=some (cj [] 0):=Q2.extBut _ _ Um (NK _ (hP▸OH _ rfl));have fo:∀b∈fp,∃o,s2.heap.get? b=some o:=λb hb=>by
  obtain⟨o,e,_⟩:=T.obj _ _ Pc b hb;exact⟨o,e⟩
 have Vi:∀b∈fp,b≠s2.heap.objs.size:=λb hb=>by
  obtain⟨o,e⟩:=fo b hb;exact N0 (NC e)
 have JY:Inv (O7 X scope cl x P2.objs.size s2 H2 fp aa) [(s2.heap.objs.size,cj [] 0)] (none::σ) H2 { s2 with heap:=P5,toks:=s2.toks+([]:List (MV×D')).length }:=
  qF I2 S f2 fo U4 abw (Nl _) Si Um ⟨_,Rm⟩ hd old
 have Sh:∀{H':Hp}{MY:List D'}{n:Nat},(∀b∈fp,H' b=none)->∀b∈fp,i8 (O7 X scope cl x P2.objs.size s2 H2 fp aa) [(s2.heap.objs.size,cj MY n)] H' b:=λ{H' MY n} hn b hb=>by
  obtain⟨_,g1,g2,g3,g4,g5⟩:=f2 b hb;obtain⟨o,e⟩:=fo b hb;refine⟨hn b hb,?_,λz=>?_,.inl hb,λy c q=>g4 y c (U4 y c q),λp hp=>?_⟩
  .show b≠P2.objs.size;exact N0 (OY (NC e) Si)
  .rcases NG.mp (I2.Tk b z) with r|r
   .exact g1 r
   .exact g2 r
  .rcases Ov.mp hp with z|z
   .exact g5 p z
   .rw[Pl.mp z];exact λq=>Vi b hb q.symm
 have nodup:(O7 X scope cl x P2.objs.size s2 H2 fp aa).N.Nodup:=QE.mpr ⟨S.fresh,hN⟩;have loc:Loc (O7 X scope cl x P2.objs.size s2 H2 fp aa).env.scope x:=.inl (aao S.var);have loop:∀s4:J',s4={ s2 with heap:=P5,toks:=s2.toks+([]:List (MV×D')).length }->
   codeAny (M8 X.prog X.w) X.A (.compLoop (.ListComp elt [⟨.Name x px,iter,ifs,0⟩] scope pos) 0 (.ref it) (.ref s2.heap.objs.size) (compEnvC scope cl P2.objs.size X.env))
    (compPost (M8 X.prog X.w) X.A X.xe none (EP X aa σ Q) (.ref s2.heap.objs.size) P2.objs.size) s4:=by
  rintro s4 rfl;refine codeAny_loop rfl (λn s'=>∃i ys MY c H' v0,Inv (O7 X scope cl x P2.objs.size s2 H2 fp aa) [(s2.heap.objs.size,cj MY c)] (v0::σ) H' s'/\tn i s'.heap/\(∀b∈fp,H' b=none)/\aL ys MY/\W i n ys H') ?_ m0
   ⟨0,[],[],0,H2,none,JY,T.keep _ _ _ Pc (λb _ o e=>old b o e),λb hb=>(f2 b hb).1,.nil,w0⟩
  rintro n s3 ⟨i,ys,MY,c,H3,v0,I3,Qh,Uk,rv,w3⟩;show M3 _ _ ((compTurn (.ListComp elt [⟨.Name x px,iter,ifs,0⟩] scope pos) 0 (.ref it) (.ref s2.heap.objs.size) (compEnvC scope cl P2.objs.size X.env)).onRaise (λz=>do noteFrame z (compEnvC scope cl P2.objs.size X.env);theTreesLotGoes z)) _ _ s3;refine wpAny_noted ?_;rw[compTurn_list];rcases turn i n ys H3 w3 with⟨stop,hz,qn⟩|⟨go,hz,NN,Ye,step⟩
  .refine MW (Zm (MW (Nk (T.done (O7 X scope cl x P2.objs.size s2 H2 fp aa) rfl rfl rfl hc i _ s3 _ H3 _ I3 (Sh Uk) Qh stop) λr s5 ⟨hr,I5⟩=>?_)));subst hr;refine M1 ?_;obtain⟨mC,hmC,_⟩:=I5.loc;refine⟨mC,hmC,λZ' afA=>?_⟩;obtain⟨I6,nD⟩:=tJ I2 f2 (Nl _) Si I5 afA rv hz;exact⟨.ref s2.heap.objs.size,_,I6,rfl,qn _ nD⟩
  .refine MW (Zm (MW (Nk (T.item (O7 X scope cl x P2.objs.size s2 H2 fp aa) rfl rfl rfl hc i _ s3 _ H3 _ I3 (Sh Uk) Qh go) λr s5 ⟨u,hr,h5⟩=>?_)));subst hr;refine MW (Nk h5 λ_ s6 ⟨xv,H6,I6,r6,y6,Vj,fr6⟩=>?_);have I6':=I6.pinned (Sh fr6) (T.obj _ _ Vj);refine MW (aav (jM (i:=0) I6' nodup rfl loc r6 (λs7 I7=>?_) (.inr (aao S.var))));have q7:=step xv H6 y6;refine MW (gS (Nk (ht cl P2.objs.size s2 H2 fp aa _ s7 _ H6 _ I7 q7) λok s8 ⟨H8,I8,q8⟩=>?_));have back:∀{H9:Hp}{s9:J'},Inv (O7 X scope cl x P2.objs.size s2 H2 fp aa) ([(s2.heap.objs.size,cj MY c)]++jk fp s6.heap) (some xv::σ) H9 s9->tn (i+1) s9.heap/\∀b∈fp,H9 b=none:=λ{H9 s9} I9=>by
    refine⟨T.keep _ _ _ Vj λb hb o e=>(I9.pin (b,o) (PM _ (PM _ (eV hb e)))).1,λb hb=>?_⟩;obtain⟨o,e,d⟩:=T.obj _ _ Vj b hb;exact(I9.pin (b,o) (PM _ (PM _ (eV hb e)))).2.1
   cases ok with
   | false=>
    obtain⟨m',hm,w8⟩:=Ye ys H8 q8;obtain⟨t8,fr8⟩:=back I8;exact M1 ⟨rfl,m',hm,i+1,ys,MY,c,H8,_,I8.UV,t8,fr8,rv,w8⟩
   | true=>
    refine MW (MW (gS (Nk (he cl P2.objs.size s2 H2 fp aa _ s8 _ H8 _ I8 q8) λyv s9 ⟨y,H9,I9,r9,q9⟩=>?_)));obtain⟨m',hm,w9⟩:=Ye _ _ q9;obtain⟨t9,fr9⟩:=back I9;have Yg:=I9.UV;obtain⟨eD,nD,Uh,nf,_⟩:=Yg.pin (s2.heap.objs.size,cj MY c) (PM _ Nu);refine MW (aej (items:=MY.toArray) ⟨c,eD⟩ (λVk abx XN=>?_) (by rw[Od,<-rv.length];exact UR hz));obtain⟨c',e10⟩:=abx;have aby:Vk.get? s2.heap.objs.size=some (cj (MY++[yv]) c'):=by rw[e10];simp
    have I10:Inv (O7 X scope cl x P2.objs.size s2 H2 fp aa) [] (some xv::σ) H9 { s9 with heap:=Vk }:=by
     have I9e:Inv (O7 X scope cl x P2.objs.size s2 H2 fp aa) [] (some xv::σ) H9 s9:=Yg.V5 λp hp=>Nc hp (by simp);refine I9e.turned (t':=s9.toks) (it:=s2.heap.objs.size) (λb o hb q=>(XN.2 b hb).trans q) nD Uh (.inr (Nl _)) (λy cc q=>?_) λp hp=>?_
     .obtain⟨v,z⟩:=I2.cell y cc (U4 y cc q);exact N0 z.lt
     .have Yh:p∈X.pn++aa:=by
       have z:p∈(X.pn++aa)++[]:=hp;simpa using z
      exact N0 (NC (I2.pin p Yh).1)
    have I11:Inv (O7 X scope cl x P2.objs.size s2 H2 fp aa) [(s2.heap.objs.size,cj (MY++[yv]) c')] (some xv::σ) H9 { s9 with heap:=Vk }:=
     I10.V5 λp hp=>by rw[Pl.mp hp];exact⟨aby,nD,Uh,nf,λv q=>nomatch q⟩
    refine M1 (M1 ⟨rfl,m',hm,i+1,ys++[y],MY++[yv],c',H9,_,I11,?_,fr9,rv.append (.cons r9 .nil),w9⟩);exact T.keep _ _ _ t9 λb hb o q=>(XN.2 b (Vi b hb)).trans q
 exact codeAny_compStart_list (loop _ rfl) (T.self X.A 0 _ _ _ (T.keep _ _ _ Pc (λb _ o e=>old b o e)) (loop _ rfl))
end
section
variable {K:MZ} in
theorem mY (Pv:Nat->List V->Hp->Prop)(h0:Pv 0 [] H)(hl:∀i ys H,i<=xs.length->Pv i ys H->Ni K H a xs/\ys.length<=i)(hz:xs.length<=Nh)(hs:∀i x ys H,xs[i]?=some x->Pv i ys H->tt (some x::σ) H λb H4=>if b=true then te (some x::σ) H4 λy H5=>Pv (i+1) (ys++[y]) H5 else Pv (i+1) ys H4)(hd:∀ys H p,Pv xs.length ys H->H p=none->Q (.ref p) (upd H p (.lst ys))):lI (Wa K a) σ tt te Q H:=by
 refine⟨λi m ys H=>m=xs.length-i/\i<=xs.length/\Pv i ys H,⟨xs.length,by simp,Ow _,h0⟩,?_⟩;rintro i m ys H2 ⟨rfl,hi,p⟩;obtain⟨q,hn⟩:=hl i ys H2 hi p
 by_cases N9:i<xs.length
 .refine .inr ⟨⟨xs,xs[i],q,by simp[N9]⟩,by lia,Pv (i+1),λzs H' p'=>⟨xs.length-(i+1),by lia,rfl,N9,p'⟩,λx H3 y=>?_⟩;obtain⟨e,y⟩:=y;subst e;exact hs i x ys _ (y xs q) p
 .have e:i=xs.length:=by lia
  subst e;exact .inl ⟨⟨xs,q,Nl _⟩,by lia,λb hb=>hd ys H2 b p hb⟩
variable {K:MZ} in
theorem iq (Pv:Nat->List V->Hp->Prop)(h0:Pv 0 [] H)(hl:∀i ys H,i<=xs.length->Pv i ys H->Nj K H a xs/\ys.length<=i)(hz:xs.length<=Nh)(hs:∀i x ys H,xs[i]?=some x->Pv i ys H->tt (some x::σ) H λb H4=>if b=true then te (some x::σ) H4 λy H5=>Pv (i+1) (ys++[y]) H5 else Pv (i+1) ys H4)(hd:∀ys H p,Pv xs.length ys H->H p=none->Q (.ref p) (upd H p (.lst ys))):lI (Vb K a) σ tt te Q H:=by
 refine⟨λi m ys H=>m=xs.length-i/\i<=xs.length/\Pv i ys H,⟨xs.length,by simp,Ow _,h0⟩,?_⟩;rintro i m ys H2 ⟨rfl,hi,p⟩;obtain⟨q,hn⟩:=hl i ys H2 hi p
 by_cases N9:i<xs.length
 .refine .inr ⟨⟨xs,xs[i],q,by simp[N9]⟩,by lia,Pv (i+1),λzs H' p'=>⟨xs.length-(i+1),by lia,rfl,N9,p'⟩,λx H3 y=>?_⟩;obtain⟨e,y⟩:=y;subst e;exact hs i x ys _ (y xs q) p
 .have e:i=xs.length:=by lia
  subst e;exact .inl ⟨⟨xs,q,Nl _⟩,by lia,λb hb=>hd ys H2 b p hb⟩
theorem gj {lo:Int}(Pv:Nat->List V->Hp->Prop)(h0:Pv 0 [] H)(hl:∀i ys H,i<=n->Pv i ys H->ys.length<=i)(hz:n<=Nh)(hs:∀i ys H,i<n->Pv i ys H->tt (some (.int (lo+i))::σ) H λb H4=>if b=true then te (some (.int (lo+i))::σ) H4 λy H5=>Pv (i+1) (ys++[y]) H5 else Pv (i+1) ys H4)(hd:∀ys H p,Pv n ys H->H p=none->Q (.ref p) (upd H p (.lst ys))):lI (Uj lo n) σ tt te Q H:=by
 refine⟨λi m ys H=>m=n-i/\i<=n/\Pv i ys H,⟨n,by simp,Ow _,h0⟩,?_⟩;rintro i m ys H2 ⟨rfl,hi,p⟩;have hn:=hl i ys H2 hi p
 by_cases N9:i<n
 .refine .inr ⟨N9,by lia,Pv (i+1),λzs H' p'=>⟨n-(i+1),by lia,rfl,N9,p'⟩,λx H3 y=>?_⟩;obtain⟨e,y⟩:=y;subst e y;exact hs i ys _ N9 p
 .have e:i=n:=by lia
  subst e;exact .inl ⟨Nl _,by lia,λb hb=>hd ys H2 b p hb⟩
end
def gm (lo:Int)(n:Nat):List V:=(Oe n).map λ(i:Nat)=>V.int (lo+(i:Int))
theorem i9 (lo:Int)(n:Nat):(gm lo n).length=n:=by simp[gm]
theorem mM (hl:xs.length=us.length)(h:∀(i:Nat) x u,xs[i]?=some x->us[i]?=some u->aI x u):aL xs us:=by
 induction xs generalizing us with
 | nil=>cases us with
  | nil=>exact .nil
  | cons _ _=>simp at hl
 | cons x xs ih=>cases us with
  | nil=>simp at hl
  | cons u us=>exact .cons (h 0 x u rfl rfl) (ih (by simpa using hl) λi y v h1 h2=>h (i+1) y v (by simpa using h1) (by simpa using h2))
section
theorem kK:cK X (.type "range") (λxs H Q=>∃j,xs=[.int j]/\∀p,H p=none->Q (.ref p) (upd H p (.RB 0 j))):=by
 intro aa s σ H xs us Q I r h;obtain⟨j,rfl,q⟩:=h;obtain⟨u,rfl,ru⟩:=dm r;obtain⟨t,rfl⟩:=ru;refine call_range_1 ⟨.ref s.heap.objs.size,_,I.laid (λb o e=>NK _ e) (Nl _) ?_,rfl,q _ (I.Nf.fresh (Nl _))⟩;exact⟨_,_,_,OH _ rfl⟩
theorem gN (hc:X.calm=true):cK X (.type "list") (λxs H Q=>∃p lo hi,xs=[.ref p]/\H p=some (.RB lo hi)/\-(2 ^ 62)<=lo/\lo<2 ^ 62/\-(2 ^ 62)<=hi/\hi<2 ^ 62/\(hi-lo).toNat<=2 ^ 24/\
  ∀l,H l=none->Q (.ref l) (upd H l (.lst (gm lo (hi-lo).toNat)))):=by
 intro aa s σ H xs us Q I r h;obtain⟨p,lo,hi,rfl,hp,h1,h2,h3,h4,h5,q⟩:=h;obtain⟨u,rfl,ru⟩:=dm r;cases ru;obtain⟨t,u,v,e⟩:=I.Nf p _ hp;refine call_list_range (I.ok.hd hc) e (small_one h1 h2 h3 h4) (rangeSize_nat lo hi) h5 λh' tk Pu c' hk hS XO=>?_;refine⟨.ref s.heap.objs.size,_,I.laid (o:=.lst (gm lo (hi-lo).toNat)) hk (Nl _) ?_,rfl,q _ (I.Nf.fresh (Nl _))⟩;refine⟨by rw[i9];exact h5,Pu.toList,c',mM (by rw[i9,Pe,XO.1]) λi x u e1 e2=>?_,by simpa using hS⟩;have Tx:Pu[i]?=some u:=by simpa using e2
 obtain⟨t',rfl⟩:=XO.2 i u Tx;have OW:i<(hi-lo).toNat:=by
  have:=(OA.mp e1).1;rw[i9] at this;exact this
 have:x=V.int (lo+(i:Int)):=by
  simp[gm,OW] at e1;exact e1.symm
 subst this;exact⟨t',by rw[Int.mul_one]⟩
def fz (xs ys:List V):Bool:=xs.length==ys.length&&(xs.zip ys).all λp=>Qv p.1 p.2
theorem kL (ns ms:List Int):fz (ns.map V.int) (ms.map V.int)=decide (ns=ms):=by
 unfold fz
 induction ns generalizing ms with
 | nil=>cases ms with
  | nil=>rfl
  | cons m ms=>simp
 | cons n ns ih=>cases ms with
  | nil=>simp
  | cons m ms=>
   have:=ih ms;simp only[NT,N7,OB,Xe,Zl] at this ⊢;have e:(ns.length+1==ms.length+1)=(ns.length==ms.length):=by
    rw[Sz];simp
   rw[e];have e2:Qv (V.int n) (V.int m)=(n==m):=rfl;rw[e2]
   by_cases hh:n=m
   .subst hh;simp only[beq_self_eq_true,Bool.true_and];rw[this,Sz];simp
   .have:(n==m)=false:=by simpa using hh
    rw[this];simp[hh]
theorem zw:∀(xs ys:List V) (k:Nat),xs.length=ys.length->(∀(i:Nat) x y,xs[i]?=some x->ys[i]?=some y->e (k+i)=Qv x y)->((aa1 k xs.length).all e)=(xs.zip ys).all λp=>Qv p.1 p.2
 | [],ys,k,_,_=>by simp
 | x::xs,[],k,h,_=>by simp at h
 | x::xs,y::ys,k,h,he=>by
  have ih:=zw xs ys (k+1) (by simpa using h) λi x' y' h1 h2=>by
   have:=he (i+1) x' y' (by simpa using h1) (by simpa using h2);rw[show k+1+i=k+(i+1) by lia];exact this
  rw[OB,acz,Zl,Xe,Zl,ih];have:=he 0 x y rfl rfl;rw[aaV] at this;rw[this]
theorem BB {xs ys:List V}(hn:n=xs.length)(hl:xs.length=ys.length)(he:∀(i:Nat) x y,xs[i]?=some x->ys[i]?=some y->e i=Qv x y):(Oe n).all e=(xs.zip ys).all λp=>Qv p.1 p.2:=by
 subst hn;rw[List.range_eq_range'];exact zw xs ys 0 hl λi x y h1 h2=>by rw[aaW];exact he i x y h1 h2
def jR (xs ys:List V)(j:Nat):Bool:=match xs[j]?,ys[j]? with
 | some x,some y=>Qv x y
 | _,_=>false
theorem nX (r1:aL xs us)(r2:aL ys vs)(f1:xs.all dC=true)(f2:ys.all dC=true):
  ∀j (h1:j<us.toArray.size) (h2:j<vs.toArray.size),RP A s us.toArray[j] vs.toArray[j] (jR xs ys j):=by
 intro j h1 h2;have l1:=r1.length;have l2:=r2.length;have h1':j<us.length:=by simpa using h1
 have h2':j<vs.length:=by simpa using h2
 obtain⟨u,e1,q1⟩:=r1.get (i:=j) (x:=xs[j]'(by lia)) (by simp);obtain⟨v,e2,q2⟩:=r2.get (i:=j) (x:=ys[j]'(by lia)) (by simp);have Vh:us.toArray[j]=u:=by
  have:=(OA.mp e1).2;simpa using this
 have Tx:vs.toArray[j]=v:=by
  have:=(OA.mp e2).2;simpa using this
 have e3:jR xs ys j=Qv (xs[j]'(by lia)) (ys[j]'(by lia)):=by
  unfold jR;rw[Ou (by lia),Ou (by lia)]
 rw[Vh,Tx,e3];exact zp q1 q2 (Sy.mp f1 _ (UQ _)) (Sy.mp f2 _ (UQ _))
theorem qG (hn:n=xs.length)(hl:xs.length=ys.length):(Oe n).all (jR xs ys)=fz xs ys:=by
 unfold fz;rw[BB hn hl λi x y h1 h2=>by unfold jR;rw[h1,h2]];simp[hl]
theorem pE (h:xs.length≠ys.length):fz xs ys=false:=by
 unfold fz;have:(xs.length==ys.length)=false:=by simpa using h
 rw[this,Zg]
def Fr (K:MZ)(neg:Bool):R2:=λx y H Q=>∃a b xs ys,x=.ref a/\y=.ref b/\Nj K H a xs/\Nj K H b ys/\xs.all dC=true/\ys.all dC=true/\Q (.bl (if neg then !fz xs ys else fz xs ys)) H
theorem zx (hu:X.A.units<ND):N4 X (Ps .Eq) (Fr X.K false):=by
 intro aa s σ H x y v u Q I rx ry h;obtain⟨a,b,xs,ys,rfl,rfl,ha,hb,f1,f2,q⟩:=h;cases rx;cases ry;obtain⟨MY,r1,p1,_⟩:=I.list ha;obtain⟨U3,r2,p2,_⟩:=I.list hb;have l1:=r1.length;have l2:=r2.length
 by_cases hl:xs.length=ys.length
 .refine SeqAt.eq_listAt (e:=jR xs ys) p1.isList p2.isList (by simp;lia) hu (nX r1 r2 f1 f2) ⟨.bl (fz xs ys),H,I,?_,q⟩;show _=RN _;rw[qG (by simp;lia) hl]
 .refine SeqAt.eq_list_lengthsAt p1.isList p2.isList (by simp;lia) hu ⟨.bl (fz xs ys),H,I,?_,q⟩;show _=RN _;rw[pE hl]
theorem tK (hu:X.A.units<ND):N4 X (Ps .NotEq) (Fr X.K true):=by
 intro aa s σ H x y v u Q I rx ry h;obtain⟨a,b,xs,ys,rfl,rfl,ha,hb,f1,f2,q⟩:=h;cases rx;cases ry;obtain⟨MY,r1,p1,_⟩:=I.list ha;obtain⟨U3,r2,p2,_⟩:=I.list hb;have l1:=r1.length;have l2:=r2.length
 by_cases hl:xs.length=ys.length
 .refine aeV (e:=jR xs ys) p1.isList p2.isList (by simp;lia) hu (nX r1 r2 f1 f2) _ _ _ _ ⟨.bl (!fz xs ys),H,I,?_,q⟩;show _=RN _;rw[qG (by simp;lia) hl]
 .refine ad8 p1.isList p2.isList (by simp;lia) hu _ _ _ _ ⟨.bl (!fz xs ys),H,I,?_,q⟩;show _=RN _;rw[pE hl];rfl
end
section
theorem nY {σ:St}{tk:Nat}(I:Inv X aa σ H s)(k:∀b u,b∉[s.heap.objs.size]->(s.heap.push o).get? b=some u->h'.get? b=some u):Inv X aa σ H { s with heap:=h',toks:=tk }:=by
 have I1:Inv X aa σ H { s with heap:=s.heap.push o }:=I.kept (t':=s.toks) λb u e=>NK _ e;obtain⟨f0,f1,_,f3,f4,f5⟩:=I.XJ (b:=s.heap.objs.size) (Nl _) (I.Nf.fresh (Nl _));have z:=Inv.turned (s:={ s with heap:=s.heap.push o }) (h':=h') (t':=tk) (it:=s.heap.objs.size) I1 (λb u hb e=>k b u (by simpa using hb) e) f0 f1 f3 f4 f5;exact z
theorem tL (hc:X.calm=true):cK X (.builtin "all") (λxs H Q=>∃(p:A') (bs:List Bool),xs=[.ref p]/\Nj X.K H p (bs.map V.bl)/\Q (.bl (bs.all id)) H):=by
 intro aa s σ H xs us Q I r h;obtain⟨p,bs,rfl,hp,q⟩:=h;obtain⟨u,rfl,ru⟩:=dm r;cases ru;obtain⟨MY,rv,pl,hz⟩:=I.list hp;have hl:=rv.length;rw[NT] at hl;have Ol:p≠s.heap.objs.size:=by
  obtain⟨o,ho,_⟩:=pl.isList;exact N0 (NC ho)
 have tr:TruthOf X.prog X.w X.A.in1 (λi v=>MY.toArray[i]?=some v) (λi=>(bs[i]?).getD false):=λi v s' Q' E' hP hQ=>by
  have e:MY[i]?=some v:=by simpa using hP
  have hi:i<bs.length:=by have:=(OA.mp e).1;lia
  obtain⟨w,e1,e2⟩:=rv.get (i:=i) (x:=V.bl bs[i]) (by simp[hi]);rw[e] at e1;cases e1;cases e2;refine Rb ?_;have Yi:Q' ((bs[i]?).getD false) s':=hQ;rw[Ou hi] at Yi;exact Yi
 refine call_all_walk (aaw pl.isList ⟨s.heap.objs.size,_,_,_,_,_,_,rfl,ac8 (A:=X.A.in1) (show X.A.in1.handled=none from I.ok.hd hc) s.heap.objs.size p Ol MY.toArray,⟨⟨_,OH _ rfl,rfl,rfl⟩,pl.isList.at λo e=>NK _ e⟩,tr,λh' tk k=>?_⟩);have Iw:Inv X aa σ H { s with heap:=h',toks:=tk }:=nY I k;refine⟨.bl (bs.all id),H,Iw,?_,q⟩;show _=RN _
 congr 1
 have:∀(l:List Bool),(Oe l.length).all (λi=>(l[i]?).getD false)=l.all id:=λl=>by
  rw[Sz];simp only[Sy,Pn,id];constructor
  .intro h x hx;obtain⟨i,hi,e⟩:=aeI hx;have:=h i hi;rw[Ou hi,e] at this;exact this
  .intro h i hi;rw[Ou hi];exact h _ (UQ _)
 rw[Od,<-hl];exact this bs
theorem vP (hl:UY s.heap l vs.toArray)(hsz:vs.length<=Nh)(h:Q vs { s with heap:=(s.heap.push (NX "list" #[] 0)).update s.heap.objs.size (PP (·++vs.toArray)) }):M3 (M8 prog w) A (collect (.ref l)) Q E s:=by
 obtain⟨o,ho,hc,n,hd⟩:=id hl;have Ty:(s.heap.push (NX "list" #[] 0)).get? l=some o:=NK _ ho;have hS:(s.heap.push (NX "list" #[] 0)).get? s.heap.objs.size=some (NX "list" #[] 0):=OH _ rfl;unfold collect;refine MW (acO (SB entry_proto_collect' ?_));show M3 _ _ (newList [] >>= λv=>again (.builtin "list.__iadd__" ⟨[v,.ref l],[]⟩)) _ _ s;refine MW (Xo (M1 ⟨acn _ (by decide +kernel),SB entry_list_iadd' ?_⟩));show M3 _ _ (adZ (.ref s.heap.objs.size) (.ref l) (.ref s.heap.objs.size)) _ _ _;unfold adZ;refine MW (VY (T:="tuple") ⟨o,Ty,hc⟩ ?_);have e1:(P4.List.listSameRef (.ref s.heap.objs.size) (.ref l)||QS "tuple"==QS "list"||QS "tuple"==QS "tuple")=true:=by
  rw[show(QS "tuple"==QS "tuple")=true from rfl,Bool.or_true]
 rw[M6 e1];refine MW (Xq Ty hd (MW (Xq hS rfl ?_)));rw[M0 (by simp)];refine MW (aaP hS rfl ?_ (Ow _) (by rw[Array.size_append,Od];simp;lia));refine M1 ?_;have hU:=aaG hS (·++vs.toArray);refine MW (wpAny_load hU ?_);show M3 _ _ (pure ((#[]:Array D')++vs.toArray).toList) Q E _;rw[Array.empty_append,List.toList_toArray];exact M1 h
theorem xY (hl:UY s.heap l vs.toArray)(hI:RQ vs ns)(Tz:vs.length<64)(h:∀(out:Array D') (OQ:List Int),RQ out.toList OQ->OQ.Perm ns->OQ.Pairwise (·<=·)->Q (.ref (s.heap.objs.size+1)) { s with heap:=sortedAll s.heap vs out }):
  M3 (M8 prog w) A (call (.builtin "sorted") [.ref l]) Q E s:=by
 refine abX kind_sorted plain_sorted entry_sorted (args_sorted1 _) ?_;have hz:((s.heap.push (NX "list" #[] 0)).update s.heap.objs.size (PP (·++vs.toArray))).objs.size=s.heap.objs.size+1:=by rw[M4.size_update,size_push']
 have hL:(((s.heap.push (NX "list" #[] 0)).update s.heap.objs.size (PP (·++vs.toArray))).push (NX "list" vs.toArray 0)).get? (s.heap.objs.size+1)=some (NX "list" vs.toArray 0):=by
  rw[<-hz];exact OH _ rfl
 unfold P4.«sorted»;refine MW (m:=checkCount "sorted" 1 1 _) (M1 (MW (vP hl (by rw[NU];lia) (MW (Xo ?_)))));show M3 _ _ _ _ _ { s with heap:=((s.heap.push (NX "list" #[] 0)).update s.heap.objs.size (PP (·++vs.toArray))).push (NX "list" vs.toArray 0) };rw[hz];refine MW (PN (RK abS ⟨_,hL,rfl⟩ abQ (list_sort_tree hL hI Tz λout OQ a1 a2 a3=>⟨_,rfl,M1 ⟨_,rfl,h out OQ a1 a2 a3⟩⟩) (acP _)))
theorem tM:cK X (.builtin "sorted") (λxs H Q=>∃(p:A') (ns:List Int),xs=[.ref p]/\Ni X.K H p (ns.map V.int)/\ns.length<64/\∀(l:A') (OQ:List Int),H l=none->OQ.Perm ns->OQ.Pairwise (·<=·)->Q (.ref l) (upd H l (.lst (OQ.map V.int)))):=by
 intro aa s σ H xs us Q I r h;obtain⟨p,ns,rfl,hp,Tz,q⟩:=h;obtain⟨u,rfl,ru⟩:=dm r;cases ru;obtain⟨MY,rv,pl,hz⟩:=I.tuple hp;have hl:=rv.length;rw[NT] at hl;refine xY pl (xW rv) (by lia) λout OQ h1 h2 h3=>?_;obtain⟨e,he⟩:=sortedAll_at s.heap MY out;have abe:H (s.heap.objs.size+1)=none:=I.Nf.fresh (V0 _);have hv:aL (OQ.map V.int) out.toList:=iP h1;have hlen:OQ.length=ns.length:=h2.length_eq;refine⟨.ref (s.heap.objs.size+1),_,I.laid (t':=s.toks) (o:=.lst (OQ.map V.int)) (λb o z=>sortedAll_old z) (V0 _) ⟨by rw[NT,NU];lia,out.toList,e,hv,by simpa [NX] using he⟩,rfl,q _ OQ abe h2 h3⟩
theorem BC:N4 X (binaryOp .Add) (λx y H Q=>∃a b ys,x=.ref a/\y=.ref b/\Ni X.K H a []/\Ni X.K H b ys/\Q (.ref b) H):=by
 intro aa s σ H x y v u Q I rx ry h;obtain⟨a,b,ys,rfl,rfl,ha,hb,q⟩:=h;cases rx;cases ry;obtain⟨MY,r1,p1,_⟩:=I.tuple ha;obtain⟨U3,r2,p2,_⟩:=I.tuple hb;cases r1;obtain⟨⟨cls,dd,data,sl⟩,ho,hc,n,hd⟩:=id p1;obtain⟨⟨afv,Z3,data2,Z4⟩,Tv,Wb,n2,hd2⟩:=id p2;simp only at hc hd Wb hd2;subst hc hd Wb hd2;exact concat_meets ⟨_,ho,rfl⟩ ⟨_,Tv,rfl⟩ acx acV ab6 ab4 (ab0 _ _)
  (tuple_addW0 a b #[] U3.toArray n n2 dd Z3 sl Z4 rfl) ⟨ho,Tv,⟨.ref b,H,I,rfl,q⟩⟩
end
def PF (X:Cx)(e:Nn)(P:St->Hp->Prop)(k:Nat):Prop:=
 ∀(aa:List (A'×G')) (s:J') (σ:St) (H:Hp) (Q:D'->J'->Prop),Inv X aa σ H s->P σ H->(∀y t s',Inv X aa σ H s'->y.length<=k->Q (.str y t) s')->M3 (M8 X.prog X.w) X.A (eval e X.env) Q X.xe s
def PJ (X:Cx)(es:List Nn)(P:St->Hp->Prop)(n:Nat):Prop:=
 ∀(aa:List (A'×G')) (s:J') (σ:St) (H:Hp) (acc:MV) (Q:MV->J'->Prop),Inv X aa σ H s->P σ H->acc.length+n<=Nh->(∀out s',Inv X aa σ H s'->out.length<=acc.length+n->Q out s')->
  Joins (M8 X.prog X.w) X.A X.xe (evalEach es X.env) acc Q s
section
theorem nZ:PJ X [] (λ_ _=>True) 0:=λaa s σ H acc Q I _ _ h=>h acc s I (Nl _)
theorem cY (h1:PF X e P k)(h2:PJ X es R n)(he:evalEach (e::es) X.env=eval e X.env::evalEach es X.env:=by rfl):PJ X (e::es) (λσ H=>P σ H/\R σ H) (k+n):=by
 intro aa s σ H acc Q I hp hz hq;rw[he];refine h1 aa s σ H _ I hp.1 λy t s1 I1 hy=>?_;have hl:(acc++y).length=acc.length+y.length:=acW acc y;refine⟨y,t,rfl,by lia,?_⟩;exact h2 aa s1 σ H _ _ I1 hp.2 (by lia) λout s2 I2 ho=>hq out s2 I2 (by lia)
theorem lK (h:PJ X (QX::QY::rest) P n)(hn:n<=Nh):PE X (.JoinedStr (QX::QY::rest) pos) (λσ H Q=>P σ H/\∀x,Q (.str x) H):=by
 intro aa s σ H Q I hq;have hz:Str.empty.length=0:=rfl;refine wpAny_JoinedStr (h aa s σ H _ _ I hq.1 (by lia) λout s' I' ho=>⟨by lia,?_⟩);exact⟨.str out,H,I'.tok _,⟨_,rfl⟩,hq.2 out⟩
theorem hJ {j pos}(h:x.length<=k):PF X (.Constant (.str x) j pos) (λ_ _=>True) k:=λaa s σ H Q I _ hq=>aeT (hq x _ _ (I.tok _) h)
def isI (te:TE):St->Hp->Prop:=λσ H=>te σ H λv H'=>H'=H/\∃i:Int,v=.int i/\i.natAbs.log2<1900
def isT (K:MZ)(te:TE):St->Hp->Prop:=λσ H=>te σ H λv H'=>H'=H/\∃(a:A') (ns:List Int),v=.ref a/\Ni K H a (ns.map V.int)/\ns.length<=64/\∀i∈ns,i.natAbs.log2<1900
theorem pF {i:Int}(h:i.natAbs.log2<1900):(R7 (toString i)).length<=1901:=by
 rw[PySem.ofString_length];exact int_text_length_le (by decide) h
theorem tN (h:PE X e te):PF X (.FormattedValue e (-1) none pos) (isI te) 1901:=by
 intro aa s σ H Q I hp hq;refine wpAny_FormattedValue_plain (Nk (h aa s σ H _ I hp) λu s1 ⟨v,H1,I1,r,eH,i,ev,hb⟩=>?_);subst eH ev;obtain⟨t,rfl⟩:=r;exact wpAny_formatField_int (by lia) (hq _ _ _ (I1.tok _) (pF hb))
theorem D4 (h:PE X e te):PF X (.FormattedValue e 114 none pos) (isI te) 1901:=by
 intro aa s σ H Q I hp hq;refine aea (Nk (h aa s σ H _ I hp) λu s1 ⟨v,H1,I1,r,eH,i,ev,hb⟩=>?_);subst eH ev;obtain⟨t,rfl⟩:=r;have hl:=pF hb;have hz:(R7 (toString i)).length<=Nh:=by rw[NU];lia
 refine wpAny_pyReprObj_gives (aa4 _ i t) F.slot_int_repr F.entry_int_repr (F.args_int_repr_1 _) (gives_int_repr i t (by lia)) ?_ rfl hz;exact wpAny_formatField_str (hq _ _ _ (I1.tok _) hl) (hq _ _ _ ((I1.tok _).tok _) hl) hz
theorem Fs (h:∀t∈ts,t.length<=m):(tupleText ts).length<=ts.length*(m+2)+4:=by
 have hp:∀l:List MV,(∀t∈l,t.length<=m)->piled l<=l.length*(m+2):=λl=>by
  induction l with
  | nil=>intro _;simp[piled]
  | cons t r ih=>
   intro hh;have:=ih λu hu=>hh u (NP _ hu);have h1:=hh t Nu;rw[piled_cons,OB,ac2];lia
 have hj:(MV.join ", " ts).length<=piled ts:=by
  cases ts with
  | nil=>exact Nl _
  | cons t r=>have:=join_length_add (t::r) (by simp);lia
 unfold tupleText;rw[acW,acW];have e1:(("(":String):MV).length=1:=rfl;have e2:((if ts.length==1 then ",)" else ")":String):MV).length<=2:=by
  split
  .exact VX rfl
  .exact Nat.le_succ_of_le (VX rfl)
 have:=hp ts h;have Vh:(R7 "(").length=1:=rfl;lia
theorem pG (hr:MX k X.A)(h:PE X e te):PF X (.FormattedValue e 114 none pos) (isT X.K te) 200000:=by
 intro aa s σ H Q I hp hq;refine aea (Nk (h aa s σ H _ I hp) λu s1 ⟨v,H1,I1,r,eH,a,ns,ev,ht,hn,hb⟩=>?_);subst eH ev;cases r;obtain⟨MY,rv,pl,hz⟩:=I1.tuple ht;obtain⟨o,ho,hc,n,hd⟩:=pl;have Qu:∀(ns:List Int) (us:List D'),(∀i∈ns,i.natAbs.log2<1900)->aL (ns.map V.int) us->ReprAllK X.prog X.w [] s1.heap 0 us (ns.map λi=>R7 (toString i)):=by
  intro ns
  induction ns with
  | nil=>intro us _ rr;cases rr;exact .nil
  | cons i ns ih=>
   intro us hh rr;cases rr with
   | cons r1 r2=>
    obtain⟨t,rfl⟩:=r1;exact .cons (ReprK.of_is (ReprIs.int t (by have:=hh i Nu;lia)) _ _ _) (ih _ (λj hj=>hh j (NP _ hj)) r2)
 have hlen:(tupleText (ns.map λi=>R7 (toString i))).length<=200000:=by
  have:=Fs (ts:=ns.map λi=>R7 (toString i)) (m:=1901) λt ht=>by
   obtain⟨i,hi,rfl⟩:=NR.mp ht;exact pF (hb i hi)
  rw[NT] at this;have h2:ns.length*(1901+2)<=64*1903:=VH _ hn;lia
 have hu:=hr.units;refine wpAny_pyReprObj_tupleK ho hc hd (by simp) (Qu ns MY hb rv) hr.gd (λb _=>Clear.nil b) (by lia) (λb o z=>z) (λh' u tk hk=>?_) (by rw[NU];lia);have I2:Inv X aa σ H1 { s1 with heap:=h',toks:=tk }:=I1.kept hk;exact wpAny_formatField_str (hq _ _ _ I2 hlen) (hq _ _ _ (I2.tok _) hlen) (by rw[NU];lia)
end
def Ft (a:A')(cls:D'):HO:=.ext λh=>∃oe vs,h.get? a=some oe/\oe.cls=cls/\oe.data=.fields vs
section
end
theorem zy {K:MZ}(I:K.In h)(hc:aa7 K C=true):W.Looks M h (isType (.ref C)) true:=by
 unfold aa7 W.clsIn at hc
 split at hc
 .rename_i c' d' cd' X2 lk;intro A Q E s k q;unfold isType loadHead;exact MW (wpAny_loadPart (k _ _ (I _ _ lk)) (M1 q))
 .cases hc
section
end
structure U6 (K)(C):Prop where
 cl:aa7 K C=true
 ga:QG K (.ref C) "__getattribute__"=some (some (.builtin "BaseException.__getattribute__"))
 gt:QG K (.ref C) "__getattr__"=some none
 cls:QG K (.ref C) "__class__"=some (some (.builtin "object.__class__"))
 ob:W.mroIn K C (.type "object")=some true
 be:W.mroIn K C (.type "BaseException")=some true
section
variable {prog:Ng}{w:M7}{A:Nv}{K:MZ}{h:M4}{g:Array GenState}{d:Drawn}{t:Nat}{os:Pz}{a:A'}{C:A'}{o:G'} in
theorem xZ {R:Result->J'->Prop}(X:K.In h)(F0:U6 K C)(hx:h.get? a=some o)(hc:o.cls=.ref C)(hq:R (.ok (.ret (.ref C))) ⟨h,g,d,t,os⟩):
  codeAny (M8 prog w) A (.call (.builtin "getset_descriptor.__get__") ⟨[.builtin "object.__class__",.ref a,.ref C],[]⟩) R ⟨h,g,d,t,os⟩:=by
 have hT5:(⟨h,g,d,t,os⟩:J').TypeIs (.builtin "object.__class__") "getset_descriptor":=acd;have L1:=W.looks_mroIn (M:=M8 prog w) X F0.ob;have afB:(".".intercalate ("object.__class__".cutAt '.').dropLast)="object":=F.owner_object_class;refine ach acX.plain F.entry_gs_get (acX.check _ _ _ _ _ _ _ _ hT5 (F.args_gs_get _ _ _) ?_)
 repeat (any_goals (first|assumption|(with_reducible refine Y8 hx ?_;rw[hc])|(rw[afB];refine L1.at ?_)|wp_step))
 refine⟨acn _ (by decide +kernel),SB F.entry_object_class ?_⟩
 repeat (any_goals (first|assumption|(with_reducible refine Y8 hx ?_;rw[hc])|wp_step))
variable {prog:Ng}{w:M7}{A:Nv}{E:D'->J'->Prop}{K:MZ}{h:M4}{g:Array GenState}{d:Drawn}{t:Nat}{os:Pz}{a:A'}{C:A'}{o:G'} in
theorem tP {tk:Tok}{Q:Fin->J'->Prop}(X:K.In h)(F0:U6 K C)(hx:h.get? a=some o)(hc:o.cls=.ref C)(hq:Q (.done (.ret (.ref C))) ⟨h,g,d,t,os⟩):
  M3 (M8 prog w) A (P4.«object.__getattribute__» ⟨[.ref a,.str "__class__" tk],[]⟩) Q E ⟨h,g,d,t,os⟩:=by
 have hT5:(⟨h,g,d,t,os⟩:J').TypeIs (.builtin "object.__class__") "getset_descriptor":=acd;have L1:=aaK (M:=M8 prog w) X F0.cls;have f5:=acd;have f6:=acX.lookup;have f7:=F.slot_gs_set.lookup
 repeat (any_goals (first|assumption|(with_reducible refine Y8 hx ?_;rw[hc])|(with_reducible refine L1.at ?_)|wp_step))
 refine xZ X F0 hx hc ?_
 repeat (any_goals (first|assumption|wp_step))
variable {A:Nv}{E:D'->J'->Prop}{K:MZ}{h:M4}{g:Array GenState}{d:Drawn}{t:Nat}{os:Pz}{a:A'}{C:A'}{o:G'} in
theorem tQ {M:UZ}{adi:D'}{Q:Unit->J'->Prop}(X:K.In h)(F0:U6 K C)(hx:h.get? a=some o)(hc:o.cls=.ref C)(hq:Q () ⟨h,g,d,t,os⟩):
  M3 M A (checkBuiltinCall "BaseException.__getattribute__" ⟨[.ref a,adi],[]⟩) Q E ⟨h,g,d,t,os⟩:=by
 have L1:=W.looks_mroIn (M:=M) X F0.be;have hk:builtinKind "BaseException.__getattribute__"=some .slot:=by decide +kernel
 have NW:splitId "BaseException.__getattribute__"=some ("BaseException","__getattribute__"):=by decide +kernel
 have agc:=F.args_bexc_ga (.ref a) adi;simp only[checkBuiltinCall,hk,NW];refine MW ?_;unfold isInstance
 repeat (first|(with_reducible refine Y8 hx ?_;rw[hc])|(with_reducible refine L1.at ?_)|wp_step)
 exact hq
variable {prog:Ng}{w:M7}{A:Nv}{E:D'->J'->Prop}{K:MZ}{h:M4}{g:Array GenState}{d:Drawn}{t:Nat}{os:Pz}{a:A'}{C:A'}{o:G'} in
theorem zz {tk:Tok}{Q:D'->J'->Prop}(X:K.In h)(F0:U6 K C)(hx:h.get? a=some o)(hc:o.cls=.ref C)(hq:Q (.ref C) ⟨h,g,d,t,os⟩):
  M3 (M8 prog w) A (getAttrBy (.ref a) (.str "__class__" tk) false) Q E ⟨h,g,d,t,os⟩:=by
 have FB:Slot "ValueError" "__getattribute__" "BaseException.__getattribute__":=PySem.F.attr_ValueError.ga;have f3:=FB.bind (.ref a);have L1:=aaK (M:=M8 prog w) X F0.ga;have L2:=aaK (M:=M8 prog w) X F0.gt;have Wg:(VU "BaseException.__getattribute__"==VU "object.__getattribute__")=false:=by decide +kernel
 have Vl:(onTheHeap (NQ C)&&VU "BaseException.__getattribute__"==VU "object.__getattribute__")=false:=by rw[Wg];exact aaL _
 repeat (any_goals (first|assumption|(with_reducible refine Y8 hx ?_;rw[hc])|(with_reducible refine L1.at ?_)|(with_reducible refine L2.at ?_)|wp_step))
 refine ach FB.plain F.entry_bexc_ga (tQ X F0 hx hc (tP X F0 hx hc ?_))
 repeat (any_goals (first|assumption|wp_step))
variable {prog:Ng}{w:M7}{A:Nv}{E:D'->J'->Prop}{K:MZ}{h:M4}{g:Array GenState}{d:Drawn}{t:Nat}{os:Pz}{a:A'}{C:A'}{o:G'} in
theorem vQ {Q:Option D'->J'->Prop}(X:K.In h)(F0:U6 K C)(hx:h.get? a=some o)(hc:o.cls=.ref C)(hq:Q (some (.ref C)) ⟨h,g,d,t+1,os⟩):
  M3 (M8 prog w) A (getAttr? (.ref a) "__class__") Q E ⟨h,g,d,t,os⟩:=by
 unfold getAttr? getAttrBy?
 repeat (any_goals (first|assumption|with_reducible apply zz X F0 hx hc|wp_step))
end
theorem BD {K:MZ}(F0:U6 K C):W.KitX K (.ref a) (.ref C) (λh=>∃oe,h.get? a=some oe/\oe.cls=.ref C) where
 ty:=λM h _ ⟨oe,e,c⟩=>c▸(W.Looks.ld e).andThen .now
 it:=λM h X _=>zy X F0.cl
 ne:=λh tp dd MY n sl X htp=>by
  refine act.mpr λq=>?_;have e:C=tp:=NQ.inj (beq_iff_eq.mp q);subst e;have hc:=F0.cl;unfold aa7 W.clsIn at hc
  split at hc
  .rename_i c' d' cd' X2 lk;have z:=(X _ _ lk).symm.trans htp;cases z
  .cases hc
 ca:=λ{prog w A E Q s} X ⟨oe,e,c⟩ k=>by
  obtain⟨h,g,d,t,os⟩:=s;exact vQ X F0 e c k
inductive Yj (K)(H):V->D'->Prop where
 | of {x:V}{t:D'}(h:Rz K H x t):Yj K H x t
 | tup {a:A'}{xs:List V}(h:Ni K H a xs):Yj K H (.ref a) (.type "tuple")
 | lst {a:A'}{xs:List V}(h:Nj K H a xs):Yj K H (.ref a) (.type "list")
 | exc {a C:A'}(h:H a=some (Ft a (.ref C))) (F0:U6 K C):Yj K H (.ref a) (.ref C)
def J8:V->D'->Prop
 | .ty n,c=>c=.type n
 | .ref C,c=>c=.ref C
 | _,_=>False
theorem cZ:cK X (.builtin "isinstance") (λxs H Q=>∃x cv t c b,xs=[x,cv]/\J8 cv c/\Yj X.K H x t/\UU X.K t c=some b/\Q (.bl b) H):=by
 intro aa s σ H xs us Q I r h;obtain⟨x,cv,t,c,b,rfl,hcv,ty,e,q⟩:=h;obtain⟨u,v,rfl,ru,rv⟩:=r.two;have hv:v=c:=by
  cases cv with
  | ty n=>exact(show v=_ from rv).trans (show c=_ from hcv).symm
  | ref C=>exact(show v=_ from rv).trans (show c=_ from hcv).symm
  | _=>exact P3 hcv
 subst hv;have fin:∀tk,EP X aa σ Q (.bool b) { s with toks:=tk }:=λtk=>⟨.bl b,H,I.tok tk,rfl,q⟩
 cases ty with
 | of ty=>exact zm I ru ty e fin
 | @tup a xs ht=>
  cases (show u=NQ a from ru);obtain⟨MY,_,p,_⟩:=I.tuple ht;obtain⟨o,h1,h2,_⟩:=p;exact Ry W.kitx_tuple I.Ox ⟨o,h1,h2⟩ e (λz=>nomatch z) fin
 | @lst a xs ht=>
  cases (show u=NQ a from ru);obtain⟨MY,_,p,_⟩:=I.list ht;obtain⟨o,h1,h2,_⟩:=p.isList;exact Ry W.kitx_list I.Ox ⟨o,h1,h2⟩ e (λz=>nomatch z) fin
 | @exc a C ha F0=>
  cases (show u=NQ a from ru);obtain⟨⟨oe,vs,h1,h2,_⟩,_⟩:=(show bz X.prog X.w H s.heap a (Ft a (.ref C)) from I.Nf a _ ha)
  exact Ry (BD F0) I.Ox ⟨oe,h1,h2⟩ e (λz=>nomatch z) fin
theorem Fu {K:MZ}:UU K (.type "int") (.type "int")=some true:=rfl
theorem Fv {K:MZ}:UU K (.type "int") (.type "bool")=some false:=by kernel_rfl
theorem jt {K:MZ}:UU K (.type "tuple") (.type "tuple")=some true:=rfl
theorem MU {K:MZ}:UU K (.type "bool") (.type "bool")=some true:=rfl
theorem Fx {K:MZ}:UU K (.type "list") (.type "list")=some true:=rfl
section
end
section
end
end L2
namespace Mx
def bw (n:Nat):List Int:=(Oe n).map λ(i:Nat)=>(i:Int)
theorem eB (n:Nat):(bw n).length=n:=by simp[bw]
theorem dc:x∈bw n↔0<=x/\x<n:=by
 simp only[bw,NR,Pn];constructor
 .rintro⟨i,hi,rfl⟩;lia
 .rintro⟨h0,h1⟩;exact⟨x.toNat,by lia,by lia⟩
theorem x8 (n:Nat):(bw n).Nodup:=by
 unfold bw Xw;rw[Sx];exact(aaB (n:=n)).imp (λh e=>h (by lia))
theorem vS (n:Nat):(bw n).Pairwise (·<=·):=by
 unfold bw;rw[Sx];exact(YY (n:=n)).imp (λh=>by lia)
def lL (l:List Int):List Int:=l.mergeSort λa b=>decide (a<=b)
theorem n6 (l):(lL l).Perm l:=List.mergeSort_perm l _
theorem tR (l):(lL l).Pairwise (·<=·):=by
 have h:=List.pairwise_mergeSort (le:=λa b:Int=>decide (a<=b)) (by intro a b c;simp;lia) (by intro a b;simp;lia) l;exact h.imp (λh=>by simpa using h)
theorem tS (p:ys.Perm l)(s:ys.Pairwise (·<=·)):ys=lL l:=
 aeg (λa b _ _ h1 h2=>Int.le_antisymm h1 h2) s (tR l) (p.trans (n6 l).symm)
def Ord (l:List Int):Prop:=lL l=bw l.length
theorem Ord.perm (h:Ord l):l.Perm (bw l.length):=by
 have p:=(n6 l).symm;rw[h] at p;exact p
theorem Ord.mem (h:Ord l)(hx:x∈l):0<=x/\x<l.length:=dc.mp (h.perm.mem_iff.mp hx)
end Mx
namespace L2
open PySem PySem.Spec PyProof.Rows
structure Df (P)(w)(K)(mg:MV->Option D')(base)(CX)(k:Nat)(x)(ps)(sp):Prop where
 ex:∃f fd,Nq P w K mg base CX k f fd ps sp/\bH K fd ps []/\R8 K (.ref f)=true/\mg x=some (.ref f)
def zA (sp:Sp)(E:St->XK)(t:TA):TE:=λσ H Q=>t σ H λvs H1=>sp vs H1 Q (E σ)
theorem aE (D:Df X.prog X.w X.K X.mg X.base CX k x ps sp)(hr:MX k X.A)(hg:Gl X x)(hx:fI CX X E)(ha:PA X (e::es) t)(Q1:(x==("__debug__":MV))=false:=by decide)(he:Ob (e::es) X.env=(false,eval e X.env)::Ob es X.env:=by rfl)(Qo:(backTo pos (Ob es X.env)).any (·.1)=false:=by rfl):
  PE X (.Call (.Name x p) (e::es) [] pos) (zA sp E t):=by
 obtain⟨f,fd,F,b,kp,m⟩:=D.ex;intro aa s σ H Q I h;refine Bz (Pk:=[]) (ds:=[]) F hr hg m kp b .nil hx ha Q1 he Qo aa s σ H Q I ?_;have e1:(λ(vs:List V) H1=>sp (vs++[]) H1 Q (E σ))=λvs H1=>sp vs H1 Q (E σ):=by funext vs H1;rw[QD]
 show t σ H (λvs H1=>sp (vs++[]) H1 Q (E σ));rw[e1];exact h
theorem x9:fI (P6 P w) X (λ_ _ _ _=>False):=λ_ _ _ _ _ _ _ ⟨_,_,_,_,_,_,_,_,_,z⟩=>z.elim
theorem fT:Qc "isinstance"=some (.builtin "isinstance"):=by decide +kernel
theorem Dl:Qc "int"=some (.type "int"):=by decide +kernel
theorem Fy:Qc "bool"=some (.type "bool"):=by decide +kernel
theorem dB:Qc "tuple"=some (.type "tuple"):=by decide +kernel
theorem ju:Qc "list"=some (.type "list"):=by decide +kernel
theorem pH:Qc "range"=some (.type "range"):=by decide +kernel
theorem jS:Qc "sorted"=some (.builtin "sorted"):=by decide +kernel
theorem Dm:Qc "all"=some (.builtin "all"):=by decide +kernel
theorem cq:Qc "len"=some (.builtin "len"):=by decide +kernel
theorem aB.NM {K:MZ}(e:aB H H')(h:Ni K H a xs):Ni K H' a xs:=by
 rcases h with(h|⟨o,h⟩)|h
 .exact .inl (.inl (e _ _ h))
 .exact .inl (.inr ⟨o,e _ _ h⟩)
 .exact .inr h
theorem ak (h:H p=none)(o):aB H (upd H p o):=λb u q=>by rw[aq (av q h)];exact q
theorem Nj.up {K:MZ}:Nj K (upd H p (.lst xs)) p xs:=.inl (.inl al)
theorem Ni.up {K:MZ}:Ni K (upd H p (.tup xs)) p xs:=.inl (.inl al)
end L2
namespace Ord
open PySem L2 Mx
def top (i:Nat):M':=PySem.Challenge.pw_ordernest_k30_whole_rules.main.body.getD i (.Pass ⟨0,0,0,0⟩)
abbrev tT:M':=top 7
abbrev tU:M':=top 8
abbrev tV:M':=top 9
abbrev sB:M':=top 10
structure Txt (K)(mg:MV->Option D')(CO):Prop where
 bo:adv K mg "BadOrder" CO
 most:∃t,mg "MOST_THINGS"=some (.int 8 t)
 Sm:mg "isinstance"=none
 int:mg "int"=none
 bool:mg "bool"=none
 tuple:mg "tuple"=none
 list:mg "list"=none
 range:mg "range"=none
 sorted:mg "sorted"=none
 all:mg "all"=none
 len:mg "len"=none
 enum:mg "enumerate"=none
section
def hV:Sp:=λvs H Q _=>∃i:Int,vs=[.int i]/\Q (.bl true) H
theorem D5:N3 ["value"] ["value"] (am tT):=⟨rfl,rfl,rfl,by decide +kernel,rfl,by decide +kernel,by decide +kernel⟩
theorem BE (F:NE K "is_whole" "is_whole" tT f fd)(T:Txt K mg CO):Nq P w K mg base Nb 1 f fd ["value"] hV:=by
 refine F.ok D5 (λvs H Q E h=>?_) (λNo A outer s H vs Q E hr h=>?_)
 .obtain⟨i,rfl,_⟩:=h;rfl
 obtain⟨i,rfl,q⟩:=h;refine⟨_,af (aH (jj (aQ cZ rfl T.Sm fT (ac (pv 0) (ac (dM (v:=.ty "int") rfl T.int Dl rfl) ae)))
  (kF (y9 (aQ cZ rfl T.Sm fT (ac (pv 0) (ac (dM (v:=.ty "bool") rfl T.bool Fy rfl) ae))))))),?_⟩
 refine⟨_,rfl,_,_,_,_,_,rfl,rfl,.of (.int i),Fu,_,rfl,aZ ?_⟩;exact⟨_,rfl,_,_,_,_,_,rfl,rfl,.of (.int i),Fv,_,rfl,q⟩
def pI:Sp:=λvs H Q _=>∃i:Int,vs=[.int i]/\Q (.bl (decide (1<=i/\i<=8))) H
theorem D6:N3 ["many"] ["many"] (am tU):=⟨rfl,rfl,rfl,by decide +kernel,rfl,by decide +kernel,by decide +kernel⟩
theorem BF (F:NE K "is_count" "is_count" tU f fd)(T:Txt K mg CO)(W:Df P w K mg base Nb 1 "is_whole" ["value"] hV):Nq P w K mg base Nb 2 f fd ["many"] pI:=by
 refine F.ok D6 (λvs H Q E h=>?_) (λNo A outer s H vs Q E hr h=>?_)
 .obtain⟨i,rfl,_⟩:=h;rfl
 obtain⟨i,rfl,q⟩:=h;obtain⟨t8,m8⟩:=T.most;refine⟨_,af (aH (jj (aE W hr rfl (az (E:=λ_ _ _ _=>False)) (ac (pv 0) ae)) (kF (Bq iM iM ag (pv 0) (aM (v:=.int 8) rfl m8 ⟨t8,rfl⟩))))),?_⟩;refine⟨_,rfl,i,rfl,_,rfl,aZ ?_⟩;refine⟨_,rfl,1,i,rfl,rfl,_,rfl,?_⟩
 by_cases h1:1<=i
 .rw[Nz h1];refine aZ ⟨i,8,rfl,rfl,?_⟩;have e:decide (i<=8)=decide (1<=i/\i<=8):=by simp[h1]
  show Q (V.bl (decide (i<=8))) H;rw[e];exact q
 .rw[Ny h1];refine aA ?_;have e:decide (1<=i/\i<=8)=false:=by simp[h1]
  rw[e] at q;exact q
def Yk (i:Int):Prop:=i.natAbs.log2<1900
theorem iQ (h1:-(2 ^ 64)<i)(h2:i<2 ^ 64):Yk i:=by
 have:i.natAbs<2 ^ 64:=by lia
 have h3:i.natAbs.log2<65:=by
  by_cases z:i.natAbs=0
  .rw[z];decide
  .have:=(Nat.log2_lt z (k:=64)).mpr this;lia
 unfold Yk;lia
def lM (CO:A'):Sp:=λvs H Q E=>∃i:Int,vs=[.int i]/\Yk i/\(if 1<=i/\i<=8 then Q .Nr H else E (.ref CO) none H)
theorem D7:N3 ["many"] ["many"] (am tV):=⟨rfl,rfl,rfl,by decide +kernel,rfl,by decide +kernel,by decide +kernel⟩
theorem BG (F:NE K "look_count" "look_count" tV f fd)(T:Txt K mg CO)(W:Df P w K mg base Nb 2 "is_count" ["many"] pI):Nq P w K mg base (P6 P w) 3 f fd ["many"] (lM CO):=by
 refine F.okX D7 (λvs H Q E h=>?_) (λX No A outer s H vs Q E hX hp Wh hr h=>?_)
 .obtain⟨i,rfl,_⟩:=h;rfl
 obtain⟨i,rfl,Ro,q⟩:=h;obtain⟨t8,m8⟩:=T.most;subst hX;refine⟨_,af (aD (cf (cp (aE W hr rfl (az (E:=λ_ _ _ _=>False)) (ac (pv 0) ae))))
  (af (jQ rfl rfl T.bo Wh (ac (lK (cY (D4 (pv 0)) (cY (hJ (k:=100) (by decide)) (cY (tN (aM (v:=.int 8) rfl m8 ⟨t8,rfl⟩)) nZ))) (by decide)) ae))) au),?_⟩
 refine⟨_,rfl,i,rfl,_,rfl,?_⟩
 by_cases c:1<=i/\i<=8
 .rw[Nz c];refine aA ?_;rw[M6 c] at q;exact q
 .rw[Ny c];refine aZ ?_;rw[M0 c] at q;exact⟨⟨⟨_,rfl,rfl,i,rfl,Ro⟩,trivial,⟨rfl,8,rfl,by decide⟩,trivial⟩,λx=>⟨by show 1<=Nh;decide,q⟩⟩
end
end Ord
namespace L2
open PySem PySem.Spec PyProof.Rows
theorem fJ (ns:List Int):(ns.map V.int).all dC=true:=by simp[Sy,dC]
theorem fK (n:Nat):gm 0 n=(Mx.bw n).map V.int:=by simp[gm,Mx.bw]
theorem pJ {ns:List Int}{i:Nat}{x:V}(h:(ns.map V.int)[i]?=some x):∃z,x=.int z/\ns[i]?=some z:=by
 rw[Pa] at h;cases e:ns[i]? with
 | none=>rw[e] at h;cases h
 | some z=>rw[e] at h;exact⟨z,(Rw h).symm,rfl⟩
end L2
namespace Ord
open PySem L2 Mx
section
def tW (n:Int)(ns:List Int):Prop:=1<=n/\n<=8/\(ns.length:Int)=n/\Mx.Ord ns
structure Tp (K:MZ)(H:Hp)(a:A')(ns:List Int):Prop where
 sq:Ni K H a (ns.map V.int)
 len:ns.length<=60
 Ro:∀x∈ns,Yk x
def zB (K:MZ)(CO:A'):Sp:=λvs H Q E=>∃(n:Int) (a:A') (ns:List Int),vs=[.int n,.ref a]/\Yk n/\Tp K H a ns/\
 (tW n ns->∀H',aB H H'->Q .Nr H')/\(¬tW n ns->∀H',aB H H'->E (.ref CO) none H')
theorem zC:N3 ["many","order"] ["many","order"] (am sB):=⟨rfl,rfl,rfl,by decide +kernel,rfl,by decide +kernel,by decide +kernel⟩
theorem D8 (F:NE K "look_order" "look_order" sB f fd)(T:Txt K mg CO)(WC:Df P w K mg base (P6 P w) 3 "look_count" ["many"] (lM CO))(WW:Df P w K mg base Nb 1 "is_whole" ["value"] hV):
  Nq P w K mg base (P6 P w) 4 f fd ["many","order"] (zB K CO):=by
 refine F.okX zC (λvs H Q E h=>?_) (λX No A outer s H vs Q E hX hp Wh hr h=>?_)
 .obtain⟨n,a,ns,rfl,_⟩:=h;rfl
 obtain⟨n,a,ns,rfl,Ro,tp,qg,qb⟩:=h;subst hX;refine⟨_,ad (bE (aE WC hr rfl hp (ac (pv 0) ae)))
  (ad (aD (PW.pt (gQ (cf (cp (aQ cZ rfl T.Sm fT (ac (pv 1) (ac (dM (v:=.ty "tuple") rfl T.tuple dB rfl) ae)))))
    (ig (ar fS (aQ bd rfl T.len cq (ac (pv 1) ae)) (pv 0) (aw _)))))
   (af (jQ rfl rfl T.bo Wh (ac (lK (cY (pG hr (pv 1)) (cY (hJ (k:=100) (by decide)) (cY (tN (pv 0)) (cY (hJ (k:=100) (by decide)) nZ)))) (by decide)) ae))) au)
  (ad (aD (cf (cp (aQ (tL rfl) rfl T.all Dm (ac (eA rfl (show Qf (am sB) ["many","order"] _ _ from by constructor <;> decide +kernel) (im (pv 1)) (λ_ _ _ _ _ _=>hG)
    (λcl C NY OM fp aa=>aE WW (hr.mono (by decide)) rfl (az (E:=λ_ _ _ _=>False)) (ac (pv 0) ae)) zC.nd) ae))))
   (af (jQ rfl rfl T.bo Wh (ac (lK (cY (pG hr (pv 1)) (cY (hJ (k:=100) (by decide)) nZ)) (by decide)) ae))) au)
  (af (aD (ar (tK hr.XH) (aQ tM rfl T.sorted jS (ac (pv 1) ae))
    (bC (gN rfl) rfl T.list ju (ac (bC kK rfl T.range pH (ac (pv 0) ae)) ae)) (aw _))
   (af (jQ rfl rfl T.bo Wh (ac (lK (cY (pG hr (pv 1)) (cY (hJ (k:=100) (by decide)) (cY (tN (pv 0)) (cY (hJ (k:=100) (by decide)) nZ)))) (by decide)) ae))) au)))),?_⟩
 refine⟨_,rfl,n,rfl,Ro,?_⟩
 by_cases c:1<=n/\n<=8
 case neg=>
  rw[M0 c];exact qb (λg=>c ⟨g.1,g.2.1⟩) H (aB.refl H)
 rw[M6 c];have agd:=tp.len;have hl:(ns.map V.int).length=ns.length:=NT _;refine⟨_,rfl,_,_,_,_,_,rfl,rfl,.tup tp.sq,jt,_,rfl,aA ?_⟩;refine⟨_,rfl,a,_,rfl,.inr tp.sq,_,rfl,rfl,_,rfl,?_⟩;have adw:∀H',aB H H'->isT K (dL 1) [some (.int n),some (.ref a)] H':=λH' e=>⟨_,rfl,rfl,a,ns,rfl,e.NM tp.sq,by lia,tp.Ro⟩
 by_cases c2:(ns.length:Int)=n
 case neg=>
  have e1:decide (V.int ((ns.map V.int).length:Nat)=V.int n)=false:=by
   rw[hl];exact Ny λz=>c2 (V.int.inj z)
  rw[e1];refine aZ ?_;exact⟨⟨adw H (aB.refl H),trivial,⟨_,rfl,rfl,n,rfl,Ro⟩,trivial,trivial⟩,λx=>⟨by show 1<=Nh;decide,qb (λg=>c2 g.2.2.1) H (aB.refl H)⟩⟩
 have e1:decide (V.int ((ns.map V.int).length:Nat)=V.int n)=true:=by
  rw[hl];exact Nz (congrArg V.int c2)
 rw[e1];refine aA ?_;refine⟨_,rfl,a,rfl,⟨_,tp.sq⟩,mY (K:=K) (a:=a) (xs:=ns.map V.int) (λi ys H'=>H'=H/\ys=(OJ i true).map V.bl) ⟨rfl,rfl⟩ ?_ (by rw[hl,NU];lia) ?_ ?_⟩
 .rintro i ys H' hi ⟨rfl,rfl⟩;exact⟨tp.sq,by simp⟩
 .rintro i x ys H' hx ⟨rfl,rfl⟩;obtain⟨z,rfl,_⟩:=pJ hx;refine Wf ?_;refine aZ ?_;refine⟨_,rfl,z,rfl,rfl,?_⟩;simp[aeD,QF]
 rintro ys H' p ⟨rfl,rfl⟩ Yl;refine⟨p,OJ (ns.map V.int).length true,rfl,Nj.up,_,rfl,?_⟩;have e2:(OJ (ns.map V.int).length true).all id=true:=by simp[Sy]
 rw[e2];refine aA ?_;have s1:aB H' (upd H' p (.lst ((OJ (ns.map V.int).length true).map V.bl))):=ak Yl _;refine⟨_,rfl,a,ns,rfl,s1.NM tp.sq,by lia,λl OQ RS afg afh=>?_⟩;have s2:=s1.trans (ak RS (.lst (OQ.map V.int)));refine⟨_,rfl,n,rfl,λr Q3=>⟨r,0,n,rfl,al,by decide,by decide,by lia,by lia,by lia,λl2 OD=>?_⟩⟩;have s3:=s2.trans (ak Q3 (.RB 0 n));have s4:=s3.trans (ak OD (.lst (gm 0 (n-0).toNat)));have n1:l≠l2:=av (by rw[aq (av al Q3)];exact al) OD;have n2:l≠r:=av al Q3;refine⟨l,l2,OQ.map V.int,_,rfl,rfl,.inl (.inl (by rw[aq n1,aq n2];exact al)),Nj.up,fJ _,by rw[fK];exact fJ _,_,rfl,?_⟩;have e3:OQ=Mx.lL ns:=Mx.tS afg afh;have e4:(n-0).toNat=ns.length:=by lia
 rw[e4,fK,kL,e3]
 by_cases g:Mx.lL ns=Mx.bw ns.length
 .rw[Nz g];refine aA ?_;refine qg ⟨c.1,c.2,c2,g⟩ _ ?_;rw[<-e3,<-fK,<-e4];exact s4
 .rw[Ny g];refine aZ ?_;have s4':=s4;rw[e4,fK,e3] at s4';exact⟨⟨adw _ s4',trivial,⟨_,rfl,rfl,n,rfl,Ro⟩,trivial,trivial⟩,λx=>⟨by show 1<=Nh;decide,qb (λgg=>g gg.2.2.2) _ s4'⟩⟩
end
end Ord
namespace L2
open PySem PySem.Spec PyProof.Rows
theorem BH (h1:aI x u)(h2:aI y u):x=y:=by
 have q:aL [x] [u]:=.cons h1 .nil;have q':aL [y] [u]:=.cons h2 .nil;exact(ae4 (q.inj q')).1
theorem cy {α β:Type}{F:α->β->Prop}:∀{PB:List α}{PD:List β}{i:Nat}{a:α},Nd F PB PD->PB[i]?=some a->∃b,PD[i]?=some b/\F a b
 | _,_,_,_,.nil,e=>by simp at e
 | _,_,0,_,.cons h _,e=>by simp at e;subst e;exact⟨_,rfl,h⟩
 | _,_,i+1,a,.cons _ t,e=>by
  obtain⟨b,h1,h2⟩:=cy (i:=i) (a:=a) t (by simpa using e);exact⟨b,by simpa using h1,h2⟩
theorem fU {α β:Type}{F:α->β->Prop}:∀{PB:List α}{PD:List β}{i:Nat}{b:β},Nd F PB PD->PD[i]?=some b->∃a,PB[i]?=some a/\F a b
 | _,_,_,_,.nil,e=>by simp at e
 | _,_,0,_,.cons h _,e=>by simp at e;subst e;exact⟨_,rfl,h⟩
 | _,_,i+1,b,.cons _ t,e=>by
  obtain⟨a,h1,h2⟩:=fU (i:=i) (b:=b) t (by simpa using e);exact⟨a,by simpa using h1,h2⟩
theorem aX {α β:Type}{F G:α->β->Prop}(f:∀a b,F a b->G a b):∀{PB:List α}{PD:List β},Nd F PB PD->Nd G PB PD
 | _,_,.nil=>.nil
 | _,_,.cons h t=>.cons (f _ _ h) (aX f t)
theorem de {α β:Type}{F:α->β->Prop}:∀{PB m₁:List α}{PD m₂:List β},Nd F PB PD->Nd F m₁ m₂->Nd F (PB++m₁) (PD++m₂)
 | _,_,_,_,.nil,s=>s
 | _,_,_,_,.cons h t,s=>.cons h (de t s)
theorem sC {α β:Type}{F:α->β->Prop}:∀{PB:List α}{PD:List β}(n:Nat),Nd F PB PD->Nd F (PB.take n) (PD.take n)
 | _,_,0,_=>.nil
 | _,_,_+1,.nil=>.nil
 | _,_,n+1,.cons h t=>.cons h (sC n t)
theorem sD {α β:Type}{F:α->β->Prop}:∀{PB:List α}{PD:List β}(n:Nat),Nd F PB PD->Nd F (PB.drop n) (PD.drop n)
 | _,_,0,h=>h
 | _,_,_+1,.nil=>.nil
 | _,_,n+1,.cons _ t=>sD n t
theorem Vm {α β:Type}{F:α->β->Prop}(f:∀a b c,F a b->F a c->b=c):∀{l:List α}{m n:List β},Nd F l m->Nd F l n->m=n
 | _,_,_,.nil,.nil=>rfl
 | _,_,_,.cons h t,.cons h' t'=>by rw[f _ _ _ h h',Vm f t t']
theorem lO {α:Type}[DecidableEq α]{as bs:List α}(hl:as.length=bs.length):(Oe as.length).all (λj=>decide (as[j]?=bs[j]?))=decide (as=bs):=by
 by_cases h:as=bs
 .subst h;rw[Nz rfl,Sy];intro j _;exact Nz rfl
 .rw[Ny h];cases e:(Oe as.length).all (λj=>decide (as[j]?=bs[j]?)) with
  | false=>rfl
  | true=>
   rw[Sy] at e;refine Nc (List.ext_getElem? λj=>?_) h
   by_cases hj:j<as.length
   .exact TY (e j (Pn.mpr hj))
   .rw[ace (by lia),ace (by lia)]
structure Dk (α:Type)[DecidableEq α]where
 rep:MZ->Hp->V->α->Prop
 OT:Nat
 mono:∀{K:MZ}{H H':Hp}{x:V}{a:α},aB H H'->rep K H x a->rep K H' x a
 fn:∀{X:Cx}{aa:List (A'×G')}{σ:St}{H:Hp}{s:J'}{x:V}{a b:α},Inv X aa σ H s->rep X.K H x a->rep X.K H x b->a=b
 Tn:∀{X:Cx}{aa:List (A'×G')}{σ:St}{H:Hp}{s:J'}{A:Nv}{x y:V}{a b:α}{u v:D'},Inv X aa σ H s->A.units+OT<ND->rep X.K H x a->rep X.K H y b->aI x u->aI y v->RP A s u v (decide (a=b))
 XQ:∀{X:Cx}{aa:List (A'×G')}{σ:St}{H:Hp}{s:J'}{A:Nv}{x y:V}{a b:α}{u v:D'},Inv X aa σ H s->A.units+OT<ND->rep X.K H x a->rep X.K H y b->aI x u->aI y v->SeqAt.RcAt A s u v (decide (a=b))
 XR:∀{X:Cx}{aa:List (A'×G')}{σ:St}{H:Hp}{s:J'}{A:Nv}{x y:V}{a b:α}{u v:D'},Inv X aa σ H s->A.units+OT<ND->rep X.K H x a->rep X.K H y b->aI x u->aI y v->SeqAt.RcNeAt A s u v (!decide (a=b))
theorem hW {i j:Int}:(i==j)=decide (i=j):=by
 by_cases h:i=j
 .subst h;simp
 .rw[Ny h];simpa using h
def yb:Dk Int where
 rep:=λ_ _ x a=>x=.int a
 OT:=0
 mono:=λ_ h=>h
 fn:=λ_ h1 h2=>V.int.inj (h1.symm.trans h2)
 Tn:=λ_ _ h1 h2 r1 r2=>by
  subst h1 h2;obtain⟨t,rfl⟩:=r1;obtain⟨t',rfl⟩:=r2;rw[<-hW];exact aas _ _ _ _
 XQ:=λ_ _ h1 h2 r1 r2=>by
  subst h1 h2;obtain⟨t,rfl⟩:=r1;obtain⟨t',rfl⟩:=r2;rw[<-hW];exact SeqAt.RcAt.int_int _ _ _ _
 XR:=λ_ _ h1 h2 r1 r2=>by
  subst h1 h2;obtain⟨t,rfl⟩:=r1;obtain⟨t',rfl⟩:=r2;rw[<-hW];exact SeqAt.RcNeAt.int_int _ _ _ _
section
variable {α:Type} [DecidableEq α]
theorem gn (k:Dk α){σ:St}(I:Inv X aa σ H s)(hu:A.units+k.OT<ND)(p:Nd (k.rep X.K H) xs as)(q:Nd (k.rep X.K H) ys bs)(r1:aL xs us)(r2:aL ys vs):
  ∀j (h1:j<us.toArray.size) (h2:j<vs.toArray.size),RP A s us.toArray[j] vs.toArray[j] (decide (as[j]?=bs[j]?)):=by
 intro j h1 h2;have l1:=r1.length;have l2:=r2.length;have h1':j<us.length:=by simpa using h1
 have h2':j<vs.length:=by simpa using h2
 obtain⟨u,e1,q1⟩:=r1.get (i:=j) (x:=xs[j]'(by lia)) (by simp);obtain⟨v,e2,q2⟩:=r2.get (i:=j) (x:=ys[j]'(by lia)) (by simp);have Vh:us.toArray[j]=u:=by
  have:=(OA.mp e1).2;simpa using this
 have Tx:vs.toArray[j]=v:=by
  have:=(OA.mp e2).2;simpa using this
 obtain⟨a,ea,ra⟩:=cy (i:=j) (a:=xs[j]'(by lia)) p (by simp);obtain⟨b,eb,rb⟩:=cy (i:=j) (a:=ys[j]'(by lia)) q (by simp);rw[Vh,Tx,ea,eb];have e3:decide (some a=some b)=decide (a=b):=by
  by_cases h:a=b
  .subst h;simp
  .simp[h]
 rw[e3];exact k.Tn I hu ra rb q1 q2
theorem jv {as bs:List α}(hn:n=as.length)(hm:m=bs.length):((Oe (min n m)).all (λj=>decide (as[j]?=bs[j]?))&&n==m)=decide (as=bs):=by
 subst hn hm
 by_cases h:as.length=bs.length
 .rw[h,Nat.min_self,<-h,lO h];simp[h]
 .have:(as.length==bs.length)=false:=by simpa using h
  rw[this,aaL,Ny];rintro rfl;exact h rfl
def BI (k:Dk α):Dk (List α) where
 rep:=λK H x as=>∃p xs,x=.ref p/\Ni K H p xs/\Nd (k.rep K H) xs as
 OT:=k.OT+1
 mono:=λs ⟨p,xs,e,q,r⟩=>⟨p,xs,e,by
  rcases q with(h|⟨o,h⟩)|h
  .exact .inl (.inl (s _ _ h))
  .exact .inl (.inr ⟨o,s _ _ h⟩)
  .exact .inr h,aX (λ_ _ z=>k.mono s z) r⟩
 fn:=λI ⟨p,xs,e,q,r⟩ ⟨p',Vn,e',q',r'⟩=>by
  rw[e] at e';cases e';have:=I.Xy q q';subst this;exact Vm (F:=k.rep _ _) (λ_ _ _ h1 h2=>k.fn I h1 h2) r r'
 Tn:=λ{X aa σ H s A x y a b u v} I hu ⟨p,xs,e,q,r⟩ ⟨p',Vn,e',q',r'⟩ rx ry=>by
  subst e e';cases rx;cases ry
  by_cases hp:p=p'
  .subst hp;have:=I.Xy q q';subst this;have:=Vm (F:=k.rep _ _) (λ_ _ _ h1 h2=>k.fn I h1 h2) r r';subst this;rw[Nz rfl];exact Xm _
  .obtain⟨MY,v1,t1,_⟩:=I.tuple q;obtain⟨its',v2,t2,_⟩:=I.tuple q';refine Y3 hp ?_;have h:=Xi (A:=A) (e:=λj=>decide (a[j]?=b[j]?)) t1 t2 (by lia) (gn k I (by show A.units+1+k.OT<ND;lia) r r' v1 v2);rw[jv (by rw[Od,<-v1.length,r.length]) (by rw[Od,<-v2.length,r'.length])] at h;exact h
 XQ:=λ{X aa σ H s A x y a b u v} I hu ⟨p,xs,e,q,r⟩ ⟨p',Vn,e',q',r'⟩ rx ry=>by
  subst e e';cases rx;cases ry;obtain⟨MY,v1,t1,_⟩:=I.tuple q;obtain⟨its',v2,t2,_⟩:=I.tuple q';have h:=Xi (A:=A) (e:=λj=>decide (a[j]?=b[j]?)) t1 t2 (by lia) (gn k I (by show A.units+1+k.OT<ND;lia) r r' v1 v2);rw[jv (by rw[Od,<-v1.length,r.length]) (by rw[Od,<-v2.length,r'.length])] at h;exact h
 XR:=λ{X aa σ H s A x y a b u v} I hu ⟨p,xs,e,q,r⟩ ⟨p',Vn,e',q',r'⟩ rx ry=>by
  subst e e';cases rx;cases ry;obtain⟨MY,v1,t1,_⟩:=I.tuple q;obtain⟨its',v2,t2,_⟩:=I.tuple q';have h:=aeJ (A:=A) (e:=λj=>decide (a[j]?=b[j]?)) t1 t2 (by lia) (gn k I (by show A.units+1+k.OT<ND;lia) r r' v1 v2);rw[jv (by rw[Od,<-v1.length,r.length]) (by rw[Od,<-v2.length,r'.length])] at h;exact h
def kM (k:Dk α):Dk (List α) where
 rep:=λK H x as=>∃p xs,x=.ref p/\Nj K H p xs/\Nd (k.rep K H) xs as
 OT:=k.OT+1
 mono:=λs ⟨p,xs,e,q,r⟩=>⟨p,xs,e,by
  rcases q with(h|⟨o,h⟩)|h
  .exact .inl (.inl (s _ _ h))
  .exact .inl (.inr ⟨o,s _ _ h⟩)
  .exact .inr h,aX (λ_ _ z=>k.mono s z) r⟩
 fn:=λI ⟨p,xs,e,q,r⟩ ⟨p',Vn,e',q',r'⟩=>by
  rw[e] at e';cases e';have:=I.aa9 q q';subst this;exact Vm (F:=k.rep _ _) (λ_ _ _ h1 h2=>k.fn I h1 h2) r r'
 Tn:=λ{X aa σ H s A x y a b u v} I hu ⟨p,xs,e,q,r⟩ ⟨p',Vn,e',q',r'⟩ rx ry=>by
  subst e e';cases rx;cases ry
  by_cases hp:p=p'
  .subst hp;have:=I.aa9 q q';subst this;have:=Vm (F:=k.rep _ _) (λ_ _ _ h1 h2=>k.fn I h1 h2) r r';subst this;rw[Nz rfl];exact Xm _
  .obtain⟨MY,v1,t1,_⟩:=I.list q;obtain⟨its',v2,t2,_⟩:=I.list q';refine Y3 hp ?_;have z1:MY.toArray.size=a.length:=by rw[Od,<-v1.length,r.length]
   have z2:its'.toArray.size=b.length:=by rw[Od,<-v2.length,r'.length]
   by_cases hl:a.length=b.length
   .have h:=ae0 (A:=A) (e:=λj=>decide (a[j]?=b[j]?)) t1.isList t2.isList (by lia) (by lia) (gn k I (by show A.units+1+k.OT<ND;lia) r r' v1 v2);rw[z1,lO hl] at h;exact h
   .rw[Ny (λz=>hl (by rw[z]))];exact aeh t1.isList t2.isList (by rw[z1,z2];simpa using hl) (by lia)
 XQ:=λ{X aa σ H s A x y a b u v} I hu ⟨p,xs,e,q,r⟩ ⟨p',Vn,e',q',r'⟩ rx ry=>by
  subst e e';cases rx;cases ry;obtain⟨MY,v1,t1,_⟩:=I.list q;obtain⟨its',v2,t2,_⟩:=I.list q';have z1:MY.toArray.size=a.length:=by rw[Od,<-v1.length,r.length]
  have z2:its'.toArray.size=b.length:=by rw[Od,<-v2.length,r'.length]
  by_cases hl:a.length=b.length
  .have h:=ae0 (A:=A) (e:=λj=>decide (a[j]?=b[j]?)) t1.isList t2.isList (by lia) (by lia) (gn k I (by show A.units+1+k.OT<ND;lia) r r' v1 v2);rw[z1,lO hl] at h;exact h
  .rw[Ny (λz=>hl (by rw[z]))];exact aeh t1.isList t2.isList (by rw[z1,z2];simpa using hl) (by lia)
 XR:=λ{X aa σ H s A x y a b u v} I hu ⟨p,xs,e,q,r⟩ ⟨p',Vn,e',q',r'⟩ rx ry=>by
  subst e e';cases rx;cases ry;obtain⟨MY,v1,t1,_⟩:=I.list q;obtain⟨its',v2,t2,_⟩:=I.list q';have z1:MY.toArray.size=a.length:=by rw[Od,<-v1.length,r.length]
  have z2:its'.toArray.size=b.length:=by rw[Od,<-v2.length,r'.length]
  by_cases hl:a.length=b.length
  .have h:=aeV (A:=A) (e:=λj=>decide (a[j]?=b[j]?)) t1.isList t2.isList (by lia) (by lia) (gn k I (by show A.units+1+k.OT<ND;lia) r r' v1 v2);rw[z1,lO hl] at h;exact h
  .rw[Ny (λz=>hl (by rw[z]))];exact ad8 t1.isList t2.isList (by rw[z1,z2];simpa using hl) (by lia)
def Fz (k:Dk α)(K:MZ)(neg:Bool):R2:=λx y H Q=>∃a b,k.rep K H x a/\k.rep K H y b/\Q (.bl (if neg then !decide (a=b) else decide (a=b))) H
theorem tX (k:Dk α)(hu:X.A.units+k.OT<ND):N4 X (Ps .Eq) (Fz k X.K false):=by
 intro aa s σ H x y v u Q I rx ry h;obtain⟨a,b,ha,hb,q⟩:=h;exact k.XQ I hu ha hb rx ry X.prog X.w X.xe _ ⟨.bl (decide (a=b)),H,I,rfl,q⟩
theorem zD (k:Dk α)(hu:X.A.units+k.OT<ND):N4 X (Ps .NotEq) (Fz k X.K true):=by
 intro aa s σ H x y v u Q I rx ry h;obtain⟨a,b,ha,hb,q⟩:=h;exact k.XR I hu ha hb rx ry X.prog X.w X.xe _ ⟨.bl (!decide (a=b)),H,I,rfl,q⟩
noncomputable def gO (k:Dk α)(K:MZ)(H:Hp)(b:α)(u:D'):Bool:=@decide (∃y,aI y u/\k.rep K H y b) (aaj _)
theorem wz (k:Dk α){σ:St}(I:Inv X aa σ H s)(r:aI y u)(h:k.rep X.K H y a):gO k X.K H b u=decide (a=b):=by
 unfold gO
 by_cases z:a=b
 .subst z;rw[Nz rfl];exact @Nz _ (aaj _) ⟨y,r,h⟩
 .rw[Ny z];refine @Ny _ (aaj _) ?_;rintro⟨y',r',h'⟩;have:=BH r r';subst this;exact z (k.fn I h h')
theorem lP (k:Dk α){σ:St}(I:Inv X aa σ H s)(hu:A.units+k.OT<ND)(rx:aI x v)(hb:k.rep X.K H x b):
  ∀{xs:List V}{us:List D'}{as:List α},aL xs us->Nd (k.rep X.K H) xs as->(∀u∈us,RP A s u v (gO k X.K H b u))/\us.any (gO k X.K H b)=as.any λa=>decide (a=b)
 | _,_,_,.nil,.nil=>⟨λu hu=>(by cases hu),rfl⟩
 | y::xs,u::us,a::as,.cons r t,.cons p q=>by
  obtain⟨h1,h2⟩:=lP k I hu rx hb t q;have e:=wz (b:=b) k I r p;refine⟨λw hw=>?_,by rw[Td,Td,e,h2]⟩;rcases NG.mp hw with rfl|hw
  .rw[e];exact k.Tn I hu p hb r rx
  .exact h1 w hw
def J9 (k:Dk α)(K:MZ)(neg:Bool):R2:=λx y H Q=>∃b as,k.rep K H x b/\(kM k).rep K H y as/\Q (.bl (if neg then !as.any (λa=>decide (a=b)) else as.any (λa=>decide (a=b)))) H
theorem zE (k:Dk α)(hu:X.A.units+1+k.OT<ND):N4 X (Ps .NotIn) (J9 k X.K true):=by
 intro aa s σ H x y v u Q I rx ry h;obtain⟨b,as,hb,⟨p,xs,rfl,hq,hp⟩,q⟩:=h;cases ry;obtain⟨MY,r,pl,hz⟩:=I.list hq;obtain⟨h1,h2⟩:=lP k (A:=X.A.in1) I hu rx hb r hp;refine aeU (gO k X.K H b) pl.isList (λw hw=>h1 w (by simpa using hw)) ⟨.bl _,H,I,rfl,?_⟩;rw[show MY.toArray.any (gO k X.K H b)=MY.any (gO k X.K H b) by simp,h2];exact q
def D9 (k:Dk α)(K:MZ):V->List V->Hp->VK->Prop:=λo vs H Q=>∃x b as j,vs=[x]/\k.rep K H x b/\(kM k).rep K H o as/\as[j]?=some b/\(∀(i:Nat),i<j->as[i]?≠some b)/\Q (.int (j:Int)) H
theorem zF (k:Dk α)(hu:X.A.units+4+k.OT<ND):Z7 X "list.index" (D9 k X.K):=by
 intro aa s σ H o vs v us Q I ro rv h;obtain⟨x,b,as,j,rfl,hb,⟨p,xs,rfl,hq,hp⟩,hit,Vg,q⟩:=h;cases ro;obtain⟨u,rfl,ru⟩:=rv.one;obtain⟨MY,r,pl,hz⟩:=I.list hq;obtain⟨⟨cls,dd,data,sl⟩,ho,hc,n,hd⟩:=pl.isList;simp only at hc hd;subst hc hd;have hl:=r.length;have OD:=hp.length;have hj:j<as.length:=(OA.mp hit).1;have Vo:j<MY.toArray.size:=by simp;lia
 have at_:∀(i:Nat) (hi:i<MY.toArray.size) (a:α),as[i]?=some a->gO k X.K H b MY.toArray[i]=decide (a=b):=λi hi a ha=>by
  obtain⟨z,hz,hr⟩:=fU hp ha;obtain⟨w,e1,e2⟩:=r.get hz;have:MY.toArray[i]=w:=by
   have:=(OA.mp e1).2;simpa using this
  rw[this];exact wz k I e2 hr
 refine Xv aek ⟨_,ho,rfl⟩ PySem.F.entry_list_index (PySem.F.args_list_index_2 _ _)
  (SeqAt.list_indexAt p MY.toArray n dd sl u (gO k X.K H b) j Vo (by have:=hz;rw[NU] at this;lia) (by rw[at_ j Vo b hit];exact Nz rfl) λm hm N9=>?_) ⟨ho,λz hz'=>?_,?_⟩
 .have Uo:m<as.length:=by lia
  rw[at_ m hm _ (Ou Uo)];refine Ny λe=>Vg m N9 ?_;rw[Ou Uo,e]
 .exact(lP k I (by first|lia|(show X.A.units+_+k.OT<ND;lia)) ru hb r hp).1 z (by simpa using hz')
 .exact⟨.int (j:Int),H,I.tok _,⟨s.toks,rfl⟩,q⟩
end
section
variable {κ:Type} [DecidableEq κ]
def cz (kvs:List (κ×V))(k:κ):Option V:=(kvs.find? λkv=>decide (kv.1=k)).map (·.2)
def dy (kvs:List (κ×V))(k:κ)(v:V):List (κ×V):=
 if (kvs.any λkv=>decide (kv.1=k))=true then kvs.map (λkv=>if kv.1=k then (kv.1,v) else kv) else kvs++[(k,v)]
theorem Ka:cz ([]:List (κ×V)) k=none:=rfl
theorem dY {p:κ×V}(e:p.1=k):cz (p::r) k=some p.2:=by simp[cz,VP,e]
theorem dZ {p:κ×V}(e:¬p.1=k):cz (p::r) k=cz r k:=by simp[cz,VP,e]
theorem jT (k:κ):∀kvs:List (κ×V),(kvs.any λkv=>decide (kv.1=k))=(cz kvs k).isSome
 | []=>rfl
 | p::r=>by
  rw[Td]
  by_cases e:p.1=k
  .simp only[dY e,Nz e,Bool.true_or,Option.isSome_some]
  .rw[dZ e,Ny e,Bool.false_or];exact jT k r
theorem gA (kvs:List (κ×V))(k:κ)(v):(dy kvs k v).length<=kvs.length+1:=by
 unfold dy
 split
 .rw[NT];lia
 .rw[Os,OB,T2];lia
theorem eC.aa8 (r:eC o u):o.isSome=u.isSome:=by
 cases o with
 | none=>cases u with
  | none=>rfl
  | some _=>exact(show False from r).elim
 | some _=>cases u with
  | none=>exact(show False from r).elim
  | some _=>rfl
theorem eC.getD (r:eC o u)(rd:aI d d'):aI (o.getD d) (u.getD d'):=by
 cases o with
 | none=>cases u with
  | none=>exact rd
  | some _=>exact(show False from r).elim
 | some _=>cases u with
  | none=>exact(show False from r).elim
  | some _=>exact r
theorem KV.val (r:KV kvs vs)(k:κ):eC (cz kvs k) (valueAt vs k):=by
 unfold KV at r
 induction r with
 | nil=>exact Qs
 | @cons p q ps qs h t ih=>
  obtain⟨h1,h2⟩:=h
  by_cases e:p.1=k
  .have e':q.1=k:=h1.symm.trans e;have b:valueAt (q::qs) k=some q.2:=by simp[valueAt,VP,e']
   rw[dY e,b];exact h2
  .have e':¬q.1=k:=λz=>e (h1.trans z);have b:valueAt (q::qs) k=valueAt qs k:=by simp[valueAt,VP,e']
   rw[dZ e,b];exact ih
theorem KV.any (r:KV kvs vs)(k:κ):(kvs.any λkv=>decide (kv.1=k))=vs.any λkv=>decide (kv.1=k):=by
 unfold KV at r
 induction r with
 | nil=>rfl
 | cons h t ih=>rw[Td,Td,ih,h.1]
theorem KV.abz (r:KV kvs vs)(k:κ)(ry:aI y u):
  KV (kvs.map λkv=>if kv.1=k then (kv.1,y) else kv) (vs.map λkv=>if kv.1=k then (kv.1,u) else kv):=by
 unfold KV at r ⊢
 induction r with
 | nil=>exact .nil
 | @cons p q ps qs h t ih=>
  rw[N7,N7];refine .cons ?_ ih;obtain⟨h1,h2⟩:=h
  by_cases e:p.1=k
  .rw[M6 e,M6 (h1.symm.trans e)];exact⟨h1,ry⟩
  .rw[M0 e,M0 (λz=>e (h1.trans z))];exact⟨h1,h2⟩
theorem KV.put (r:KV kvs vs)(k:κ)(ry:aI y u):KV (dy kvs k y) (stored vs k u):=by
 unfold dy stored;rw[r.any k]
 by_cases e:(vs.any λkv=>decide (kv.1=k))=true
 .rw[M6 e,M6 e];exact r.abz k ry
 .rw[M0 e,M0 e];exact Nd.snoc r ⟨rfl,ry⟩
theorem KV.length {kvs:List (κ×V)}(r:KV kvs vs):kvs.length=vs.length:=VS r
end
theorem gT (r:aI (kV k) u):(bg P w).is k u=true:=by
 cases k with
 | inl i=>obtain⟨t,e⟩:=(show ∃t,u=O0 i t from r);subst e;exact vM P w i t
 | inr x=>obtain⟨t,e⟩:=(show ∃t,u=Zs x t from r);subst e;exact bV P w x t
theorem qH:∀{ks:List Key}{us:List D'},aL (ks.map kV) us->ItemsAre (bg P w) ks us
 | [],_,r=>by rw[Zo] at r;cases r;exact .nil
 | k::ks,_,r=>by
  rw[N7] at r;cases r with
  | cons h t=>exact .cons (gT h) (qH t)
abbrev KT (H:Hp):List (List Key×V)->List (List Key×A'×D')->Prop:=Nd λp q=>p.1=q.1/\H q.2.1=some (.tup (p.1.map kV))/\aI p.2 q.2.2
theorem KT.val (r:KT H kvs xs)(k):eC (cz kvs k) ((atKey xs k).map (·.2)):=by
 induction r with
 | nil=>exact Qs
 | @cons p q ps qs h t ih=>
  obtain⟨h1,_,h2⟩:=h
  by_cases e:p.1=k
  .have e':q.1=k:=h1.symm.trans e;have b:atKey (q::qs) k=some q.2:=by simp[atKey,VP,e']
   rw[dY e,b];exact h2
  .have e':¬q.1=k:=λz=>e (h1.trans z);have b:atKey (q::qs) k=atKey qs k:=by simp[atKey,VP,e']
   rw[dZ e,b];exact ih
theorem KT.abz (r:KT H kvs xs)(k)(ry:aI y u):
  KT H (kvs.map λkv=>if kv.1=k then (kv.1,y) else kv) (xs.map (putAt k u)):=by
 induction r with
 | nil=>exact .nil
 | @cons p q ps qs h t ih=>
  rw[N7,N7];refine .cons ?_ ih;obtain⟨h1,h2,h3⟩:=h;unfold putAt
  by_cases e:p.1=k
  .rw[M6 e,M6 (h1.symm.trans e)];exact⟨h1,h2,ry⟩
  .rw[M0 e,M0 (λz=>e (h1.trans z))];exact⟨h1,h2,h3⟩
theorem KT.put (r:KT H kvs xs)(k)(hb:H b=some (.tup (k.map kV)))(ry:aI y u):
  KT H (dy kvs k y) (storedH xs k b u):=by
 have e:(kvs.any λkv=>decide (kv.1=k))=(atKey xs k).isSome:=by
  rw[jT,(r.val k).aa8,aeX]
 unfold dy storedH;rw[e]
 by_cases q:(atKey xs k).isSome=true
 .rw[M6 q,M6 q];exact r.abz k ry
 .rw[M0 q,M0 q];exact Nd.snoc r ⟨rfl,hb,ry⟩
theorem KT.keeps (r:KT H kvs xs)(ht:∀b ys,H b=some (.tup ys)->H' b=some (.tup ys)):KT H' kvs xs:=
 Paired.abq r λ_ _ z=>⟨z.1,ht _ _ z.2.1,z.2.2⟩
section
theorem Dp (ok:OP P w H h)(e:Rd H a u):bz P w H h a u:=e.ok ok
theorem lQ (ok:OP P w H h)(e:Rd H a (.dK kvs)):kvs.length<=Nh/\(a==Pr)=false/\∃vs,KV kvs vs/\h.DictOf (bg P w) a vs:=
 show bz P w H h a (.dK kvs) from Dp ok e
theorem jU (ok:OP P w H h)(e:H a=some (.dK kvs)):kvs.length<=Nh/\(a==Pr)=false/\∃vs,KV kvs vs/\h.DictOf (bg P w) a vs:=lQ ok (.inl e)
theorem kO (ok:OP P w H h)(e:H a=some (.tup (ks.map kV))):(tupleKind (bg P w)).is h ks a:=by
 obtain⟨_,MY,r,o,h1,h2,n,h3,_⟩:=(show bz P w H h a (.tup (ks.map kV)) from ok a _ e)
 exact⟨o,MY.toArray,n,h1,h2,h3,by simpa using qH r⟩
theorem lT (ok:OP P w H h)(e:Rd H a (.dT kvs)):kvs.length<=Nh/\(a==Pr)=false/\
  ∃xs,KT H kvs xs/\h.DictOfH (tupleKind (bg P w)) a xs:=by
 obtain⟨z,y,xs,r,o,es,ep,h1,h2,h3,h4,h5⟩:=(show bz P w H h a (.dT kvs) from Dp ok e)
 refine⟨z,y,xs,r,o,es,ep,h1,h2,h3,h4,λx hx=>?_,h5⟩;have all:∀{l:List (List Key×V)}{m:List (List Key×A'×D')},KT H l m->∀x∈m,(tupleKind (bg P w)).is h x.1 x.2.1:=by
  intro l m q
  induction q with
  | nil=>intro x hx;exact nomatch hx
  | @cons p q ps qs hq t ih=>
   intro x hx;rcases NG.mp hx with e|hx
   .subst e;exact kO ok (by rw[<-hq.1];exact hq.2.1)
   .exact ih x hx
 exact all r x hx
theorem Je (ok:OP P w H h)(e:H a=some (.dT kvs)):kvs.length<=Nh/\(a==Pr)=false/\
  ∃xs,KT H kvs xs/\h.DictOfH (tupleKind (bg P w)) a xs:=lT ok (.inl e)
end
def ir (H:Hp)(a:A')(y:V)(r:Option V):Prop:=
 (∃kvs k,Rd H a (.dK kvs)/\y=kV k/\r=cz kvs k)\/∃kvs k b,Rd H a (.dT kvs)/\y=.ref b/\H b=some (.tup (k.map kV))/\r=cz kvs k
def tY (H:Hp)(a:A')(y v:V)(H':Hp):Prop:=
 (∃kvs k,H a=some (.dK kvs)/\y=kV k/\kvs.length<Nh/\H'=upd H a (.dK (dy kvs k v)))\/
 ∃kvs k b,H a=some (.dT kvs)/\y=.ref b/\H b=some (.tup (k.map kV))/\kvs.length<Nh/\H'=upd H a (.dT (dy kvs k v))
theorem ir.k {k:Key}(e:H a=some (.dK kvs)):ir H a (kV k) (cz kvs k):=.inl ⟨kvs,k,.inl e,rfl,rfl⟩
theorem tY.k {k:Key}(e:H a=some (.dK kvs))(hl:kvs.length<Nh):tY H a (kV k) v (upd H a (.dK (dy kvs k v))):=.inl ⟨kvs,k,e,rfl,hl,rfl⟩
section
variable {σ:St} in
theorem Inv.Wi (I:Inv X aa σ H s):Pr<s.heap.objs.size:=by
 have h:N5<s.heap.objs.size:=(I.mod.glob.keeps I.bk).lt;exact Zp (by decide) h
variable {σ:St} in
theorem zG (hu:A.units+1<ND)(I:Inv X aa σ H s)(g:ir H a y (some v))(ry:aI y u)(h:∀w' s',Inv X aa σ H s'->aI v w'->Q w' s'):
  M3 (M8 X.prog X.w) A (getItem (.ref a) u) Q E s:=by
 rcases g with⟨kvs,k,e,ey,l⟩|⟨kvs,k,b,e,ey,eb,l⟩
 .subst ey;obtain⟨z,hd,vs,rel,dd⟩:=lQ I.Nf e;obtain⟨w',hw,Sl⟩:=eC.some_of (v:=v) (o:=valueAt vs k) (by rw[l];exact rel.val k);exact wpAny_getItem_of (gT ry) dd.mapOf hw (h w' _ (I.tok _) Sl)
 .subst ey;cases (show u=NQ b from ry);obtain⟨z,hd,xs,rel,dd⟩:=lT I.Nf e;obtain⟨w',hw,Sl⟩:=eC.some_of (v:=v) (o:=(atKey xs k).map (·.2)) (by rw[l];exact rel.val k);obtain⟨p,hp,QK⟩:=TV.mp hw;refine wpAny_getItem_heap (aat hu) (kO I.Nf eb) dd hp ?_;rw[QK];exact h w' _ (I.tok _) Sl
variable {σ:St} in
theorem Kb (hu:A.units+1<ND)(I:Inv X aa σ H s)(g:ir H a y o)(ry:aI y u)(h:∀s',Inv X aa σ H s'->Q (.bool o.isSome) s'):
  M3 (M8 X.prog X.w) A (Ps .In u (.ref a)) Q E s:=by
 rcases g with⟨kvs,k,e,ey,l⟩|⟨kvs,k,b,e,ey,eb,l⟩
 .subst ey;obtain⟨z,hd,vs,rel,dd⟩:=lQ I.Nf e;refine wpAny_in_of (gT ry) hd dd.mapOf ?_;rw[<-(rel.val k).aa8,<-l];exact h _ (I.tok _)
 .subst ey;cases (show u=NQ b from ry);obtain⟨z,hd,xs,rel,dd⟩:=lT I.Nf e;refine wpAny_in_heap (aat hu) (kO I.Nf eb) hd dd ?_;have q:=(rel.val k).aa8;rw[aeX] at q;rw[<-q,<-l];exact h _ (I.tok _)
variable {σ:St} in
theorem lU {t':Nat}(I:Inv X aa σ H s)(mu:X0 (H a))(hs:R6 a s.heap h')(he:∃q,h'.get? a=some q)(new:bz X.prog X.w (upd H a ob) h' a ob):
  Inv X aa σ (upd H a ob) { s with heap:=h',toks:=t' }:=
 I.write (x:=a) (e:=a) mu (.inl rfl) (λb q hb z=>(hs.2 b hb).trans z) he new
theorem n8 (z:kvs.length<=Nh)(hd:(a==Pr)=false)(rel:KV kvs vs)(dd:h'.DictOf (bg P w) a vs):
  bz P w H' h' a (.dK kvs):=⟨z,hd,vs,rel,dd⟩
variable {σ:St} in
theorem zH (hu:A.units+1<ND)(I:Inv X aa σ H s)(g:tY H a y v H')(ry:aI y u)(rv:aI v r)(h:∀s',Inv X aa σ H' s'->Q () s'):
  M3 (M8 X.prog X.w) A (setItem (.ref a) u r) Q E s:=by
 rcases g with⟨kvs,k,e,ey,l,eH⟩|⟨kvs,k,b,e,ey,eb,l,eH⟩
 .subst ey eH;obtain⟨z,hd,vs,rel,dd⟩:=jU I.Nf e;have hz:vs.length<=Nh:=by rw[<-rel.length];exact z
  have hl:(dy kvs k v).length<=Nh:=by have:=gA kvs k v;lia
  refine wpAny_setItem_pairs (hsz:=hz) (gT ry) dd λh' Q4 hs=>h _ ?_;have he:∃q,h'.get? a=some q:=let ⟨q,_,_,hq,_⟩:=Q4;⟨q,hq⟩;exact lU I (by rw[e];exact Qs) hs he (n8 hl hd (rel.put k rv) Q4)
 .subst ey eH;cases (show u=NQ b from ry);obtain⟨z,hd,xs,rel,dd⟩:=Je I.Nf e;have hz:xs.length<=Nh:=by rw[<-VS rel];exact z
  have hl:(dy kvs k v).length<=Nh:=by have:=gA kvs k v;lia
  refine wpAny_setItem_heap (hsz:=hz) (aat hu) (kO I.Nf eb) dd λh' Q4 hs=>h _ ?_;obtain⟨q,es,ep,hq,h2,h3,h4,_,h5⟩:=Q4;refine lU I (by rw[e];exact Qs) hs ⟨q,hq⟩ ⟨hl,hd,_,(rel.put k eb rv).keeps λc ys ec=>?_,q,es,ep,hq,h2,h3,h4,h5⟩;rw[aq (iK ec e (λz=>nomatch z))];exact ec
end
section
end
def tZ (i:Nn):Prop:=∀ov iv,subscripted i false ov iv=operate [ov,iv] (getItem ov iv)
theorem lV {T id:String}(hl:typeLookup (.type T) "__getitem__"=pure (some (.builtin id)))(hs:tZ slice)(h:M3 (M8 prog w) A (eval value env) (λo Nw=>M3 (M8 prog w) A (eval slice env) (λi NY=>NY.TypeIs o T/\M3 (M8 prog w) A (getItem o i) Q E NY) E Nw) E s):
  M3 (M8 prog w) A (eval (.Subscript value slice pos) env) Q E s:=by
 refine Subscript_ (RO h (λo Nw P5=>RO P5 (λi NY abA=>?_) λ_ _ x=>x) λ_ _ x=>x);obtain⟨hT,abA⟩:=abA;unfold subscriptTail;refine MW ?_;rw[getitemInPython_of_ne hT.not_modules];refine MW (VQ hT hl ?_);have fin:M3 (M8 prog w) A (subscripted slice false o i) (λr adx=>M3 (M8 prog w) A (letTemporaryGo value o r >>= λ_=>pure r) Q E adx) E NY:=by
  rw[hs o i];exact wpAny_operating (RO abA (λr adx afC=>MW (wpAny_letTemporaryGo (M1 afC))) λ_ _ x=>x)
 first
  | exact M1 (MW fin)
  | exact MW (M1 (MW fin))
  | exact MW fin
theorem vT {σ:St}(I:Inv X aa σ H s)(g:ir H a y o):s.TypeIs (.ref a) "dict":=by
 rcases g with⟨kvs,k,e,_,_⟩|⟨kvs,k,b,e,_,_,_⟩
 .obtain⟨_,_,vs,_,dd⟩:=lQ I.Nf e;exact dd.typeIs
 .obtain⟨_,_,xs,_,dd⟩:=lT I.Nf e;exact dd.typeIs
def Jf (td ty:TE):TE:=λσ H Q=>td σ H λx H1=>ty σ H1 λy H2=>∃a v,x=.ref a/\ir H2 a y (some v)/\Q v H2
def Kc (ty td:TE):TE:=λσ H Q=>ty σ H λy H1=>td σ H1 λx H2=>∃a o,x=.ref a/\ir H2 a y o/\Q (.bl o.isSome) H2
def Jg (td ty tv:TE):TS:=λD σ H=>tv σ H λv H1=>td σ H1 λx H2=>ty σ H2 λy H3=>∃a H4,x=.ref a/\tY H3 a y v H4/\D.nx σ H4
section
theorem Ea (hu:X.A.units+1<ND)(ho:PE X o td)(hi:PE X i ty)(hs:tZ i):PE X (.Subscript o i pos) (Jf td ty):=by
 intro aa s σ H Q I h;refine lV aae.lookup hs (Nk (ho aa s σ H _ I h) λu s1 ⟨x,H1,I1,rx,q1⟩=>Nk (hi aa s1 σ H1 _ I1 q1) λiv s2 ⟨y,H2,I2,ry,a,v,ex,g,q2⟩=>?_);subst ex;obtain rfl:u=NQ a:=rx;exact⟨vT I2 g,zG hu I2 g ry λw' s3 I3 Sl=>⟨v,H2,I3,Sl,q2⟩⟩
theorem zI (hu:X.A.units+1<ND)(hi:PE X i ty)(ho:PE X o td):PC X .In i o (Kc ty td):=by
 intro aa s σ H Q I h;refine Nk (hi aa s σ H _ I h) λiv s1 ⟨y,H1,I1,ry,q1⟩=>Nk (ho aa s1 σ H1 _ I1 q1) λu s2 ⟨x,H2,I2,rx,a,ov,ex,g,q2⟩=>?_;subst ex;obtain rfl:u=NQ a:=rx;exact Kb hu I2 g ry λs3 I3=>⟨.bl ov.isSome,H2,I3,rfl,q2⟩
theorem Eb (hu:X.A.units+1<ND)(ho:PE X o td)(hi:PE X i ty)(hv:PE X value tv)(hs:swapsWith value (some (.Subscript o i pos')) pos.line X.env=pure false):
  PS X (.Assign [.Subscript o i pos'] value pos) (Jg td ty tv):=by
 intro aa s σ H D I h;refine ab8 (Nk (hv aa s σ H _ I h) λr s1 ⟨v,H1,I1,rv,q1⟩=>Nk (ho aa s1 σ H1 _ I1 q1) λu s2 ⟨x,H2,I2,rx,q2⟩=>Nk (hi aa s2 σ H2 _ I2 q2) λiv s3 ⟨y,H3,I3,ry,a,H4,ex,g,q3⟩=>?_) hs;subst ex;obtain rfl:u=NQ a:=rx;exact zH hu I3 g ry rv λs4 I4=>⟨σ,H4,I4,q3⟩
end
theorem ua (h:M4)(hb:Pr<h.objs.size):bz P w H (h.push { cls:=.type "dict",data:=.dict #[] }) h.objs.size (.dK []):=
 ⟨Ow _,beq_eq_false_iff_ne.mpr (N1 (N0 hb)),[],.nil,ae2 h⟩
def FA:TE:=λ_ H Q=>∀p,H p=none->Q (.ref p) (upd H p (.dK []))
section
theorem ub:PE X (.Dict [] [] pos) FA:=λaa s σ H Q I h=>
 wpAny_Dict_empty ⟨.ref s.heap.objs.size,_,I.laid (a:=s.heap.objs.size) (o:=.dK []) (t':=s.toks) (λ_ _ q=>NK _ q) (Nl _) (ua s.heap I.Wi),rfl,h _ (I.Nf.fresh (Nl _))⟩
end
def uc:List (TE×TE)->St->Hp->(List (V×V)->Hp->Prop)->Prop
 | [],_,H,Q=>Q [] H
 | (tk,tv)::r,σ,H,Q=>tk σ H λx H1=>tv σ H1 λy H2=>uc r σ H2 λps H3=>Q ((x,y)::ps) H3
abbrev VV:List (V×V)->List (D'×D')->Prop:=Nd λp q=>aI p.1 q.1/\aI p.2 q.2
def ε (X:Cx)(pos:NS)(keys:List (Option Nn))(values:List Nn)(TB:List (TE×TE)):Prop:=
 ∀(aa:List (A'×G')) (s:J') (σ:St) (H:Hp) (Q:List (V×V)->Hp->Prop),Inv X aa σ H s->uc TB σ H Q->
  M3 (M8 X.prog X.w) X.A (evalPairs (pairTrees keys values X.env pos)) (λvs s'=>∃ps H',Inv X aa σ H' s'/\VV ps vs/\Q ps H') X.xe s
theorem wA:ε X pos [] [] []:=λaa s σ H Q I h=>pairTrees_nil_walk ⟨[],H,I,.nil,h⟩
theorem jV (hk:PE X k tk)(hv:PE X v tv)(hr:ε X pos ks vs TB):
  ε X pos (some k::ks) (v::vs) ((tk,tv)::TB):=λaa s σ H Q I h=>
 pairTrees_cons_walk (Nk (hk aa s σ H _ I h) λu s1 ⟨x,H1,I1,rx,q1⟩=>Nk (hv aa s1 σ H1 _ I1 q1) λw2 s2 ⟨y,H2,I2,ry,q2⟩=>
  Nk (hr aa s2 σ H2 _ I2 q2) λws s3 ⟨ps,H3,I3,rel,q3⟩=>⟨(x,y)::ps,H3,I3,.cons ⟨rx,ry⟩ rel,q3⟩)
def gD (kvs more:List (Key×V)):List (Key×V):=more.foldl (λacc kv=>dy acc kv.1 kv.2) kvs
theorem KV.merge:∀{more:List (Key×V)}{rs:List (Key×D')}{kvs:List (Key×V)}{vs:List (Key×D')},KV more rs->KV kvs vs->KV (gD kvs more) (merged vs rs):=by
 intro more rs kvs vs r;unfold KV at r
 induction r generalizing kvs vs with
 | nil=>intro q;exact q
 | @cons p q ps qs h t ih=>
  intro r0;have e:KV (dy kvs p.1 p.2) (stored vs q.1 q.2):=by
   have:=r0.put p.1 h.2;rw[<-h.1];exact this
  exact ih e
theorem kC:∀(more kvs:List (Key×V)),(gD kvs more).length<=kvs.length+more.length
 | [],kvs=>by show kvs.length<=kvs.length+0;lia
 | p::r,kvs=>by
  have h1:=kC r (dy kvs p.1 p.2);have h2:=gA kvs p.1 p.2;show(gD (dy kvs p.1 p.2) r).length<=_;rw[OB];lia
theorem n9:∀{kvs:List (Key×V)}{ws:List (D'×D')},VV (kvs.map λkv=>(kV kv.1,kv.2)) ws->∃rs,Carries (bg P w) ws rs/\KV kvs rs
 | [],_,r=>by rw[Zo] at r;cases r;exact⟨[],Qs,.nil⟩
 | p::kvs,_,r=>by
  rw[N7] at r;cases r with
  | @cons a b as bs h t=>
   obtain⟨rs,c,q⟩:=n9 (P:=P) (w:=w) t;obtain⟨b1,b2⟩:=b;exact⟨(p.1,b2)::rs,⟨gT h.1,rfl,c⟩,.cons ⟨rfl,h.2⟩ q⟩
def Jh (TB:List (TE×TE)):TE:=λσ H Q=>∀p,H p=none->uc TB σ (upd H p (.dK [])) λps H2=>H2 p=some (.dK [])/\∃kvs:List (Key×V),ps=kvs.map (λkv=>(kV kv.1,kv.2))/\kvs.length<=15/\Q (.ref p) (upd H2 p (.dK (gD [] kvs)))
theorem wB (h:ε X pos keys values TB)(Qu:keys.all (·.isSome)=true)(hl:keys.length=values.length)(h0:keys≠[])(h15:keys.length<=15):PE X (.Dict keys values pos) (Jh TB):=by
 intro aa s σ H Q I q;have hn:=I.Nf.fresh (Nl s.heap.objs.size);have I1:=I.laid (a:=s.heap.objs.size) (o:=.dK []) (h':=s.heap.push { cls:=.type "dict",data:=.dict #[] }) (t':=s.toks) (λ_ _ q=>NK _ q) (Nl _) (ua s.heap I.Wi);refine wpAny_Dict_walk (knd:=bg X.prog X.w) Qu hl h0 h15 (Nk (h aa _ σ _ _ I1 (q _ hn)) λws s2 ⟨ps,H2,I2,rel,e,kvs,ep,lk,q2⟩=>?_);subst ep;obtain⟨rs,c,rk⟩:=n9 (P:=X.prog) (w:=X.w) rel;obtain⟨z,hd,vs0,r0,dd⟩:=jU I2.Nf e;cases r0;refine⟨rs,c,dd,λh' Q4 hs=>⟨.ref s.heap.objs.size,_,?_,rfl,q2⟩⟩;have hz:(gD [] kvs).length<=Nh:=by
  have h1:=kC kvs [];rw[T2] at h1;rw[NU];lia
 have he:∃q,h'.get? s.heap.objs.size=some q:=let ⟨q,_,_,hq,_⟩:=Q4;⟨q,hq⟩;exact lU I2 (by rw[e];exact Qs) hs he (n8 hz hd (rk.merge .nil) Q4)
structure M2 (X:Cx)(o:Nn)(m:MV)(apos:NS)(e f:Nn)(O6:NS):Prop where
 base:attributeBase o m X.env (eval o X.env)=eval o X.env
 NH:((backTo O6 (Ob [e,f] X.env)).all (λx=>!x.1)&&(backToKw O6 (keywordEach [] X.env)).all (λx=>x.1.isSome)
  && decide (([e,f]:List Nn).length+([]:List V4).length+(if ([]:List V4).isEmpty then 0 else 1)<30))=true
 line:(apos.endLine==O6.line)=true
 trees:backTo O6 (Ob [e,f] X.env)=[(false,eval e X.env),(false,eval f X.env)]
def IsD (H:Hp)(a:A'):Prop:=(∃kvs,Rd H a (.dK kvs))\/∃kvs,Rd H a (.dT kvs)
theorem FC {σ:St}(I:Inv X aa σ H s)(d:IsD H a):
  s.TypeIs (.ref a) "dict"/\(∀b,NQ a=.ref b->∃ob,s.heap.get? b=some ob/\ob.dict=none)/\(a==Pr)=false:=by
 rcases d with⟨kvs,e⟩|⟨kvs,e⟩
 .obtain⟨_,hd,vs,_,dd⟩:=lQ I.Nf e;refine⟨dd.typeIs,λb q=>?_,hd⟩;cases q;obtain⟨ob,_,_,h1,h2,_⟩:=dd;exact⟨ob,h1,h2.2.1⟩
 .obtain⟨_,hd,xs,_,dd⟩:=lT I.Nf e;refine⟨dd.typeIs,λb q=>?_,hd⟩;cases q;obtain⟨ob,_,_,h1,h2,_⟩:=dd;exact⟨ob,h1,h2.2.1⟩
section
variable {σ:St} in
theorem FD (hu:A.units+1<ND)(I:Inv X aa σ H s)(g:ir H a y o)(ry:aI y u)(rd:aI d r)(h:∀w' s',Inv X aa σ H s'->aI (o.getD d) w'->Q w' s'):
  M3 (M8 X.prog X.w) A (call (.builtin "dict.get") [.ref a,u,r]) Q E s:=by
 rcases g with⟨kvs,k,e,ey,l⟩|⟨kvs,k,b,e,ey,eb,l⟩
 .subst ey;obtain⟨z,hd,vs,rel,dd⟩:=lQ I.Nf e;refine call_meetsIn acf dd.typeIs aer (ael _ _ _) (meets_dict_get_default (bg X.prog X.w) a (gT ry) hd r) ⟨_,dd.mapOf,h _ _ (I.tok _) ?_⟩;rw[l];exact(rel.val k).getD rd
 .subst ey;cases (show u=NQ b from ry);obtain⟨z,hd,xs,rel,dd⟩:=lT I.Nf e;refine call_meetsIn acf dd.typeIs aer (ael _ _ _) (meetsH_dict_get_default (tupleKind (bg X.prog X.w)) a b hd r) ⟨aat hu,k,xs,kO I.Nf eb,dd,h _ _ (I.tok _) ?_⟩;rw[l];exact(rel.val k).getD rd
end
def FE (td ty tx:TE):TE:=λσ H Q=>td σ H λx H1=>∃a,x=.ref a/\IsD H1 a/\ty σ H1 λy H2=>tx σ H2 λz H3=>∃o,ir H3 a y o/\Q (o.getD z) H3
section
theorem ud (hu:X.A.units+1<ND)(ho:PE X o td)(he:PE X e ty)(hf:PE X f tx)(m:M2 X o "get" apos e f O6):PE X (.Call (.Attribute o "get" apos) [e,f] [] O6) (FE td ty tx):=by
 intro aa s σ H Q I h;refine wpAny_Call_method m.base m.NH m.line aem acf PySem.F.type_dict_get (Nk (ho aa s σ H _ I h) λu s1 ⟨x,H1,I1,rx,a,ex,d,q1⟩=>?_);subst ex;obtain rfl:u=NQ a:=rx;obtain⟨t1,t2,_⟩:=FC I1 d;refine⟨t1,t2,?_⟩;rw[m.trees];refine ab7 rfl (aan (Xc (Nk (he aa s1 σ H1 _ I1 q1) λiv s2 ⟨y,H2,I2,ry,q2⟩=>
  Xc (Nk (hf aa s2 σ H2 _ I2 q2) λfv s3 ⟨z,H3,I3,rz,ov,g,q3⟩=>acr ?_))))
 exact FD hu I3 g ry rz λw' s4 I4 Sl=>⟨_,H3,I4,Sl,q3⟩
end
section
end
section
end
section
end
section
variable {κ:Type} [DecidableEq κ]
end
def bT (h:M4)(ks:List Int)(a:A'):Prop:=∃items:Array D',h.IsTuple a items/\Nd (λv (k:Int)=>∃t,v=O0 k t) items.toList ks
def dD (h:M4)(NZ:List (List Int))(a:A'):Prop:=∃items:Array D',h.IsTuple a items/\Nd (λv ks=>∃b,v=NQ b/\bT h ks b) items.toList NZ
theorem wC {h:M4}(x:h.IsTuple a i)(y:h.IsTuple a j):i=j:=by
 obtain⟨o,e,_,n,d⟩:=x;obtain⟨o',e',_,n',d'⟩:=y;rw[e] at e';cases e';rw[d] at d';injection d'
theorem bT.inj (p:bT h x a)(q:bT h y a):x=y:=by
 obtain⟨i,t,r⟩:=p;obtain⟨j,t',r'⟩:=q;have:=wC t t';subst this;exact Vm (F:=λv (k:Int)=>∃t,v=O0 k t) (λ_ _ _ ⟨_,h1⟩ ⟨_,h2⟩=>by rw[h1] at h2;cases h2;rfl) r r'
theorem dD.inj (p:dD h x a)(q:dD h y a):x=y:=by
 obtain⟨i,t,r⟩:=p;obtain⟨j,t',r'⟩:=q;have:=wC t t';subst this;exact Vm (F:=λv ks=>∃b,v=NQ b/\bT h ks b) (λ_ _ _ ⟨_,h1,g1⟩ ⟨_,h2,g2⟩=>by rw[h1] at h2;cases h2;exact g1.inj g2) r r'
theorem qI {es ep}(x:h.IsTuple a i)(ho:h.get? d=some o)(hd:o.data=.dict es ep)(hs:R6 d h h'):h'.IsTuple a i:=by
 obtain⟨o',e,c,n,d'⟩:=x;refine⟨o',(hs.2 a ?_).trans e,c,n,d'⟩;rintro rfl;rw[e] at ho;cases ho;rw[d'] at hd;cases hd
theorem bT.keeps {es ep}(p:bT h x a)(ho:h.get? d=some o)(hd:o.data=.dict es ep)(hs:R6 d h h'):bT h' x a:=
 let ⟨i,t,r⟩:=p;⟨i,qI t ho hd hs,r⟩
theorem dD.keeps {es ep}(p:dD h x a)(ho:h.get? d=some o)(hd:o.data=.dict es ep)(hs:R6 d h h'):dD h' x a:=
 let ⟨i,t,r⟩:=p;⟨i,qI t ho hd hs,aX (λ_ _ ⟨b,e,q⟩=>⟨b,e,q.keeps ho hd hs⟩) r⟩
section
variable {A:Nv}{s:J'} in
theorem ue {α:Type}[DecidableEq α]{F:D'->α->Prop}{us vs:Array D'}{as bs:List α}(p:Nd F us.toList as)(q:Nd F vs.toList bs)(h:∀u v a b,F u a->F v b->RP A s u v (decide (a=b))):
  ∀j (h1:j<us.size) (h2:j<vs.size),RP A s us[j] vs[j] (decide (as[j]?=bs[j]?)):=by
 intro j h1 h2;obtain⟨a,ea,ra⟩:=cy (i:=j) (a:=us[j]) p (by simp[h1]);obtain⟨b,eb,rb⟩:=cy (i:=j) (a:=vs[j]) q (by simp[h2]);rw[ea,eb];have e3:decide (some a=some b)=decide (a=b):=by
  by_cases h:a=b
  .subst h;simp
  .simp[h]
 rw[e3];exact h _ _ _ _ ra rb
theorem Dq (hu:A.units<ND)(p:bT s.heap x a)(q:bT s.heap y b):RP A s (.ref a) (.ref b) (decide (x=y)):=by
 by_cases e:a=b
 .subst e;have:=p.inj q;subst this;rw[Nz rfl];exact Xm _
 .obtain⟨i,t,r⟩:=p;obtain⟨j,t',r'⟩:=q;refine Y3 e ?_;have h:=Xi (A:=A) (e:=λk=>decide (x[k]?=y[k]?)) t t' hu (ue r r' λu v a b ⟨_,h1⟩ ⟨_,h2⟩=>by
   subst h1 h2;rw[<-hW];exact aas _ _ _ _)
  rw[jv (by rw[<-Pe,r.length]) (by rw[<-Pe,r'.length])] at h;exact h
theorem FF (hu:A.units+1<ND)(p:dD s.heap x a)(q:dD s.heap y b):RP A s (.ref a) (.ref b) (decide (x=y)):=by
 by_cases e:a=b
 .subst e;have:=p.inj q;subst this;rw[Nz rfl];exact Xm _
 .obtain⟨i,t,r⟩:=p;obtain⟨j,t',r'⟩:=q;refine Y3 e ?_;have h:=Xi (A:=A) (e:=λk=>decide (x[k]?=y[k]?)) t t' (by lia) (ue r r' λu v a b ⟨_,h1,g1⟩ ⟨_,h2,g2⟩=>by
   subst h1 h2;exact Dq (A:=A.in1) hu g1 g2)
  rw[jv (by rw[<-Pe,r.length]) (by rw[<-Pe,r'.length])] at h;exact h
end
section
theorem aa6:∀{vs:List D'}{ks:List Int},Nd (λv (k:Int)=>∃t,v=O0 k t) vs ks->ItemsAre (intKind prog w) ks vs
 | _,_,.nil=>.nil
 | _,_,.cons ⟨t,e⟩ r=>by
  subst e;exact .cons (by simp[intKind,Xs]) (aa6 r)
theorem bT.key (p:bT h ks a):IsTupleKey (intKind prog w) h ks a:=by
 obtain⟨i,⟨o,e,c,n,d⟩,r⟩:=p;exact⟨o,i,n,e,c,d,aa6 r⟩
def gE (ks:List Int):Int:=reduceHash (VC (ks.map hashInt))
def jw (NZ:List (List Int)):Int:=reduceHash (VC (NZ.map gE))
def mZ (NZ:List (List Int)):Nat:=(NZ.map λks=>ks.length+1).sum+1
variable {s:J'} in
theorem fV (x:s.heap.IsTuple a i):s.TypeIs (.ref a) "tuple":=let ⟨o,e,c,_⟩:=x;⟨o,e,c⟩
theorem qK (hu:A.units<ND)(hk:bT s.heap ks a)(h:Q (gE ks) { s with toks:=s.toks+(ks.length+1) }):M3 (M8 prog w) A (pyHash (.ref a)) Q E s:=
 wpAny_pyHash_tuple (knd:=intKind prog w) hu hk.key h
theorem yc (hu:A.units+1<ND)(hk:dD s.heap NZ a)(h:Q (jw NZ) { s with toks:=s.toks+mZ NZ }):M3 (M8 prog w) A (pyHash (.ref a)) Q E s:=by
 obtain⟨items,tp,hi⟩:=hk;have hT:=fV tp;obtain⟨o,ho,Qp,n,hd⟩:=tp;unfold pyHash
 first|unfold pyHashByItsType|skip
 first|refine MW (wpAny_cRoomFor_or (.inr (by lia)) ?_)|skip
 refine MW (VQ hT Y9.lookup ?_);show M3 _ _ (if (some (VU "tuple.__hash__")==some T7)=true then _ else _) Q E s;rw[M0 (by rw[beq_builtin_none];exact OZ)];refine MW (VQ hT Y9.lookup ?_);show M3 _ _ (callSpecialIfBoundUnlessNone? (.ref a) "__hash__" _ >>= _) Q E s;refine MW (wpAny_callSpecialIfBoundUnlessNone?_slot hT Y9 (RK Y9 hT F.entry_tuple_hash ?_ (F.args_tuple_hash_1 _)));show M3 _ _ (ad7 (.ref a) >>= _) _ _ s;refine MW (wpAny_tupleItemsOf ho hd ?_);refine MW ?_;rw[<-Y4];refine Re _
  (λrest (b:Array Int) s'=>∃done left,NZ=done++left/\Nd (λv ks=>∃b,v=NQ b/\bT s.heap ks b) rest left/\b.toList=done.map gE/\s'={ s with toks:=s.toks+(done.map λks=>ks.length+1).sum })
  _ ?_ ?_ _ _ ⟨[],NZ,rfl,hi,rfl,rfl⟩
 .rintro x rest b s' ⟨done,left,rfl,hl,hb,rfl⟩;cases hl with
  | @cons _ ks _ adj h1 hl'=>
   obtain⟨c,rfl,h1⟩:=h1;refine MW (qK (A:=A.in1) hu h1 ?_)
   first
    | exact M1 ⟨done++[ks],adj,by simp,hl',by simp[hb],by simp[aaQ]⟩
    | exact MW (M1 (M1 ⟨done++[ks],adj,by simp,hl',by simp[hb],by simp[aaQ]⟩))
 .rintro b s' ⟨done,left,rfl,hl,hb,rfl⟩;cases hl;rw[QD] at h;show M3 _ _ (retInt (VC b.toList)) _ _ _;rw[hb];refine wpAny_ret_mkInt ?_;show M3 _ _ (if (decide (-(2:Int) ^ 63<=VC (done.map gE))&&decide (VC (done.map gE)<2 ^ 63))=true then _ else _) Q E _;unfold jw reduceHash mZ at h
  by_cases hr:(decide (-(2:Int) ^ 63<=VC (done.map gE))&&decide (VC (done.map gE)<2 ^ 63))=true
  .rw[M6 hr];rw[M6 hr] at h;exact M1 (by simpa [aaQ] using h)
  .rw[M0 hr];rw[M0 hr] at h;exact MW (Qt (M1 (by simpa [aaQ] using h)))
theorem uf (n:Nat)(tp:s.heap.IsTuple a items)(hv:∀v∈items.toList,∀(Q:Bool->J'->Prop),Q true s->M3 (M8 prog w) A (eqIsQuiet n v) Q E s)(h:Q true s):
  M3 (M8 prog w) A (eqIsQuiet (n+1) (.ref a)) Q E s:=by
 have hT:=fV tp;obtain⟨o,ho,Qp,n',hd⟩:=tp;unfold eqIsQuiet;refine MW (VQ hT F.slot_tuple_eq.lookup ?_);show M3 _ _ (isInstance (.ref a) (.type "tuple") >>= _) _ _ s;refine MW (aaC hT isSubtype_tuple_tuple ?_);simp only[Rx,OI,if_false];refine MW (aaM ho hd ?_);refine MW ?_;show M3 _ _ (forIn items _ _) _ _ s;rw[<-Y4];refine Re _ (λrest r s'=>r.1=none/\s'=s/\∀v∈rest,v∈items.toList) _ ?_ ?_ _ _ ⟨rfl,rfl,λv hv=>hv⟩
 .rintro v rest r s' ⟨hr,rfl,Qu⟩;refine MW (hv v (Qu v Nu) _ ?_);simp only[Rx,OI,if_false];exact M1 ⟨rfl,rfl,λu hu'=>Qu u (NP _ hu')⟩
 .rintro⟨r1,r2⟩ s' ⟨hr,rfl,_⟩;simp only at hr;subst hr;exact M1 h
theorem fA {α β:Type}{F:α->β->Prop}:∀{PB:List α}{PD:List β},Nd F PB PD->∀a∈PB,∃b∈PD,F a b
 | _,_,.nil,a,h=>by cases h
 | _,_,.cons r t,a,h=>by
  rcases NG.mp h with rfl|h
  .exact⟨_,Nu,r⟩
  .obtain⟨b,m,q⟩:=fA t a h;exact⟨b,NP _ m,q⟩
theorem ug (n:Nat)(hk:bT s.heap ks a)(h:Q true s):M3 (M8 prog w) A (eqIsQuiet (n+1) (.ref a)) Q E s:=by
 obtain⟨i,t,r⟩:=hk;refine uf n t (λv hv Q' q=>?_) h;obtain⟨k,_,t',e⟩:=fA r v hv;subst e;rw[eqIsQuiet_byValue n rfl];exact M1 q
theorem zJ (n:Nat)(hk:dD s.heap NZ a)(h:Q true s):M3 (M8 prog w) A (eqIsQuiet (n+2) (.ref a)) Q E s:=by
 obtain⟨i,t,r⟩:=hk;refine uf (n+1) t (λv hv Q' q=>?_) h;obtain⟨ks,_,b,e,g⟩:=fA r v hv;subst e;exact ug n g q
def iu (prog)(w):HeapKind prog w (List (List Int)) where
 is:=dD
 hash:=jw
 draws:=mZ
 room:=λA=>A.units+1<ND
 inj:=λp q=>p.inj q
 keeps:=λp ho hd hs=>p.keeps ho hd hs
 pyHash:=λhu hk h=>yc hu hk h
 eqBool:=λhu hx hy h=>FF hu hx hy _ _ _ _ h
 quiet:=λhk h=>zJ 6 hk h
end
theorem lW {α β γ:Type}{F:α->β->Prop}{G:α->γ->Prop}{R:β->γ->Prop}(h:∀a b c,F a b->G a c->R b c):∀{l:List α}{m:List β}{n:List γ},Nd F l m->Nd G l n->Nd R m n
 | _,_,_,.nil,.nil=>.nil
 | _,_,_,.cons r t,.cons r' t'=>.cons (h _ _ _ r r') (lW h t t')
abbrev aK:Dk (List Int):=BI yb
abbrev bS:Dk (List (List Int)):=BI aK
section
variable {σ:St} in
theorem yd (I:Inv X aa σ H s)(h:aK.rep X.K H (.ref a) ks):bT s.heap ks a:=by
 obtain⟨p,xs,e,q,r⟩:=h;cases e;obtain⟨MY,v,t,_⟩:=I.tuple q;refine⟨MY.toArray,t,?_⟩;exact lW (F:=aI) (G:=yb.rep X.K H) (λx u k h1 h2=>by
  have h2:x=V.int k:=h2;subst h2;exact h1) v r
variable {σ:St} in
theorem kP (I:Inv X aa σ H s)(h:bS.rep X.K H (.ref a) NZ):dD s.heap NZ a:=by
 obtain⟨p,xs,e,q,r⟩:=h;cases e;obtain⟨MY,v,t,_⟩:=I.tuple q;refine⟨MY.toArray,t,?_⟩;exact lW (F:=aI) (G:=aK.rep X.K H) (λx u k h1 h2=>by
  obtain⟨p,xs,e,q,r⟩:=id h2;subst e;cases h1;exact⟨p,rfl,yd I h2⟩) v r
end
abbrev Q5:=List (List (List Int)×A'×Int)
def PL (L:Q5)(xs:List (List (List Int)×A'×D')):Prop:=Nd (λ(p:List (List Int)×A'×Int) (q:List (List Int)×A'×D')=>p.1=q.1/\p.2.1=q.2.1/\∃t,q.2.2=O0 p.2.2 t) L xs
def fB (d:A')(L:Q5):HO:=.ext λh=>(d==Pr)=false/\∃xs,PL L xs/\∃o es ep,h.get? d=some o/\o.ExactDict/\o.data=.dict es ep/\es.toList=xs.map (λx=>(⟨jw x.1,.ref x.2.1,x.2.2⟩:O4))/\(xs.map (·.1)).Nodup
theorem wD (x:(d==Pr)=false/\∃xs,PL L xs/\∃o es ep,h.get? d=some o/\o.ExactDict/\o.data=.dict es ep/\es.toList=xs.map (λx=>(⟨jw x.1,.ref x.2.1,x.2.2⟩:O4))/\(xs.map (·.1)).Nodup):
  bz P w H h d (fB d L):=by
 refine⟨x,?_,λh1 h2 ⟨y,xs,p,o,es,ep,e,r⟩ k=>⟨y,xs,p,o,es,ep,k _ e,r⟩⟩;obtain⟨_,_,_,o,_,_,e,_⟩:=x;exact⟨o,e⟩
def e9 (L:Q5)(k:List (List Int)):Option Int:=(L.find? λe=>decide (e.1=k)).map (·.2.2)
theorem sE:∀{L:Q5}{xs:List (List (List Int)×A'×D')},PL L xs->(e9 L k=none/\atKey xs k=none)\/∃n a t,e9 L k=some n/\atKey xs k=some (a,.int n t)
 | _,_,.nil=>.inl ⟨rfl,rfl⟩
 | e::L,x::xs,.cons r t=>by
  obtain⟨k1,a1,n1⟩:=e;obtain⟨k2,a2,v2⟩:=x;obtain⟨h1,h2,tk,h3⟩:=r;dsimp only at h1 h2 h3;subst h1 h2 h3
  by_cases z:k1=k
  .subst z;exact .inr ⟨n1,a1,tk,by simp[e9],by simp[atKey]⟩
  .have ih:=sE (k:=k) t;have e1:e9 ((k1,a1,n1)::L) k=e9 L k:=by simp[e9,z]
   have e2:atKey ((k1,a1,O0 n1 tk)::xs) k=atKey xs k:=by simp[atKey,z]
   rw[e1,e2];exact ih
def jW (K:MZ)(H:Hp)(L:Q5):Prop:=∀e∈L,bS.rep K H (.ref e.2.1) e.1
section
variable {σ:St} in
theorem uh (I:Inv X aa σ H s)(e:H d=some (fB d L))(hk:jW X.K H L):(d==Pr)=false/\∃xs,PL L xs/\s.heap.DictOfH (iu X.prog X.w) d xs:=by
 obtain⟨⟨y,xs,p,o,es,ep,e1,e2,e3,e4,e5⟩,_⟩:=(show bz X.prog X.w H s.heap d (fB d L) from I.Nf d _ e)
 refine⟨y,xs,p,o,es,ep,e1,e2,e3,e4,λx hx=>?_,e5⟩;have all:∀{L:Q5}{xs:List (List (List Int)×A'×D')},jW X.K H L->PL L xs->∀x∈xs,dD s.heap x.1 x.2.1:=by
  intro L xs hk p
  induction p with
  | nil=>intro x hx;cases hx
  | @cons e x L xs r t ih=>
   intro z hz;rcases NG.mp hz with rfl|hz
   .have:=kP I (hk e Nu);rw[r.1,r.2.1] at this;exact this
   .exact ih (λe' Up=>hk e' (NP _ Up)) z hz
 exact all hk p x hx
def Ec (K:MZ):R2:=λx y H Q=>∃d L b k,y=.ref d/\x=.ref b/\H d=some (fB d L)/\jW K H L/\bS.rep K H (.ref b) k/\Q (.bl (!(e9 L k).isSome)) H
theorem zK (hu:X.A.units+2<ND):N4 X (Ps .NotIn) (Ec X.K):=by
 intro aa s σ H x y v u Q I rx ry h;obtain⟨d,L,b,k,rfl,rfl,e,hk,hb,q⟩:=h;cases rx;cases ry;obtain⟨hd,xs,p,dd⟩:=uh I e hk;refine wpAny_notIn_heap (knd:=iu X.prog X.w) (by show X.A.units+1+1<ND;lia) (kP I hb) hd dd ⟨.bl (!(e9 L k).isSome),H,I.tok _,?_,q⟩;show _=RN _;rcases sE (k:=k) p with⟨z1,z2⟩|⟨n,a,t,z1,z2⟩
 .rw[z1,z2];rfl
 .rw[z1,z2];rfl
def Ji (K:MZ)(td ty:TE):TE:=λσ H Q=>td σ H λx H1=>ty σ H1 λy H2=>∃d L b k n,x=.ref d/\y=.ref b/\H2 d=some (fB d L)/\jW K H2 L/\bS.rep K H2 (.ref b) k/\e9 L k=some n/\Q (.int n) H2
theorem Ed (hu:X.A.units+2<ND)(ho:PE X o td)(hi:PE X i ty)(hs:tZ i):PE X (.Subscript o i pos) (Ji X.K td ty):=by
 intro aa s σ H Q I h;refine lV aae.lookup hs (Nk (ho aa s σ H _ I h) λu s1 ⟨x,H1,I1,rx,q1⟩=>Nk (hi aa s1 σ H1 _ I1 q1) λiv s2 ⟨y,H2,I2,ry,d,L,b,k,n,ex,ey,e,hk,hb,hn,q2⟩=>?_);subst ex ey;cases rx;cases ry;obtain⟨hd,xs,p,dd⟩:=uh I2 e hk;refine⟨dd.typeIs,?_⟩;rcases sE (k:=k) p with⟨z1,z2⟩|⟨n',a,t,z1,z2⟩
 .rw[z1] at hn;cases hn
 .rw[z1] at hn;cases hn;exact wpAny_getItem_heap (knd:=iu X.prog X.w) (by show X.A.units+1+1<ND;lia) (kP I2 hb) dd z2 ⟨.int n,H2,I2.tok _,⟨t,rfl⟩,q2⟩
def Jj (K:MZ)(td ty tv:TE):TS:=λD σ H=>tv σ H λv H1=>td σ H1 λx H2=>ty σ H2 λy H3=>∃d L b k n,v=.int n/\x=.ref d/\y=.ref b/\H3 d=some (fB d L)/\jW K H3 L/\bS.rep K H3 (.ref b) k/\e9 L k=none/\L.length<Nh/\
 D.nx σ (upd H3 d (fB d (L++[(k,b,n)])))
theorem Ee (hu:X.A.units+2<ND)(ho:PE X o td)(hi:PE X i ty)(hv:PE X value tv)(hs:swapsWith value (some (.Subscript o i pos')) pos.line X.env=pure false):
  PS X (.Assign [.Subscript o i pos'] value pos) (Jj X.K td ty tv):=by
 intro aa s σ H D I h;refine ab8 (Nk (hv aa s σ H _ I h) λr s1 ⟨v,H1,I1,rv,q1⟩=>Nk (ho aa s1 σ H1 _ I1 q1) λu s2 ⟨x,H2,I2,rx,q2⟩=>Nk (hi aa s2 σ H2 _ I2 q2) λiv s3 ⟨y,H3,I3,ry,d,L,b,k,n,ev,ex,ey,e,hk,hb,hn,hl,q3⟩=>?_) hs;subst ev ex ey;obtain⟨t,rfl⟩:=rv;cases rx;cases ry;obtain⟨hd,xs,p,dd⟩:=uh I3 e hk;have z2:atKey xs k=none:=by
  rcases sE (k:=k) p with⟨z1,z2⟩|⟨n',a,t',z1,z2⟩
  .exact z2
  .rw[z1] at hn;cases hn
 refine wpAny_setItem_heap (knd:=iu X.prog X.w) (hsz:=by rw[<-VS p];lia) (by show X.A.units+1+1<ND;lia) (kP I3 hb) dd λh' Q4 Q2=>⟨σ,_,?_,q3⟩
 rw[storedH_new z2] at Q4;obtain⟨o',es,ep,e1,e2,e3,e4,_,e5⟩:=Q4;refine I3.write (x:=d) (e:=d) (by rw[e];exact Qs) (.inl rfl) (λb q hb z=>(Q2.2 b hb).trans z) ⟨_,e1⟩ (wD ⟨hd,_,de p (.cons ⟨rfl,rfl,t,rfl⟩ .nil),o',es,ep,e1,e2,e3,e4,e5⟩)
theorem BJ:PE X (.Dict [] [] pos) (λ_ H Q=>∀p,H p=none->Q (.ref p) (upd H p (fB p []))):=λaa s σ H Q I h=>
 wpAny_Dict_empty ⟨.ref s.heap.objs.size,_,I.laid (a:=s.heap.objs.size) (o:=fB s.heap.objs.size []) (t':=s.toks) (λ_ _ q=>NK _ q) (Nl _)
  (wD ⟨beq_eq_false_iff_ne.mpr (N1 (N0 I.Wi)),[],.nil,_,#[],0,OH _ rfl,⟨rfl,rfl,rfl⟩,rfl,rfl,VR⟩),rfl,h _ (I.Nf.fresh (Nl _))⟩
end
section
variable {σ:St} in
theorem Inv.freeze (I:Inv X aa σ H s)(e:H a=some (.dK kvs)):∃ob,(∃es ep,ob.data=.dict es ep)/\Inv X aa σ (upd H a (.Oq ob (.dK kvs))) s:=by
 obtain⟨z,hd,vs,rel,dd⟩:=jU I.Nf e;obtain⟨o,es,ep,ho,hc,ZL,r⟩:=id dd;refine⟨o,⟨es,ep,ZL⟩,?_⟩;have:=I.write (x:=a) (e:=a) (h':=s.heap) (t':=s.toks) (o:=.Oq o (.dK kvs)) (by rw[e];exact Qs) (.inl rfl) (λb u _ q=>q) ⟨o,ho⟩ ⟨ho,z,hd,vs,rel,dd⟩;exact this
variable {σ:St} in
theorem ui (I:Inv X aa σ H s)(e:H a=some (.Oq ob (.dK kvs)))(Sn:ob.data=.dict es ep):(a==Pr)=false/\∃vs,KV kvs vs/\s.heap.DictAt (bg X.prog X.w) a vs ep:=by
 obtain⟨ho,z,hd,vs,rel,o',Pj,Q0,Pp,hc,ZL,r⟩:=(show bz X.prog X.w H s.heap a (.Oq ob (.dK kvs)) from I.Nf a _ e)
 rw[ho] at Pp;cases Pp;rw[Sn] at ZL;cases ZL;exact⟨hd,vs,rel,ob,es,ho,hc,Sn,r⟩
end
def Itd (a:A')(ob:G')(kvs:List (Key×V)):It:=
 ⟨λi H=>H a=some (.Oq ob (.dK kvs))/\i<kvs.length,λi H x H'=>H'=H/\∃kv,kvs[i]?=some kv/\x=kV kv.1,λi H=>H a=some (.Oq ob (.dK kvs))/\kvs.length<=i⟩
theorem wE (h:(bg P w).is k u=true):aI (kV k) u:=by
 rw[xD] at h;rcases cn h with⟨i,t,rfl,rfl⟩|⟨x,t,rfl,rfl⟩
 .exact⟨t,rfl⟩
 .exact⟨t,rfl⟩
theorem zL {K:MZ}(a it:A')(ob:G')(kvs:List (Key×V))(Sn:ob.data=.dict es ep):
  Turn P w K tg (Itd a ob kvs) [it] it (λi h=>h.IsKeyIter it a i kvs.length ep) where
 mem:=by simp
 obj:=λi h st b hb=>by
  have e:b=it:=by simpa using hb
  subst e;obtain⟨o,e,c,d⟩:=st;exact⟨o,e,λv z=>by rw[d] at z;cases z⟩
 keep:=λi h h' st k=>st.at λo e=>k it (by simp) o e
 item:=by
  intro X hP hw hK hc i aa s σ H E I hf st hg;subst hP hw hK;obtain⟨e,hi⟩:=hg;obtain⟨hd,vs,rel,dd⟩:=ui I e Sn;obtain⟨f0,f1,f2,f3,f4,f5⟩:=hf it (by simp);have hx:kvs[i]?=some kvs[i]:=Ou hi;obtain⟨⟨k,v⟩,hv,hk,_⟩:=cy (F:=λ(p:Key×V) (q:Key×D')=>p.1=q.1/\aI p.2 q.2) rel hx;rw[rel.length] at st;refine wpAny_pyNext_dict_item (knd:=bg X.prog X.w) st dd hv λkey h' PH Nm sb=>?_;have I1:Inv X aa σ H { s with heap:=h' }:=I.turned (t':=s.toks) (λb o hb e=>(sb.2 b hb).trans e) f0 f1 f3 f4 f5;obtain⟨o,e',c,d⟩:=id Nm;rw[<-rel.length] at Nm;exact⟨key,rfl,sy (s:={ s with heap:=h' }) e' c d (by decide) ⟨kV k,H,I1,wE PH,⟨rfl,kvs[i],hx,by rw[hk]⟩,Nm,λb hb=>(hf b hb).1⟩⟩
 done:=by
  intro X hP hw hK hc i aa s σ H E I hf st hg;subst hP hw hK;obtain⟨e,hi⟩:=hg;obtain⟨hd,vs,rel,dd⟩:=ui I e Sn;obtain⟨f0,f1,f2,f3,f4,f5⟩:=hf it (by simp);have hl:=rel.length;rw[rel.length] at st;exact wpAny_pyNext_dict_end (knd:=bg X.prog X.w) (I.ok.hd hc) st dd (ace (by lia)) λh' eb=>⟨rfl,I.turned (t':=s.toks) (λb o hb e=>eb b o hb e) f0 f1 f3 f4 f5⟩
 self:=λ_ _ _ _ _ st h=>wpAny_pyIter_keyiter st h
def Jk (tl:TE):TI:=λσ H R=>tl σ H λx H1=>∃a kvs,x=.ref a/\H1 a=some (.dK kvs)/\∀ob,R (Itd a ob kvs) (upd H1 a (.Oq ob (.dK kvs)))
section
theorem Ef (hl:PE X l tl):PI X tg l (Jk tl):=by
 intro aa s σ H R I h;refine Nk (hl aa s σ H _ I h) λv s1 ⟨x,H1,I1,r1,a,kvs,ex,ea,q⟩=>?_;subst ex;cases r1;obtain⟨ob,⟨es,ep,Sn⟩,I2⟩:=I1.freeze ea;obtain⟨hd,vs,rel,dd⟩:=ui I2 al Sn;refine wpAny_pyIter_dict (knd:=bg X.prog X.w) hd dd ?_;refine⟨s1.heap.objs.size,[s1.heap.objs.size],_,_,_,rfl,I2.kept (t':=s1.toks) λb o e=>NK _ e,zL a _ ob kvs Sn,⟨_,OH _ rfl,rfl,by rw[rel.length];rfl⟩,λb hb=>?_,q ob⟩;have e:b=s1.heap.objs.size:=by simpa using hb
 subst e;exact I2.XJ (Nl _) (I2.Nf.fresh (Nl _))
end
theorem zM (Pv:Nat->List V->Hp->Prop)(h0:Pv 0 [] H)(hl:∀i ys H,i<=kvs.length->Pv i ys H->H a=some (.Oq ob (.dK kvs))/\ys.length<=i)(hz:kvs.length<=Nh)(hs:∀i kv ys H,kvs[i]?=some kv->Pv i ys H->tt (some (kV kv.1)::σ) H λb H4=>if b=true then te (some (kV kv.1)::σ) H4 λy H5=>Pv (i+1) (ys++[y]) H5 else Pv (i+1) ys H4)(hd:∀ys H p,Pv kvs.length ys H->H p=none->Q (.ref p) (upd H p (.lst ys))):lI (Itd a ob kvs) σ tt te Q H:=by
 refine⟨λi m ys H=>m=kvs.length-i/\i<=kvs.length/\Pv i ys H,⟨kvs.length,by simp,Ow _,h0⟩,?_⟩;rintro i m ys H2 ⟨rfl,hi,p⟩;obtain⟨q,hn⟩:=hl i ys H2 hi p
 by_cases N9:i<kvs.length
 .refine .inr ⟨⟨q,N9⟩,by lia,Pv (i+1),λzs H' p'=>⟨kvs.length-(i+1),by lia,rfl,N9,p'⟩,λx H3 y=>?_⟩;obtain⟨e,kv,y,ex⟩:=y;subst e ex;exact hs i kv ys _ y p
 .have e:i=kvs.length:=by lia
  subst e;exact .inl ⟨⟨q,Nl _⟩,by lia,λb hb=>hd ys H2 b p hb⟩
section
theorem pK (hc:X.calm=true):cK X (.type "list") (λxs H Q=>∃p kvs,xs=[.ref p]/\H p=some (.dK kvs)/\∀l,H l=none->Q (.ref l) (upd H l (.lst (kvs.map λkv=>kV kv.1)))):=by
 intro aa s σ H xs us Q I r h;obtain⟨p,kvs,rfl,hp,q⟩:=h;obtain⟨u,rfl,ru⟩:=dm r;cases ru;obtain⟨z,hd,vs,rel,dd⟩:=jU I.Nf hp;obtain⟨ep,da⟩:=dd.dictAt;refine W.kdl_call (W.kdl_dict (knd:=bg X.prog X.w) hd) (I.ok.hd hc) da (by rw[<-rel.length];exact z) λh' tk Pu c' hk hS XO=>?_;refine⟨.ref s.heap.objs.size,_,I.laid (o:=.lst (kvs.map λkv=>kV kv.1)) hk (Nl _) ⟨by rw[NT];exact z,Pu.toList,c',?_,by simpa using hS⟩,rfl,q _ (I.Nf.fresh (Nl _))⟩;refine mM (by have h1:=XO.1;have h2:=rel.length;simp;lia) λi x u e1 e2=>?_;have Tx:Pu[i]?=some u:=by simpa using e2
 obtain⟨k,v,hv,RT⟩:=XO.2 i u Tx;obtain⟨kv,e3,e4,_⟩:=fU (F:=λ(p:Key×V) (q:Key×D')=>p.1=q.1/\aI p.2 q.2) rel hv;rw[Pa,e3] at e1;cases e1;show aI (kV kv.1) u;rw[show kv.1=k from e4];exact wE RT
def Jl:V->List V->Hp->VK->Prop:=λo vs H Q=>∃p kvs k v,o=.ref p/\vs=[kV k,v]/\H p=some (.dK kvs)/\kvs.length<Nh/\(∀y,cz kvs k=some y->Q y H)/\(cz kvs k=none->Q v (upd H p (.dK (dy kvs k v))))
theorem ss:MtR X "dict.setdefault" Jl:=by
 intro aa s σ H o vs v us Q I ro rv h;obtain⟨p,kvs,k,y,rfl,rfl,hp,hl,q1,q2⟩:=h;cases ro;obtain⟨u1,u2,rfl,r1,r2⟩:=rv.two;obtain⟨z,hd,ws,rel,dd⟩:=jU I.Nf hp;refine call_meetsIn adW dd.typeIs PySem.F.entry_dict_setdefault (PySem.F.args_dict_setdefault_3 _ _ _) (kt_meets_setdefault (bg X.prog X.w) p (gT r1) hd u2) ⟨ws,dd,by rw[<-rel.length];exact z,λw' hw=>?_,λhn h' Q4 hs=>?_⟩
 .have hv:=rel.val k;rw[hw] at hv;cases e:cz kvs k with
  | none=>rw[e] at hv;exact hv.elim
  | some y'=>
   rw[e] at hv;exact⟨y',H,I.tok _,hv,q1 y' e⟩
 .have hv:=rel.val k;rw[hn] at hv;have e:cz kvs k=none:=by
   cases e:cz kvs k with
   | none=>rfl
   | some y'=>rw[e] at hv;exact hv.elim
  have he:∃q,h'.get? p=some q:=let ⟨q,_,_,hq,_⟩:=Q4;⟨q,hq⟩;exact⟨y,_,lU I (by rw[hp];exact Qs) hs he (n8 (by have:=gA kvs k y;lia) hd (rel.put k r2) Q4),r2,q2 e⟩
end
section
theorem wF:PQ κ xs 1:=λi j h1 h2=>by
 obtain rfl:i=0:=by lia
 obtain rfl:j=0:=by lia
 exact Xn _
theorem Eg (h:PQ κ xs x)(hx:1<=x)(hl:κ.kle (KK κ xs (x-1)) (KK κ xs x)):PQ κ xs (x+1):=λi j h1 h2=>by
 rcases P1 j x with z|z
 .exact h i j h1 z
 obtain rfl:j=x:=by lia
 rcases P1 i j with y|y
 .exact aaD (h i (j-1) (by lia) (by lia)) hl
 obtain rfl:i=j:=by lia
 exact Xn _
theorem lX (h:R9 κ xs x)(hx:1<=x)(hl:κ.kle (KK κ xs x) (KK κ xs (x-1))):R9 κ xs (x+1):=λi j h1 h2=>by
 rcases P1 j x with z|z
 .exact h i j h1 z
 obtain rfl:j=x:=by lia
 rcases P1 i j with y|y
 .exact aaD hl (h i (j-1) (by lia) (by lia))
 obtain rfl:i=j:=by lia
 exact Xn _
theorem uj (e:∀k,KK κ ys k=KK κ xs k)(h:R9 κ xs n):R9 κ ys n:=λi j h1 h2=>by
 have:=h i j h1 h2;rw[<-e,<-e] at this;exact this
theorem Eh:R9 κ xs 1:=λi j h1 h2=>wF j i (by lia) (by lia)
theorem BK (h:R9 κ xs n)(hn:n<=xs.size):PQ κ (mirror xs 0 n ((n-0) / 2)) n:=λi j h1 h2=>by
 rw[KK_mirror hn,KK_mirror hn,M6 ⟨by lia,by lia⟩,M6 ⟨by lia,by lia⟩];exact h _ _ (by lia) (by lia)
end
structure Py (kd)(NJ)(st):Prop where
 perm:(NF st).Perm NJ
 kind:kindOf st=kd
 failed:failedOf st=none
 pend:pendingOf st=#[]
theorem Py.sz {st:Qe}(h:Py kd NJ st):(NF st).size=NJ.size:=h.perm.size_eq
theorem Py.arr {st:Qe}(h:Py kd NJ st)(p:xs.Perm (NF st)):Py kd NJ (setArr st xs):=⟨p.trans h.perm,h.kind,h.failed,h.pend⟩
section
def Uq (prog:Ng)(w:M7)(A:Nv)(E:D'->J'->Prop)(s:J')(κ:aap)(kd:XB)(NJ:Array R'):Prop:=
 ∀(st:Qe) (i j:Nat) (Q:Option Bool->Qe->Prop),Py kd NJ st->i<NJ.size->j<NJ.size->Q (some (κ.blt (KK κ (NF st) i) (KK κ (NF st) j))) st->wpS (M8 prog w) A E s (ltAt' i j) Q st
theorem Dr (C:Uq prog w A E s κ kd NJ){st:Qe}(hm:m<=NJ.size)(ha:1<=a)(ham:a<=m)(B:Py kd NJ st)(hs:PQ κ (NF st) a)(h:∀n,a<=n->n<=m->PQ κ (NF st) n->(n=m\/κ.klt (KK κ (NF st) n) (KK κ (NF st) (n-1)))->Q (none,n) st):wpS (M8 prog w) A E s (ascLoop a m) Q st:=by
 refine Xr (λx c Nm=>Nm=st/\c=(none,x)/\PQ κ (NF st) x) (λx c Nm h1 h2 ⟨e1,e2,r⟩=>?_) (λc Nm ⟨e1,e2,r⟩=>?_) ⟨rfl,rfl,hs⟩
 .subst e1 e2;refine OS (C _ _ _ _ B (by lia) (by lia) ?_);cases e:κ.blt (KK κ (NF Nm) x) (KK κ (NF Nm) (x-1)) with
  | true=>exact PV (h x h1 (by lia) r (.inr e))
  | false=>exact PV ⟨rfl,rfl,Eg r (by lia) e⟩
 .subst e1 e2;have z:max a m=m:=by lia
  rw[z] at r ⊢;exact h m ham (Nl _) r (.inl rfl)
theorem zN (C:Uq prog w A E s κ kd NJ){st:Qe}(hm:m<=NJ.size)(h1:1<=n)(hn:n<=m)(B:Py kd NJ st)(hs:R9 κ (NF st) n)(h:∀k Nm,Py kd NJ Nm->1<=k->k<=m->PQ κ (NF Nm) k->Q (some k) Nm):wpS (M8 prog w) A E s (tail3 n m) Q st:=by
 have B':=B.arr (aa2 (NF st) 0 n ((n-0) / 2));exact OS (aa3 (OS (Dr C hm h1 hn B' (BK hs (by rw[B.sz];lia)) λk k1 k2 r _=>PV (h k _ B' (by lia) k2 r))))
theorem FG (C:Uq prog w A E s κ kd NJ){st:Qe}(hm:m<=NJ.size)(h1:1<=n)(hn:n<=m)(B:Py kd NJ st)(hs:R9 κ (NF st) n)(h:∀k q Nm,Py kd NJ Nm->n<=k->k<=m->R9 κ (NF Nm) k->q+1<=k->(∀i,k-(q+1)<=i->i<k->KK κ (NF Nm) i=KK κ (NF Nm) (k-1))->Q (none,k,q) Nm):
  wpS (M8 prog w) A E s (descLoop n m) Q st:=by
 have last:∀(ys:Array R') (k:Nat),∀i,k+1-(0+1)<=i->i<k+1->KK κ ys i=KK κ ys (k+1-1):=λys k i a b=>by
  obtain rfl:i=k:=by lia
  rfl
 refine Xr (λx c Nm=>∃q,c=(none,x,q)/\Py kd NJ Nm/\R9 κ (NF Nm) x/\q+1<=x/\∀i,x-(q+1)<=i->i<x->KK κ (NF Nm) i=KK κ (NF Nm) (x-1))
  (λx c Nm a1 a2 ⟨q,e,B',r,hq,eq⟩=>?_) (λc Nm ⟨q,e,B',r,hq,eq⟩=>?_) ⟨0,rfl,B,hs,by lia,λi a b=>by obtain rfl:i=n-1:=(by lia);rfl⟩
 .subst e;have sz:x<=(NF Nm).size:=by rw[B'.sz];lia
  refine OS (C _ x (x-1) _ B' (by lia) (by lia) ?_);cases e:κ.blt (KK κ (NF Nm) x) (KK κ (NF Nm) (x-1)) with
  | true=>
   have r':=lX r (by lia) (aay e);show wpS _ _ _ _ (if q > 0 then _ else _) _ _;rcases aco q with z|z
   .rw[M0 (by lia)];exact PV ⟨0,rfl,B',r',by lia,last _ _⟩
   .rw[M6 z];exact OS (aa3 (PV ⟨0,rfl,B'.arr (aa2 _ _ _ _),uj (acG sz eq) r',by lia,last _ _⟩))
  | false=>
   refine OS (C _ (x-1) x _ B' (by lia) (by lia) ?_);cases e2:κ.blt (KK κ (NF Nm) (x-1)) (KK κ (NF Nm) x) with
   | true=>exact PV (h x q Nm B' a1 (by lia) r hq eq)
   | false=>
    have one:KK κ (NF Nm) x=KK κ (NF Nm) (x-1):=aeK e2 e;refine PV ⟨q+1,rfl,B',lX r (by lia) e2,by lia,λi b1 b2=>?_⟩;rw[show x+1-1=x from rfl];rcases P1 i x with z|z
    .rw[one];exact eq i (by lia) z
    .obtain rfl:i=x:=by lia
     rfl
 .subst e;have z:max n m=m:=by lia
  rw[z] at r hq eq ⊢;exact h m q Nm B' hn (Nl _) r hq eq
theorem zO (C:Uq prog w A E s κ kd NJ){st:Qe}(hm:m<=NJ.size)(hn:n+1<=m)(B:Py kd NJ st)(hs:R9 κ (NF st) (n+1))(h:∀k Nm,Py kd NJ Nm->1<=k->k<=m->PQ κ (NF Nm) k->Q (some k) Nm):wpS (M8 prog w) A E s (descPart n m) Q st:=by
 refine OS (wpS_lift (Qt ⟨rfl,OS (FG C hm (by lia) hn B hs λk q Nm B' k1 k2 r hq eq=>?_)⟩));show wpS _ _ _ _ (if q > 0 then _ else _) _ _;rcases aco q with z|z
 .rw[M0 (by lia)];exact zN (n:=k) C hm (by lia) k2 B' r h
 .rw[M6 z];exact OS (aa3 (zN (n:=k) C hm (by lia) k2 (B'.arr (aa2 _ _ _ _)) (uj (acG (j:=k) (by rw[B'.sz];lia) eq) r) h))
theorem Jm (C:Uq prog w A E s κ kd NJ){st:Qe}(hm:m<=NJ.size)(h1:1<=m)(B:Py kd NJ st)(h:∀k Nm,Py kd NJ Nm->1<=k->k<=m->PQ κ (NF Nm) k->Q (some k) Nm):wpS (M8 prog w) A E s (countRun' 0 m) Q st:=by
 rw[countRun0_eq];refine OS (Dr C hm (Nl 1) h1 B wF λn n1 n2 r o=>?_);dsimp only;rcases P1 n m with z|z
 case inr=>
  rw[M6 (by simp;lia)];exact PV (h n st B n1 n2 r)
 rw[M0 (by simp;lia)];have less:κ.klt (KK κ (NF st) n) (KK κ (NF st) (n-1)):=o.resolve_left (by lia);rcases P1 1 n with y|y
 case inr=>
  rw[M0 (by lia)];obtain rfl:n=1:=by lia
  exact zO C hm (by lia) B (lX Eh (Nl 1) (aay less)) h
 rw[M6 y];refine OS (C _ _ _ _ B (by lia) (by lia) ?_);cases e:κ.blt (KK κ (NF st) 0) (KK κ (NF st) (n-1)) with
 | true=>exact PV (h n st B n1 n2 r)
 | false=>
  have all:∀k,0<=k->k<n->KK κ (NF st) k=KK κ (NF st) (n-1):=λk _ hk=>
   aeK (r k (n-1) (by lia) (by lia)) (aaD (show κ.kle _ _ from e) (r 0 k (by lia) hk))
  have f1:R9 κ (NF st) n:=λi j a b=>by
   rw[all i (by lia) (by lia),all j (by lia) b];exact Xn _
  exact OS (aa3 (zO C hm (by lia) (B.arr (aa2 _ _ _ _)) (uj (acG (by rw[B.sz];lia) all) (lX f1 n1 (aay less))) h))
theorem Ei (h:PQ κ xs k)(hk:k<xs.size)(hl:l<=k)(lo:∀i,i<l->κ.kle (KK κ xs i) (KK κ xs k))(hi:∀i,l<=i->i<k->κ.klt (KK κ xs k) (KK κ xs i)):
  PQ κ (bubble xs k (k-l)) (k+1):=by
 have at_:∀i,i<k+1->KK κ (bubble xs k (k-l)) i=if i<l then KK κ xs i else if i=l then KK κ xs k else KK κ xs (i-1):=λi OW=>by
  rw[KK_bubble hk (by lia),show k-(k-l)=l by lia];rcases Xj i l with z|z|z
  .rw[M0 (by lia),M0 (by lia),M6 z]
  .rw[M6 z,M0 (by lia),M6 z]
  .rw[M0 (by lia),M6 (by lia),M0 (by lia),M0 (by lia)]
 intro i j h1 h2;rw[at_ i (by lia),at_ j h2];rcases Xj j l with z|z|z
 .rw[M6 (by lia),M6 z];exact h i j h1 (by lia)
 .rw[M0 (show ¬j<l by lia),M6 z];rcases P1 i l with y|y
  .rw[M6 y];exact lo i y
  .rw[M0 (by lia),M6 (by lia)];exact Xn _
 .rw[M0 (show ¬j<l by lia),M0 (show ¬j=l by lia)];rcases Xj i l with y|y|y
  .rw[M6 y];exact h i (j-1) (by lia) (by lia)
  .rw[M0 (by lia),M6 y];exact aay (hi (j-1) (by lia) (by lia))
  .rw[M0 (by lia),M0 (by lia)];exact h (i-1) (j-1) (by lia) (by lia)
theorem BL (C:Uq prog w A E s κ kd NJ){st:Qe}(hn:n<=NJ.size)(Ty:1<=ok)(Nf:ok<=n)(B:Py kd NJ st)(hs:PQ κ (NF st) ok)(h:∀Nm,Py kd NJ Nm->PQ κ (NF Nm) n->Q true Nm):wpS (M8 prog w) A E s (binarySort' 0 n ok) Q st:=by
 rw[binarySort'_eq];simp only[aaW];have m1:max ok 1=ok:=by lia
 rw[m1];refine OS (wpS_mono (Xr (λk c Nm=>c=(none,())/\Py kd NJ Nm/\PQ κ (NF Nm) k) (Q:=λc Nm=>c=(none,())/\Py kd NJ Nm/\PQ κ (NF Nm) n)
  (λk c Nm k1 k2 ⟨e,B',r⟩=>?step) (λc Nm ⟨e,B',r⟩=>?fin) ⟨rfl,B,hs⟩) λc Nm ⟨e,B',r⟩=>?post)
 case step=>
  subst e;refine OS (wpS_mono (Xr (λx c Pc=>Pc=Nm/\∃l u,c=(none,l,u)/\l<=u/\u<=k/\u-l<=k-x/\(∀i,i<l->κ.kle (KK κ (NF Nm) i) (KK κ (NF Nm) k))/\∀i,u<=i->i<k->κ.klt (KK κ (NF Nm) k) (KK κ (NF Nm) i))
   (Q:=λc Pc=>Pc=Nm/\∃l u,c=(none,l,u)/\l<=k/\(∀i,i<l->κ.kle (KK κ (NF Nm) i) (KK κ (NF Nm) k))/\∀i,l<=i->i<k->κ.klt (KK κ (NF Nm) k) (KK κ (NF Nm) i))
   (λx c Pc _ x2 ⟨e1,l,u,e2,p1,p2,p3,lo,hi⟩=>?abk) (λc Pc ⟨e1,l,u,e2,p1,p2,p3,lo,hi⟩=>?afD) ⟨rfl,0,k,rfl,by lia,by lia,by lia,λi z=>by lia,λi z1 z2=>by lia⟩) λc Pc ⟨e1,l,u,e2,p1,lo,hi⟩=>?abl)
  case abk=>
   subst e1 e2;dsimp only;rcases P1 l u with z|z
   case inr=>
    rw[M6 z];obtain rfl:l=u:=by lia
    exact PV ⟨rfl,l,l,rfl,p2,lo,hi⟩
   rw[M0 (by lia)];have mid:l<=(l+u) / 2/\(l+u) / 2<u:=by lia
   refine OS (C _ k ((l+u) / 2) _ B' (by lia) (by lia) ?_);cases e:κ.blt (KK κ (NF Pc) k) (KK κ (NF Pc) ((l+u) / 2)) with
   | true=>exact PV ⟨rfl,l,(l+u) / 2,rfl,by lia,by lia,by lia,lo,λi z1 z2=>KeyOrd.klt_of_klt_of_kle e (r _ _ z1 z2)⟩
   | false=>exact PV ⟨rfl,(l+u) / 2+1,u,rfl,by lia,by lia,by lia,λi z=>aaD (r i ((l+u) / 2) (by lia) (by lia)) e,hi⟩
  case afD=>
   subst e1 e2;have z:max 0 k=k:=by lia
   rw[z] at p3;obtain rfl:l=u:=by lia
   exact⟨rfl,l,l,rfl,p2,lo,hi⟩
  case abl=>
   subst e1 e2;show wpS _ _ _ _ (do moveDown' k l;pure (T1 (none,()))) _ _;rw[moveDown'_eq];exact OS (wpS_modify (PV ⟨rfl,B'.arr (bubble_perm _ _ _),Ei r (by rw[B'.sz];lia) p1 lo hi⟩))
 case fin=>
  subst e;have z:max ok n=n:=by lia
  rw[z] at r;exact⟨rfl,B',r⟩
 case post=>
  subst e;exact PV (h Nm B' r)
theorem FH (C:Uq prog w A E s κ kd NJ){st:Qe}(B:Py kd NJ st)(h2:2<=NJ.size)(Tz:NJ.size<64)(h:∀Nm,(NF Nm).Perm NJ->failedOf Nm=none->PQ κ (NF Nm) NJ.size->Q () Nm):wpS (M8 prog w) A E s sortRuns' Q st:=by
 let Fin:Qe->Prop:=λNm=>(NF Nm).Perm NJ/\failedOf Nm=none/\pendingOf Nm=#[(0,NJ.size,0)]/\PQ κ (NF Nm) NJ.size;have fin:∀Nm,Py kd NJ Nm->PQ κ (NF Nm) NJ.size->Fin (setPending Nm ((pendingOf Nm).push (0,NJ.size,0))):=λNm B' r=>⟨B'.perm,B'.failed,by show(pendingOf Nm).push _=_;rw[B'.pend];rfl,r⟩
 have mr:minRun' NJ.size NJ.size 0=NJ.size:=by
  obtain⟨f,hf⟩:∃f,NJ.size=f+1:=⟨NJ.size-1,by lia⟩
  have q:minRun' (f+1) NJ.size 0=NJ.size+0:=by rw[minRun'_succ,M6 Tz]
  rw[<-hf] at q;exact q
 rw[sortRuns'_eq];refine OS (XE ?_);dsimp only;simp only[B.sz,mr];refine OS (wpS_mono (Xr (λx c Nm=>(x=0/\c=(none,0)/\Py kd NJ Nm)\/(1<=x/\c=(none,NJ.size)/\Fin Nm)) (Q:=λc Nm=>c=(none,NJ.size)/\Fin Nm)
  (λx c Nm _ x2 o=>?step) (λc Nm o=>?fin) (.inl ⟨rfl,rfl,B⟩)) λc Nm ⟨e,F⟩=>?post)
 case step=>
  rcases o with⟨e0,e,B'⟩|⟨x1,e,F⟩
  .subst e0 e;dsimp only;rw[M0 (by lia)];simp only[Nat.sub_zero,Nat.min_self,aaW];refine OS (Jm C (Nl _) (by lia) B' λk Pc B2 k1 k2 r=>?_);dsimp only;have go:∀Qh,Py kd NJ Qh->PQ κ (NF Qh) NJ.size->(pendingOf Qh).back?=none/\Fin (setPending Qh ((pendingOf Qh).push (0,NJ.size,0))):=λQh B3 r3=>⟨by rw[B3.pend];rfl,fin Qh B3 r3⟩
   rcases P1 k NJ.size with z|z
   .rw[M6 z];refine OS (wpS_lift (Qt ⟨rfl,OS (BL C (Nl _) k1 k2 B2 r λQh B3 r3=>?_)⟩));simp only[Rx,OI,if_false];refine OS (XE ?_);rw[(go Qh B3 r3).1];exact OS (wpS_modify (PV (.inr ⟨by lia,rfl,(go Qh B3 r3).2⟩)))
   .rw[M0 (by lia)];obtain rfl:k=NJ.size:=by lia
    refine OS (XE ?_);rw[(go Pc B2 r).1];exact OS (wpS_modify (PV (.inr ⟨by lia,rfl,(go Pc B2 r).2⟩)))
  .subst e;dsimp only;rw[M6 (Nl _)];exact PV ⟨rfl,F⟩
 case fin=>
  rcases o with⟨x0,_⟩|⟨_,e,F⟩
  .omega
  .exact⟨e,F⟩
 case post=>
  subst e;refine OS (wpS_mono (Xr (λ_ c Pc=>Pc=Nm/\c=(none,())) (Q:=λc Pc=>Pc=Nm/\c=(none,())) (λx c Pc _ _ ⟨e1,e2⟩=>?abk) (λ_ _ q=>q) ⟨rfl,rfl⟩) λc Pc ⟨e1,e2⟩=>?abl)
  case abk=>
   subst e1 e2;refine OS (XE ?_);rw[M6 (by rw[F.2.2.1];exact Nl 1)];exact PV ⟨rfl,rfl⟩
  case abl=>
   subst e1 e2;exact PV (h _ F.1 F.2.1 F.2.2.2)
end
theorem oh:∀a:List Int,HT.cb a a=false
 | []=>rfl
 | x::a=>by rw[HT.eW,M6 rfl];exact oh a
theorem kQ:∀(a b c:List Int),HT.cb a b=true->HT.cb b c=true->HT.cb a c=true
 | [],[],_,h,_=>by cases h
 | [],_::_,[],_,h=>by cases h
 | [],_::_,_::_,_,_=>rfl
 | _::_,[],_,h,_=>by cases h
 | _::_,_::_,[],_,h=>by cases h
 | x::a,y::b,z::c,h1,h2=>by
  rw[HT.eW] at h1 h2 ⊢
  by_cases e1:x=y
  .subst e1;rw[M6 rfl] at h1
   by_cases e2:x=z
   .subst e2;rw[M6 rfl] at h2 ⊢;exact kQ a b c h1 h2
   .rw[M0 e2] at h2 ⊢;exact h2
  .rw[M0 e1] at h1;have h1:=TY h1
   by_cases e2:y=z
   .subst e2;rw[M0 e1];exact Nz h1
   .rw[M0 e2] at h2;have h2:=TY h2;rw[M0 (by lia)];exact Nz (by lia)
theorem kS:∀(a b:List Int),HT.cb a b=false->HT.cb b a=false->a=b
 | [],[],_,_=>rfl
 | [],_::_,h,_=>by cases h
 | _::_,[],_,h=>by cases h
 | x::a,y::b,h1,h2=>by
  rw[HT.eW] at h1 h2
  by_cases e:x=y
  .subst e;rw[M6 rfl] at h1 h2;rw[kS a b h1 h2]
  .rw[M0 e] at h1;rw[M0 (λz=>e z.symm)] at h2;have h1:=of_decide_eq_false h1;have h2:=of_decide_eq_false h2;lia
theorem Ej (a b c)(h:HT.cb a c=true):HT.cb a b=true\/HT.cb b c=true:=by
 cases e:HT.cb a b with
 | true=>exact .inl rfl
 | false=>
  refine .inr ?_;cases e2:HT.cb b a with
  | true=>exact kQ b a c e2 h
  | false=>rw[<-kS a b e e2];exact h
def gF (kf:D'->List Int):aap where
 α:=List Int
 blt:=HT.cb
 irrefl:=oh
 trans:=kQ
 negTrans:=Ej
 total:=kS
 keyOf:=λv=>some (kf v)
 dflt:=[]
theorem uk (h:i<xs.size):KK (gF kf) xs i=kf xs[i].1:=by
 unfold KK;rw[getElem?_pos xs i h];rfl
section
theorem ul (f)(x y):keyLt' (tuples' f) x y=(do
  let xs <-ab9 x;let ys <-ab9 y
  for ((p,q),i) in (xs.toList.zip ys.toList).zipIdx do
   if !(<-eqBool p q) then return <-oneLt' (f&&i==0) p q
  return decide (xs.size<ys.size)):=rfl
theorem ye (h:Q (decide (a<b)) s):M3 (M8 prog w) A (oneLt' f (.int a t) (.int b u)) Q E s:=by
 cases f with
 | true=>exact oneLt_int h
 | false=>
  rw[oneLt'_eq];simp only[OI,if_false];exact MW (lt_int (Rb h))
abbrev FI (v:D')(k:Int):Prop:=∃t,v=O0 k t
theorem BM (x:bT s.heap ks a)(y:bT s.heap OX b)(h:Q (HT.cb ks OX) s):M3 (M8 prog w) A (keyLt' (tuples' f) (.ref a) (.ref b)) Q E s:=by
 obtain⟨xs,⟨o,e,_,n,d⟩,r⟩:=x;obtain⟨ys,⟨o',e',_,n',d'⟩,r'⟩:=y;rw[ul];refine MW (Xq e d (MW (Xq e' d' (MW ?_))));refine Re _ (λrest r s'=>r.1=none/\s'=s/\∃(x' y':List Int) (us vs:List D') (i:Nat),rest=(us.zip vs).zipIdx i/\Nd FI us x'/\Nd FI vs y'/\HT.cb x' y'=HT.cb ks OX/\decide (us.length<vs.length)=decide (xs.size<ys.size))
  _ ?turn ?fin _ _ ⟨rfl,rfl,ks,OX,xs.toList,ys.toList,0,rfl,r,r',rfl,by simp⟩
 case turn=>
  rintro⟨⟨p,q⟩,j⟩ rest c s' ⟨_,e1,x',y',us,vs,i,e2,p1,p2,le,ll⟩;subst e1;cases p1 with
  | nil=>simp at e2
  | @cons u k us' x'' hu p1'=>
   cases p2 with
   | nil=>simp at e2
   | @cons v k' Ur y'' hv p2'=>
    rw[Xe,List.zipIdx_cons] at e2;injection e2 with e3 e4
    cases e3;obtain⟨t,rfl⟩:=hu;obtain⟨t',rfl⟩:=hv;rw[HT.eW] at le;refine MW (wpAny_eqBool_int ?_)
    by_cases z:k=k'
    .subst z;rw[M6 rfl] at le;rw[M0 (by simp)];exact M1 ⟨rfl,rfl,x'',y'',us',Ur,_,e4,p1',p2',le,by rw[<-ll];simp⟩
    .rw[M0 z] at le;rw[M6 (by simpa using z)];refine MW (ye ?_);rw[le];exact M1 (M1 h)
 case fin=>
  rintro⟨c1,c2⟩ s' ⟨e0,e1,x',y',us,vs,i,e2,p1,p2,le,ll⟩;simp only at e0;subst e0 e1;have z:decide (xs.size<ys.size)=HT.cb ks OX:=by
   rw[<-le,<-ll];cases p1 with
   | nil=>cases p2 with
    | nil=>rfl
    | cons _ _=>simp[HT.pB]
   | cons _ _=>cases p2 with
    | nil=>simp[HT.pC]
    | cons _ _=>rw[Xe,List.zipIdx_cons] at e2;cases e2
  show M3 _ _ (pure (decide (xs.size<ys.size))) _ _ _;rw[z];exact M1 h
noncomputable def cU (h:M4)(v:D'):List Int:=@dite (List Int) (∃ks,∃a,v=.ref a/\bT h ks a) (aaj _) (λz=>Classical.choose z) λ_=>[]
theorem gp (x:bT h ks a):cU h (.ref a)=ks:=by
 have z:∃ks,∃b,NQ a=.ref b/\bT h ks b:=⟨ks,a,rfl,x⟩
 unfold cU;rw[dif_pos z];obtain⟨b,e,q⟩:=Classical.choose_spec z;cases e;exact q.inj x
abbrev kT (h:M4)(v:D')(ks:List Int):Prop:=∃a,v=NQ a/\bT h ks a
theorem zP:∀{vs:List D'}{NZ:List (List Int)},Nd (kT h) vs NZ->vs.map (cU h)=NZ
 | _,_,.nil=>rfl
 | _,_,.cons ⟨a,e,x⟩ t=>by rw[N7,zP t,e,gp x]
theorem Ek (p:Nd (kT s.heap) vs NZ):Uq prog w A E s (gF (cU s.heap)) (tuples' f) (pairsOf vs):=by
 intro st i j Q B hi hj h;have at_:∀k,(hk:k<(pairsOf vs).size)->∃v b ks,(NF st)[k]?=some (v,b)/\kT s.heap v ks/\KK (gF (cU s.heap)) (NF st) k=ks:=λk hk=>by
  have RT:k<(NF st).size:=by rw[B.sz];exact hk
  have hm:(NF st)[k]∈(pairsOf vs).toList:=(abT.mp B.perm).mem_iff.mp (by simp);rw[acQ] at hm;have hv:=(mem_zip_self hm).2;obtain⟨ks,_,a,e,x⟩:=fA p _ hv;refine⟨(NF st)[k].1,(NF st)[k].2,ks,RI RT,⟨a,e,x⟩,?_⟩;rw[uk RT,e,gp x]
 obtain⟨v1,b1,k1,e1,⟨a1,rfl,x1⟩,q1⟩:=at_ i hi;obtain⟨v2,b2,k2,e2,⟨a2,rfl,x2⟩,q2⟩:=at_ j hj;rw[q1,q2] at h;rw[ltAt'_eq];refine OS (XE ?_);show wpS _ _ _ _ (do let x <-elem' (NF st) i;let y <-elem' (NF st) j;lt' x y) Q st;rw[elem'_eq,elem'_eq,e1,e2];refine OS (PV (OS (PV ?_)));rw[lt'_eq];refine OS (XE ?_);rw[B.kind];exact OS (wpS_lift (acY (BM x1 x2 ⟨rfl,PV h⟩)))
variable {A:Nv}{E:D'->J'->Prop}{s:J'} in
theorem wG {α β:Type}{f:α->PY β}{R:α->β->Prop}{M:UZ}:∀(l:List α) {Q:List β->J'->Prop},(∀v∈l,∀Q':β->J'->Prop,(∀b,R v b->Q' b s)->M3 M A (f v) Q' E s)->(∀bs,Nd R l bs->Q bs s)->M3 M A (l.mapM f) Q E s
 | [],Q,_,h=>by rw[List.mapM_nil];exact M1 (h [] .nil)
 | a::l,Q,hf,h=>by
  rw[List.mapM_cons];refine MW (hf a Nu _ λb hb=>?_);exact MW (wG l (λv hv=>hf v (NP _ hv)) λbs hbs=>M1 (h _ (.cons hb hbs)))
theorem BO (v):firstOfTuple' v=(do
  if (<-typeOf v) != .type "tuple" then return none
  return (<-ab9 v)[0]?):=rfl
theorem BP (x:bT s.heap ks a)(Ol:ks≠[])(h:∀k t,Q (some (.int k t)) s):M3 (M8 prog w) A (firstOfTuple' (.ref a)) Q E s:=by
 obtain⟨xs,tp,r⟩:=x;have hT:=fV tp;obtain⟨o,e,c,n,d⟩:=tp;rw[BO];refine MW (VY hT ?_);rw[M0 (by simp)];refine MW (Xq e d (M1 ?_));cases ks with
 | nil=>exact Nc rfl Ol
 | cons k ks=>
  obtain⟨v,e1,t,e2⟩:=fU (i:=0) (b:=k) r rfl;have:xs[0]?=some v:=by rw[<-S7];exact e1
  rw[this,e2];exact h k t
theorem wH:∀{l:List D'}{fs:List (Option D')},Nd (λ_ o=>∃k t,o=some (O0 k t)) l fs->fs.all (·.isSome)=true/\∃ns,RQ (fs.filterMap id) ns/\ns.length=l.length
 | _,_,.nil=>⟨rfl,[],.nil,rfl⟩
 | _,_,.cons ⟨k,t,e⟩ r=>by
  obtain⟨h1,ns,h2,h3⟩:=wH r;subst e;exact⟨by simpa using h1,k::ns,.cons k t h2,by simp[h3]⟩
theorem BQ (p:Nd (kT s.heap) (QX::QY::vs) NZ)(Ol:∀ks∈NZ,ks≠[])(h:Q (tuples' true) s):
  M3 (M8 prog w) A (keyKind' (QX::QY::vs).toArray) Q E s:=by
 rw[keyKind'_eq,List.mapM_toArray];refine MW (wpAny_map (wG (R:=λ_ o=>∃k t,o=some (O0 k t)) _ (λv hv Q' q=>?_) λfs hfs=>?_))
 .obtain⟨ks,hk,a,e,x⟩:=fA p v hv;subst e;exact BP x (Ol ks hk) λk t=>q _ ⟨k,t,rfl⟩
 .obtain⟨h1,ns,h2,h3⟩:=wH hfs;rw[M6 (by simpa using h1)];refine MW (Qt ?_);rw[oneTypeOnly'_eq];have e:(List.toArray fs).filterMap id=(fs.filterMap id).toArray:=by simp
  rw[e,List.mapM_toArray,mapM_typeOf_ints h2];simp only[map_pure,pure_bind];cases z:fs.filterMap id with
  | nil=>
   rw[z] at h2;cases h2;simp at h3
  | cons f0 fr=>
   have z0:(List.map (λ_=>QS "int") (f0::fr)).toArray[0]?=some (QS "int"):=by simp
   have z1:((List.map (λ_=>QS "int") (f0::fr)).toArray.all λx=>x==QS "int")=true:=by
    simp only[List.all_toArray,List.all_map,Sy];intro _ _;rfl
   rw[z0];simp only[z1,if_true,pure_bind];exact M1 h
end
abbrev um (NZ:List (List Int)):Prop:=NZ.Pairwise λa b=>HT.cb b a=false
section
theorem wI (x:bT h ks a)(ho:h.get? d=some o)(hc:o.cls≠.type "tuple")(k:∀b u,b≠d->h.get? b=some u->h'.get? b=some u):bT h' ks a:=by
 obtain⟨i,⟨o',e,c,n,d'⟩,r⟩:=x;refine⟨i,⟨o',k a o' ?_ e,c,n,d'⟩,r⟩;rintro rfl;rw[e] at ho;cases ho;exact hc c
theorem Em (hp:xs.Perm (pairsOf vs))(hs:PQ (gF (cU h)) xs (pairsOf vs).size):(xs.map (·.2)).toList.Perm vs/\um ((xs.map (·.2)).toList.map (cU h)):=by
 have same:∀q∈xs.toList,q.1=q.2:=λq hq=>(mem_zip_self (by rw[<-acQ];exact(abT.mp hp).mem_iff.mp hq)).1;have e1:(xs.map (·.2)).toList=xs.toList.map (·.2):=by simp
 have e2:(pairsOf vs).toList.map (·.2)=vs:=by
  rw[acQ];exact List.map_snd_zip (by simp)
 refine⟨?_,?_⟩
 .rw[e1];have:=(abT.mp hp).map (·.2);rw[e2] at this;exact this
 .rw[e1,VZ];unfold um;rw[abY];intro i j hi hj hij;rw[NT] at hi hj;have OW:i<xs.size:=by simpa using hi
  have Vp:j<xs.size:=by simpa using hj
  have z:=hs i j (by lia) (by rw[<-hp.size_eq];exact Vp);have z:HT.cb (KK (gF (cU h)) xs j) (KK (gF (cU h)) xs i)=false:=z;rw[uk OW,uk Vp] at z;have s1:=same xs[i] (by simp);have s2:=same xs[j] (by simp);rw[s1,s2] at z;simpa using z
theorem BR (ho:s.heap.get? a=some (NX "list" vs.toArray n))(p:Nd (kT s.heap) vs NZ)(Ol:∀ks∈NZ,ks≠[])(Tz:vs.length<64)(h:∀out:Array D',out.toList.Perm vs->um (out.toList.map (cU s.heap))->P (.done (.ret .none)) { s with heap:=sortedHeap s.heap a vs out }):M3 (M8 prog w) A (P4.«list.sort» ⟨[.ref a],[]⟩) P E s:=by
 have lt:a<s.heap.objs.size:=NC ho;obtain⟨e1,o1⟩:∃e1,(s.heap.update a (PP λ_=>#[])).get? a=some (NX "list" #[] e1):=⟨_,aaG ho _⟩
 have o2:(((s.heap.update a (PP λ_=>#[])).push (NX "tuple" vs.toArray 0)).push (NX "list" #[] 0)).get? a=some (NX "list" #[] e1):=NK _ (NK _ o1);have keep:∀b u,b≠a->s.heap.get? b=some u->(((s.heap.update a (PP λ_=>#[])).push (NX "tuple" vs.toArray 0)).push (NX "list" #[] 0)).get? b=some u:=λb u hb q=>
  NK _ (NK _ ((WZ _ _ (N1 hb)).trans q))
 have p':Nd (kT (((s.heap.update a (PP λ_=>#[])).push (NX "tuple" vs.toArray 0)).push (NX "list" #[] 0))) vs NZ:=aX (λ_ _ ⟨b,e,x⟩=>⟨b,e,wI x ho (by simp) keep⟩) p;have kf:∀v∈vs,cU (((s.heap.update a (PP λ_=>#[])).push (NX "tuple" vs.toArray 0)).push (NX "list" #[] 0)) v=cU s.heap v:=λv hv=>by
  obtain⟨ks,_,b,e,x⟩:=fA p v hv;rw[e,gp x,gp (wI x ho (by simp) keep)]
 have fin:∀xs:Array R',xs.Perm (pairsOf vs)->PQ (gF (cU (((s.heap.update a (PP λ_=>#[])).push (NX "tuple" vs.toArray 0)).push (NX "list" #[] 0)))) xs (pairsOf vs).size->
   P (.done (.ret .none)) { s with heap:=sortedHeap s.heap a vs (xs.map (·.2)) }:=λxs hp hs=>by
  obtain⟨q1,q2⟩:=Em hp hs;refine h _ q1 ?_;have e:(xs.map (·.2)).toList.map (cU s.heap)=(xs.map (·.2)).toList.map (cU (((s.heap.update a (PP λ_=>#[])).push (NX "tuple" vs.toArray 0)).push (NX "list" #[] 0))):=
   Y2 λv hv=>(kf v (q1.mem_iff.mp hv)).symm
  rw[e];exact q2
 have sz:∀xs:Array R',xs.Perm (pairsOf vs)->((λ(_:Array D')=>xs.map (·.2)) #[]).size<=Nh+1:=λxs hp=>by
  show(xs.map (·.2)).size<=_;rw[Array.size_map,hp.size_eq,aaX,NU];lia
 rw[list_sort_plain];refine MW (Xq ho rfl (MW (aaP ho rfl (MW (seqEpoch_at o1 rfl (MW (wpAny_newTuple (MW (Xo (PN ?_)))))) ) ?_ ?_)))
 case refine_2=>rw[Od,NU];lia
 case refine_3=>show(#[]:Array D').size<=_;simp
 show M3 (M8 prog w) A _ P E { s with heap:=((s.heap.update a (PP λ_=>#[])).push (NX "tuple" vs.toArray 0)).push (NX "list" #[] 0) };dsimp only
 by_cases h2:vs.toArray.size<2
 .rw[M6 h2,M6 h2];refine MW (M1 ?_);rw[StateT.run_pure];refine MW (M1 (MW (seqEpoch_at o2 rfl (MW (aaP o2 rfl ?_ (Ow _) (sz (pairsOf vs) (acH _)))))));simp only[bne_self_eq_false,OI,if_false];refine M1 (fin (pairsOf vs) (acH _) λi j h1 h3=>?_);rw[aaX] at h3;have h2:vs.length<2:=by simpa using h2
  obtain rfl:i=j:=by lia
  exact Xn _
 .rw[M0 h2,M0 h2];have h2:2<=vs.length:=by simpa using h2
  obtain⟨QX,QY,rest,rfl⟩:∃QX QY rest,vs=QX::QY::rest:=by
   match vs,h2 with
   | [],h2=>simp at h2
   | [_],h2=>simp at h2
   | QX::QY::rest,_=>exact⟨QX,QY,rest,rfl⟩
  refine MW (BQ (s:={ s with heap:=((s.heap.update a (PP λ_=>#[])).push (NX "tuple" (QX::QY::rest).toArray 0)).push (NX "list" #[] 0) }) p' Ol ?_);refine MW (RO (FH (Ek p') (st:=Qe.mk' (tuples' true) ((QX::QY::rest).toArray.zip (QX::QY::rest).toArray) #[] 7 none)
   (Q:=λ_ Nm=>(NF Nm).Perm (pairsOf (QX::QY::rest))/\failedOf Nm=none/\PQ (gF (cU _)) (NF Nm) (pairsOf (QX::QY::rest)).size)
   ⟨acH _,rfl,rfl,rfl⟩ (by rw[aaX];exact h2) (by rw[aaX];exact Tz) λNm a1 a2 a3=>⟨a1,a2,a3⟩) ?_ λ_ _ e=>e)
  rintro⟨⟨⟩,Nm⟩ s' ⟨rfl,hp,hf,hs⟩;dsimp only;refine MW (seqEpoch_at o2 rfl (MW (aaP o2 rfl ?_ (Ow _) (sz (NF Nm) hp))));rw[hf];simp only[bne_self_eq_false,OI,if_false];exact M1 (fin (NF Nm) hp hs)
theorem vU (hl:s.heap.IsList l vs.toArray)(p:Nd (kT s.heap) vs NZ)(Ol:∀ks∈NZ,ks≠[])(Tz:vs.length<64)(h:∀out:Array D',out.toList.Perm vs->um (out.toList.map (cU s.heap))->Q (.ref (s.heap.objs.size+1)) { s with heap:=sortedAll s.heap vs out }):M3 (M8 prog w) A (call (.builtin "sorted") [.ref l]) Q E s:=by
 refine abX kind_sorted plain_sorted entry_sorted (args_sorted1 _) ?_;have hz:((s.heap.push (NX "list" #[] 0)).update s.heap.objs.size (PP (·++vs.toArray))).objs.size=s.heap.objs.size+1:=by rw[M4.size_update,size_push']
 have hL:(((s.heap.push (NX "list" #[] 0)).update s.heap.objs.size (PP (·++vs.toArray))).push (NX "list" vs.toArray 0)).get? (s.heap.objs.size+1)=some (NX "list" vs.toArray 0):=by
  rw[<-hz];exact OH _ rfl
 have kp:∀b u,s.heap.get? b=some u->(((s.heap.push (NX "list" #[] 0)).update s.heap.objs.size (PP (·++vs.toArray))).push (NX "list" vs.toArray 0)).get? b=some u:=λb u q=>
  NK _ ((WZ _ _ (Te (NC q))).trans (NK _ q))
 have up:∀{ks:List Int}{b:A'},bT s.heap ks b->bT (((s.heap.push (NX "list" #[] 0)).update s.heap.objs.size (PP (·++vs.toArray))).push (NX "list" vs.toArray 0)) ks b:=λ⟨i,⟨o,e,c,n,d⟩,r⟩=>⟨i,⟨o,kp _ _ e,c,n,d⟩,r⟩
 unfold P4.«sorted»;refine MW (m:=checkCount "sorted" 1 1 _) (M1 (MW (collect_list hl (MW (Xo ?_)) (by rw[NU];lia))));show M3 _ _ _ _ _ { s with heap:=((s.heap.push (NX "list" #[] 0)).update s.heap.objs.size (PP (·++vs.toArray))).push (NX "list" vs.toArray 0) };rw[hz];refine MW (PN (RK abS ⟨_,hL,rfl⟩ abQ (BR hL (aX (λ_ _ ⟨b,e,x⟩=>⟨b,e,up x⟩) p) Ol Tz λout q1 q2=>⟨_,rfl,M1 ⟨_,rfl,h out q1 ?_⟩⟩) (acP _)));have e:out.toList.map (cU s.heap)=out.toList.map (cU (((s.heap.push (NX "list" #[] 0)).update s.heap.objs.size (PP (·++vs.toArray))).push (NX "list" vs.toArray 0))):=Y2 λv hv=>by
  obtain⟨ks,_,b,e,x⟩:=fA p v (q1.mem_iff.mp hv);rw[e,gp x,gp (up x)]
 rw[e];exact q2
end
section
def toV:D'->V
 | .ref a=>.ref a
 | _=>.Nr
theorem vV {K:MZ}(f:∀a ks,aK.rep K H (.ref a) ks->bT h ks a)(r:aL as MY)(p:Nd (aK.rep K H) as NZ):
  Nd (kT h) MY NZ/\∀v∈MY,∃a ks,v=.ref a/\aK.rep K H (.ref a) ks/\cU h v=ks:=by
 have q:Nd (λv ks=>∃a,v=NQ a/\aK.rep K H (.ref a) ks) MY NZ:=lW (F:=aI) (G:=aK.rep K H) (λx u ks h1 h2=>by
  obtain⟨a,xs,e,q⟩:=id h2;subst e;cases h1;exact⟨a,rfl,h2⟩) r p
 refine⟨aX (λ_ _ ⟨a,e,z⟩=>⟨a,e,f a _ z⟩) q,λv hv=>?_⟩;obtain⟨ks,_,a,e,z⟩:=fA q v hv;exact⟨a,ks,e,z,by rw[e];exact gp (f a ks z)⟩
theorem kU:cK X (.builtin "sorted") (λxs H Q=>∃(y:V) (NZ:List (List Int)),xs=[y]/\(kM aK).rep X.K H y NZ/\(∀ks∈NZ,ks≠[])/\NZ.length<64/\
  ∀(l:A') (Vq:List V) (Qg:List (List Int)),H l=none->Nd (aK.rep X.K H) Vq Qg->Qg.Perm NZ->um Qg->Q (.ref l) (upd H l (.lst Vq))):=by
 intro aa s σ H xs us Q I r h;obtain⟨y,NZ,rfl,⟨p,as,e,hp,hd⟩,Ol,Tz,q⟩:=h;subst e;obtain⟨u,rfl,ru⟩:=dm r;cases ru;obtain⟨MY,rv,pl,hz⟩:=I.list hp;have hl:=rv.length;have OD:=hd.length;obtain⟨pt,back⟩:=vV (h:=s.heap) (λa ks z=>yd I z) rv hd;refine vU pl.isList pt Ol (by lia) λout q1 q2=>?_;obtain⟨e,he⟩:=sortedAll_at s.heap MY out;have abe:H (s.heap.objs.size+1)=none:=I.Nf.fresh (V0 _);have each:∀v∈out.toList,∃a ks,v=.ref a/\aK.rep X.K H (.ref a) ks/\cU s.heap v=ks:=λv hv=>back v (q1.mem_iff.mp hv);have mk:∀l:List D',(∀v∈l,∃a ks,v=.ref a/\aK.rep X.K H (.ref a) ks/\cU s.heap v=ks)->aL (l.map toV) l/\Nd (aK.rep X.K H) (l.map toV) (l.map (cU s.heap)):=by
  intro l
  induction l with
  | nil=>intro _;exact⟨.nil,.nil⟩
  | cons v l ih=>
   intro hl;obtain⟨i1,i2⟩:=ih λu hu=>hl u (NP _ hu);obtain⟨a,ks,e1,e2,e3⟩:=hl v Nu;subst e1;exact⟨.cons rfl i1,.cons (by rw[e3];exact e2) i2⟩
 obtain⟨v1,v2⟩:=mk out.toList each;have hkf:MY.map (cU s.heap)=NZ:=zP pt;have hlen:out.toList.length=MY.length:=q1.length_eq;refine⟨.ref (s.heap.objs.size+1),_,I.laid (t':=s.toks) (o:=.lst (out.toList.map toV)) (λb o z=>sortedAll_old z) (V0 _) ⟨by rw[NT,NU];lia,out.toList,e,v1,by simpa [NX] using he⟩,rfl,
  q _ _ _ abe v2 (by rw[<-hkf];exact q1.map _) q2⟩
end
end L2
namespace Sa
open PySem PySem.SetTable
def Nx (t:Om)(h:Int):Nat->Probe
 | 0=>t.probeStart h
 | n+1=>t.advance (Nx t h n)
theorem FJ {t u:Om}(e:t.mask=u.mask)(p:Probe):t.advance p=u.advance p:=by
 unfold advance;rw[e]
theorem m9 (e:t.mask=u.mask)(h:Int):∀n,Nx t h n=Nx u h n
 | 0=>by unfold Nx probeStart;rw[e]
 | n+1=>by unfold Nx;rw[m9 e h n,FJ e]
theorem ac6 (t)(h:Int):∀n,(Nx t h n).dummy=none
 | 0=>rfl
 | n+1=>by
  have ih:=ac6 t h n;unfold Nx advance
  split
  .exact ih
  .exact ih
def bh (mask:Nat)(h:Int):Nat->Nat×Nat
 | 0=>(bits h % (mask+1),bits h)
 | r+1=>leap mask (bh mask h r).1 (bh mask h r).2
def bX (mask:Nat)(h:Int):Nat->Nat
 | 0=>0
 | r+1=>bX mask h r+(runEnd mask (bh mask h r).1-(bh mask h r).1)+1
theorem kW (mask i:Nat):i<=runEnd mask i/\runEnd mask i<=i+9:=by
 unfold runEnd
 split <;> lia
theorem qL (mask:Nat)(h:Int):∀r,bX mask h r<=10*r
 | 0=>Nl _
 | r+1=>by
  have ih:=qL mask h r;have:=kW mask (bh mask h r).1;unfold bX;lia
theorem eQ (t)(h:Int):∀r k,k<=runEnd t.mask (bh t.mask h r).1-(bh t.mask h r).1->
  Nx t h (bX t.mask h r+k)={ j:=(bh t.mask h r).1+k,more:=runEnd t.mask (bh t.mask h r).1-(bh t.mask h r).1-k,i:=(bh t.mask h r).1,perturb:=(bh t.mask h r).2,dummy:=none }
 | 0,0,_=>rfl
 | r+1,0,_=>by
  have ih:=eQ t h r (runEnd t.mask (bh t.mask h r).1-(bh t.mask h r).1) (Nl _);have e:bX t.mask h (r+1)+0=(bX t.mask h r+(runEnd t.mask (bh t.mask h r).1-(bh t.mask h r).1))+1:=rfl;rw[e];show t.advance (Nx t h _)=_;rw[ih];unfold advance;simp only[aaY,T4,gt_iff_lt,if_false];rfl
 | r,k+1,hk=>by
  have ih:=eQ t h r k (by lia);have e:bX t.mask h r+(k+1)=(bX t.mask h r+k)+1:=rfl;rw[e];show t.advance (Nx t h _)=_;rw[ih];unfold advance;have z:runEnd t.mask (bh t.mask h r).1-(bh t.mask h r).1-k > 0:=by lia
  simp only[z,if_true]
  congr 1
theorem vX (t)(h:Int)(r:Nat):(Nx t h (bX t.mask h r)).j=(bh t.mask h r).1:=by
 have:=eQ t h r 0 (Ow _);rw[aaV] at this;rw[this];rfl
def nx (mask i:Nat):Nat:=(i*5+1) % (mask+1)
def Q6 (mask:Nat):Nat->Nat->Nat
 | 0,i=>i
 | n+1,i=>Q6 mask n (nx mask i)
theorem jx (mask:Nat):∀a b i,Q6 mask (a+b) i=Q6 mask b (Q6 mask a i)
 | 0,b,i=>by rw[aaW];rfl
 | a+1,b,i=>by
  rw[show a+1+b=(a+b)+1 by lia];show Q6 mask (a+b) (nx mask i)=Q6 mask b (Q6 mask a (nx mask i));exact jx mask a b _
def orb (mask:Nat):Nat->Nat->List Nat
 | 0,_=>[]
 | n+1,i=>i::orb mask n (nx mask i)
theorem pL (mask:Nat):∀n i j,j∈orb mask n i->∃k,k<n/\Q6 mask k i=j
 | 0,_,_,h=>by cases h
 | n+1,i,j,h=>by
  rcases NG.mp h with rfl|h
  .exact⟨0,by lia,rfl⟩
  .obtain⟨k,hk,e⟩:=pL mask n _ j h;exact⟨k+1,by lia,e⟩
def Mk (mask:Nat):Prop:=mask=7\/mask=31\/mask=127\/mask=15\/mask=63\/mask=255
theorem Jn {mask:Nat}(h:Mk mask):Q6 mask (mask+1) 0=0/\∀j,j<mask+1->j∈orb mask (mask+1) 0:=by
 rcases h with rfl|rfl|rfl|rfl|rfl|rfl <;> decide +kernel
theorem reach {mask i j:Nat}(h:Mk mask)(hi:i<mask+1)(hj:j<mask+1):∃k,k<mask+1/\Q6 mask k i=j:=by
 obtain⟨c0,c⟩:=Jn h;obtain⟨a,ha,ea⟩:=pL _ _ _ _ (c i hi);obtain⟨b,hb,eb⟩:=pL _ _ _ _ (c j hj);rcases P1 b a with z|z
 .refine⟨b+(mask+1)-a,by lia,?_⟩;have:Q6 mask (a+(b+(mask+1)-a)) 0=j:=by
   rw[show a+(b+(mask+1)-a)=(mask+1)+b by lia,jx,c0,eb]
  rw[jx,ea] at this;exact this
 .refine⟨b-a,by lia,?_⟩;have:Q6 mask (a+(b-a)) 0=j:=by rw[show a+(b-a)=b by lia,eb]
  rw[jx,ea] at this;exact this
theorem wJ (mask:Nat)(h:Int):∀r,(bh mask h r).1<mask+1
 | 0=>Nat.mod_lt _ (Nat.succ_pos _)
 | r+1=>Nat.mod_lt _ (Nat.succ_pos _)
theorem qM (mask:Nat)(h:Int):∀r,(bh mask h r).2=bits h / 32 ^ r
 | 0=>by show bits h=_;rw[Nat.pow_zero,Nat.div_one]
 | r+1=>by
  show(bh mask h r).2 / 32=_;rw[qM mask h r,Nat.div_div_eq_div_mul,Nat.pow_succ]
theorem En (h:Int):bits h<2 ^ 64:=by
 unfold bits;have h1:=Tc h (show(2 ^ 64:Int)≠0 by decide);have h2:=S9 h (show(0:Int)<2 ^ 64 by decide);lia
theorem zQ (mask:Nat)(h:Int)(hr:13<=r):(bh mask h r).2=0:=by
 rw[qM];refine Nat.div_eq_of_lt (OY (En h) ?_);exact Ph (show 2 ^ 64<=32 ^ 13 by decide) (aeE (by decide) hr)
theorem uo (mask:Nat)(h:Int):∀q,(bh mask h (13+q)).1=Q6 mask q (bh mask h 13).1
 | 0=>rfl
 | q+1=>by
  have e:Q6 mask (q+1) (bh mask h 13).1=nx mask (Q6 mask q (bh mask h 13).1):=by rw[jx];rfl
  rw[e,<-uo mask h q];show(leap mask (bh mask h (13+q)).1 (bh mask h (13+q)).2).1=_;rw[zQ mask h (by lia)];rfl
theorem Ds (t:Om)(h:Int)(hm:Mk t.mask){j:Nat}(hj:j<t.mask+1):∃r,r<t.mask+14/\(bh t.mask h r).1=j:=by
 obtain⟨k,hk,e⟩:=reach hm (wJ t.mask h 13) hj;exact⟨13+k,by lia,by rw[uo];exact e⟩
theorem FK (t)(h:Int)(hm:Mk t.mask)(hj:j<t.mask+1):∃n,n<10*(t.mask+14)/\(Nx t h n).j=j:=by
 obtain⟨r,hr,e⟩:=Ds t h hm hj;have:=qL t.mask h r;exact⟨bX t.mask h r,by lia,by rw[vX];exact e⟩
theorem FM {mask:Nat}(i k:Nat)(hi:i<mask+1)(hk:k<=runEnd mask i-i):i+k<mask+1:=by
 unfold runEnd at hk
 split at hk <;> lia
theorem zR (mask:Nat)(h:Int):∀n,∃r k,n=bX mask h r+k/\k<=runEnd mask (bh mask h r).1-(bh mask h r).1
 | 0=>⟨0,0,rfl,Ow _⟩
 | n+1=>by
  obtain⟨r,k,e,hk⟩:=zR mask h n;rcases P1 k (runEnd mask (bh mask h r).1-(bh mask h r).1) with z|z
  .exact⟨r,k+1,by lia,by lia⟩
  .refine⟨r+1,0,?_,Ow _⟩;show n+1=bX mask h r+(runEnd mask (bh mask h r).1-(bh mask h r).1)+1+0;lia
theorem uq (t)(h:Int)(n:Nat):(Nx t h n).j<t.mask+1:=by
 obtain⟨r,k,e,hk⟩:=zR t.mask h n;rw[e,eQ t h r k hk];exact FM _ _ (wJ _ _ _) hk
theorem first {p:Nat->Prop}[DecidablePred p]:∀n,p n->∃m,m<=n/\p m/\∀k,k<m->¬p k
 | 0,h=>⟨0,Nl _,h,λk hk=>Nc hk (Zd _)⟩
 | n+1,h=>by
  by_cases z:∃k,k<=n/\p k
  .obtain⟨k,hk,q⟩:=z;obtain⟨m,h1,h2,h3⟩:=first k q
   exact⟨m,by lia,h2,h3⟩
  .exact⟨n+1,Nl _,h,λk hk q=>z ⟨k,by lia,q⟩⟩
def SH (xs:Array Nat):Prop:=xs.toList.Pairwise (· < ·)
theorem Zw (r:SH xs)(h:a<b)(hb:b<xs.size):xs[a]'(by lia)<xs[b]:=by
 have:=(abY.mp r) a b (by simp;lia) (by simpa using hb) h;simpa using this
theorem nh (r:SH xs)(j:Nat):∀fuel lo hi,lo<=hi->hi<=xs.size->hi-lo<=fuel->(∀a,(ha:a<lo)->(hs:a<xs.size)->xs[a]<j)->(∀a,hi<=a->(hs:a<xs.size)->j<=xs[a])->
  below.go xs j fuel lo hi<=xs.size/\(∀a,(ha:a<below.go xs j fuel lo hi)->(hs:a<xs.size)->xs[a]<j)/\∀a,below.go xs j fuel lo hi<=a->(hs:a<xs.size)->j<=xs[a]
 | 0,lo,hi,h1,h2,h3,h4,h5=>by
  have:lo=hi:=by lia
  subst this;unfold below.go;exact⟨h2,h4,h5⟩
 | fuel+1,lo,hi,h1,h2,h3,h4,h5=>by
  unfold below.go
  by_cases z:lo<hi
  .rw[M6 z];have hm:(lo+hi) / 2<xs.size:=by lia
   have e:xs.getD ((lo+hi) / 2) j=xs[(lo+hi) / 2]:=by simp[Ri,hm]
   simp only[e]
   split
   .rename_i y;refine nh r j fuel _ _ (by lia) h2 (by lia) (λa ha hs=>?_) h5;rcases P1 a ((lo+hi) / 2) with q|q
    .exact Zp (Zw r q hm) y
    .obtain rfl:a=(lo+hi) / 2:=by lia
     exact y
   .rename_i y;refine nh r j fuel _ _ (by lia) (by lia) (by lia) h4 (λa ha hs=>?_);rcases P1 ((lo+hi) / 2) a with q|q
    .exact Ph (acy y) (UR (Zw r q hs))
    .obtain rfl:a=(lo+hi) / 2:=by lia
     exact acy y
  .rw[M0 z];have:lo=hi:=by lia
   subst this;exact⟨h2,h4,h5⟩
theorem Tg (r:SH xs)(j:Nat):below xs j<=xs.size/\(∀a,(ha:a<below xs j)->(hs:a<xs.size)->xs[a]<j)/\∀a,below xs j<=a->(hs:a<xs.size)->j<=xs[a]:=
 nh r j xs.size 0 xs.size (Ow _) (Nl _) (by lia) (λa ha=>Nc ha (Zd _)) λa ha hs=>by lia
theorem BS (r:SH xs)(h:xs[i]?=some j):below xs j=i:=by
 obtain⟨h1,h2,h3⟩:=Tg r j;obtain⟨hi,e⟩:=TU.mp h;rcases Xj (below xs j) i with z|z|z
 .have a:=h3 _ (Nl _) (by lia);have b:=Zw r z hi;lia
 .exact z
 .have:=h2 i z hi;lia
structure Tab (t:Om):Prop where
 O3:Mk t.mask
 rise:SH t.place
 le:∀j∈t.place.toList,j<=t.mask
 So:t.dummies=#[]
theorem qN (j:Nat):has #[] j=false:=by
 unfold has;simp
theorem ae5 (T:Tab t)(h:j∉t.place.toList):t.slot j=.empty:=by
 unfold slot;have z:(t.place[below t.place j]?==some j)=false:=by
  cases e:t.place[below t.place j]? with
  | none=>rfl
  | some k=>
   have hk:k∈t.place.toList:=by
    rw[<-S7] at e;exact Oo e
   have:k≠j:=λq=>h (q▸hk);simpa using this
 simp only[z,T.So,qN,OI,if_false]
theorem Xz (T:Tab t)(h:t.place[i]?=some j):t.slot j=.live i:=by
 unfold slot;rw[BS T.rise h];simp[h]
theorem ae9 {xs:Array Nat}(h:j∈xs.toList):∃i:Nat,xs[i]?=some j:=by
 obtain⟨i,hi,e⟩:=aaq.mp h;exact⟨i,by rw[<-S7,Ou hi,e]⟩
theorem BU {l:List Nat}(h:l.length<n):∃j,j<n/\j∉l:=by
 refine RJ λz=>?_;have sub:∀j∈Oe n,j∈l:=λj hj=>RJ λy=>z ⟨j,Pn.mp hj,y⟩;have key:∀(a b:List Nat),a.Nodup->(∀x∈a,x∈b)->a.length<=b.length:=by
  intro a
  induction a with
  | nil=>intro b _ _;exact Ow _
  | cons x a ih=>
   intro b nd hs;rw[QE] at nd;have hx:=hs x Nu;have:=ih (b.erase x) nd.2 λy hy=>by
    refine(aci ?_).mpr (hs y (NP _ hy));rintro rfl;exact nd.1 hy
   rw[ab2 hx] at this;have hp:0<b.length:=YZ hx;simp only[OB];lia
 have:=key (Oe n) l aaB sub;rw[UN] at this;lia
theorem meets (T:Tab t)(h:Int)(hf:t.place.size<=t.mask):∃n,n<10*(t.mask+14)/\(Nx t h n).j∉t.place.toList/\∀m,m<n->(Nx t h m).j∈t.place.toList:=by
 obtain⟨j,hj,hn⟩:=BU (n:=t.mask+1) (l:=t.place.toList) (by simp;lia);obtain⟨n,h1,e⟩:=FK t h T.O3 hj;obtain⟨m,h2,h3,h4⟩:=first (p:=λn=>(Nx t h n).j∉t.place.toList) n (by rw[e];exact hn)
 exact⟨m,by lia,h3,λk hk=>RJ λz=>h4 k hk z⟩
def lY (mask:Nat)(P:List Nat)(h:Int)(j:Nat):Prop:=∃(t:Om) (n:Nat),t.mask=mask/\(Nx t h n).j=j/\∀m,m<n->(Nx t h m).j∈P
theorem lY.more {mask:Nat}(r:lY mask P h j)(s:∀x∈P,x∈P'):lY mask P' h j:=
 let ⟨t,n,e,a,b⟩:=r;⟨t,n,e,a,λm hm=>s _ (b m hm)⟩
theorem lY.at (r:lY t.mask P h j):∃n,(Nx t h n).j=j/\∀m,m<n->(Nx t h m).j∈P:=by
 obtain⟨u,n,e,a,b⟩:=r;exact⟨n,by rw[m9 e.symm];exact a,λm hm=>by rw[m9 e.symm];exact b m hm⟩
abbrev OO:=Int×D'
structure Full (t:Om)(es:Array OO):Prop where
 tab:Tab t
 size:t.place.size=es.size
 reach:∀x∈t.place.toList.zip es.toList,lY t.mask t.place.toList x.2.1 x.1
theorem wK {α β:Type}:∀(p:Nat) (P:List α) (E:List β) (a:α) (b:β),P.length=E.length->p<=P.length->(P.take p++a::P.drop p).zip (E.take p++b::E.drop p)=(P.zip E).take p++(a,b)::(P.zip E).drop p
 | 0,P,E,a,b,_,_=>by simp
 | p+1,[],_,_,_,_,h=>by simp at h
 | p+1,x::P,[],_,_,h,_=>by simp at h
 | p+1,x::P,y::E,a,b,h,hp=>by
  have:=wK p P E a b (by simpa using h) (by simpa using hp);simp only[aeL,List.drop_succ_cons,List.cons_append,Xe];rw[this]
theorem Ua {α:Type}(xs)(p:Nat)(x:α):(insertAt xs p x).toList=xs.toList.take p++x::xs.toList.drop p:=by
 rw[Om.toList_insertAt]
theorem BV (r:SH xs)(h:j∉xs.toList):SH (insertAt xs (below xs j) j):=by
 obtain⟨h1,h2,h3⟩:=Tg r j;unfold SH at r ⊢;rw[Ua];have e:=(TW (below xs j) xs.toList).symm;rw[e] at r;rw[aar] at r ⊢;obtain⟨r1,r2,r3⟩:=r;refine⟨r1,?_,?_⟩
 .rw[Xf];refine⟨λb hb=>?_,r2⟩;obtain⟨k,hk,rfl⟩:=aaq.mp hb;rw[Xl] at hk;have RT:below xs j+k<xs.size:=by simp at hk;lia
  rw[List.getElem_drop];have q:=h3 (below xs j+k) (by lia) RT;have ne:xs[below xs j+k]≠j:=λz=>h (by rw[<-z];simp);have:j<xs[below xs j+k]:=by lia
  simpa using this
 .intro a ha b hb;have aj:a<j:=by
   obtain⟨k,hk,rfl⟩:=aaq.mp ha;rw[Qb] at hk;rw[List.getElem_take];have q:=h2 k (by lia) (by simp at hk;lia);simpa using q
  rcases NG.mp hb with rfl|hb
  .exact aj
  .exact r3 a ha b hb
theorem pM {α:Type}{l:List α}{p:Nat}{x y:α}:y∈l.take p++x::l.drop p↔y=x\/y∈l:=by
 have e:=TW p l;rw[Ov,NG];have m:y∈l↔y∈l.take p\/y∈l.drop p:=by
  rw[<-Ov,e]
 rw[m];constructor
 .rintro(h|h|h)
  .exact .inr (.inl h)
  .exact .inl h
  .exact .inr (.inr h)
 .rintro(h|h|h)
  .exact .inr (.inl h)
  .exact .inl h
  .exact .inr (.inr h)
theorem abc (T:Tab t)(j:Nat):(t.put j).2=below t.place j/\(t.put j).1.mask=t.mask/\(t.put j).1.place=insertAt t.place (below t.place j) j/\(t.put j).1.dummies=#[]/\(t.put j).1.plain=t.plain/\(t.put j).1.led=t.led/\(t.put j).1.moves=t.moves:=by
 unfold put;refine⟨rfl,rfl,rfl,?_,rfl,rfl,rfl⟩;show(if has t.dummies j=true then _ else t.dummies)=#[];rw[T.So,qN];rfl
theorem Zx {α:Type}(xs)(x:α)(h:p<=xs.size):(insertAt xs p x).size=xs.size+1:=by
 rw[<-Pe,Ua,Os,OB,Qb,Xl];simp;lia
theorem ac9 (F:Full t es)(hn:(Nx t e.1 n).j∉t.place.toList)(hb:∀m,m<n->(Nx t e.1 m).j∈t.place.toList):
  Full (t.put (Nx t e.1 n).j).1 (insertAt es (t.put (Nx t e.1 n).j).2 e):=by
 obtain⟨p1,p2,p3,p4,_⟩:=abc F.tab (Nx t e.1 n).j;obtain⟨b1,_,_⟩:=Tg F.tab.rise (Nx t e.1 n).j;have hl:(Nx t e.1 n).j<t.mask+1:=uq t e.1 n;have sz:=F.size;refine⟨⟨by rw[p2];exact F.tab.O3,by rw[p3];exact BV F.tab.rise hn,λj hj=>?_,p4⟩,?_,λx hx=>?_⟩
 .rw[p3,Ua,pM] at hj;rw[p2];rcases hj with rfl|hj
  .omega
  .exact F.tab.le j hj
 .rw[p1,p3,Zx _ _ b1,Zx _ _ (by lia),sz]
 .rw[p1,p3,Ua,Ua,wK _ _ _ _ _ (by simp[sz]) (by simpa using b1),pM] at hx;have up:∀z∈t.place.toList,z∈(t.put (Nx t e.1 n).j).1.place.toList:=λz hz=>by rw[p3,Ua,pM];exact .inr hz
  rw[p2];rcases hx with rfl|hx
  .exact⟨t,n,rfl,rfl,λm hm=>up _ (hb m hm)⟩
  .exact(F.reach x hx).more up
abbrev tm (mask:Nat):Om:={ mask,place:=#[],dummies:=#[],finger:=0,led:=true,moves:=0,plain:=true }
def cM (owner:Array (Option Nat))(j:Nat):Prop:=(owner.getD j (some 0)).isSome=true
instance (owner)(j:Nat):Decidable (cM owner j):=inferInstanceAs (Decidable (_=true))
theorem qO {mask:Nat}(h:Int):∀fuel r,(∀m,m<bX mask h r->cM owner (Nx (tm mask) h m).j)->(∃r',r<=r'/\r' < r+fuel/\¬cM owner (bh mask h r').1)->
  ∃j n,layClean.free mask owner fuel (bh mask h r).1 (bh mask h r).2=some j/\¬cM owner j/\(Nx (tm mask) h n).j=j/\∀m,m<n->cM owner (Nx (tm mask) h m).j
 | 0,r,_,⟨r',h1,h2,_⟩=>by lia
 | fuel+1,r,hb,⟨r',h1,h2,h3⟩=>by
  unfold layClean.free;cases e:(Oe (runEnd mask (bh mask h r).1+1-(bh mask h r).1)).find? λk=>(owner.getD ((bh mask h r).1+k) (some 0)).isNone with
  | some k=>
   have hk:=Pn.mp (aeb e);have hr:=kW mask (bh mask h r).1;have hq:(owner.getD ((bh mask h r).1+k) (some 0)).isNone=true:=List.find?_some (p:=λk=>(owner.getD ((bh mask h r).1+k) (some 0)).isNone) e;have sk:=eQ (tm mask) h r k (by show k<=runEnd mask (bh mask h r).1-(bh mask h r).1;lia);refine⟨_,bX mask h r+k,rfl,?_,by rw[sk],λm hm=>?_⟩
   .unfold cM;intro z;rw[Option.isNone_iff_eq_none] at hq;rw[hq] at z;cases z
   .rcases P1 m (bX mask h r) with y|y
    .exact hb m y
    .obtain⟨d,rfl⟩:∃d,m=bX mask h r+d:=⟨m-bX mask h r,by lia⟩
     have sd:=eQ (tm mask) h r d (by show d<=runEnd mask (bh mask h r).1-(bh mask h r).1;lia);rw[sd];show cM owner ((bh mask h r).1+d);unfold cM;have hd:d<k:=by lia
     obtain⟨_,as,bs,e1,e2⟩:=List.find?_eq_some_iff_append.mp e;have ady:as.length=k:=by
      have:(Oe (runEnd mask (bh mask h r).1+1-(bh mask h r).1))[as.length]?=some k:=by rw[e1];simp
      rw[aeM (by have:=congrArg RM e1;simp at this;lia)] at this;exact Rw this
     have afE:d∈as:=by
      have:(Oe (runEnd mask (bh mask h r).1+1-(bh mask h r).1))[d]?=some d:=aeM (by lia);rw[e1,SX (by lia)] at this;exact Oo this
     have:=e2 d afE;cases z:owner.getD ((bh mask h r).1+d) (some 0) with
     | none=>rw[z] at this;simp at this
     | some _=>rfl
  | none=>
   have all:=Y5.mp e;have hr:=kW mask (bh mask h r).1;have tk:∀d,d<=runEnd mask (bh mask h r).1-(bh mask h r).1->cM owner ((bh mask h r).1+d):=λd hd=>by
    have:=all d (Pn.mpr (by lia));unfold cM;cases z:owner.getD ((bh mask h r).1+d) (some 0) with
    | none=>rw[z] at this;simp at this
    | some _=>rfl
   have ne:r'≠r:=λz=>h3 (by rw[z];exact tk 0 (Ow _));refine qO h fuel (r+1) (λm hm=>?_) ⟨r',by lia,by lia,h3⟩;rcases P1 m (bX mask h r) with y|y
   .exact hb m y
   .have Uo:m<bX mask h r+(runEnd mask (bh mask h r).1-(bh mask h r).1)+1:=hm;obtain⟨d,rfl⟩:∃d,m=bX mask h r+d:=⟨m-bX mask h r,by lia⟩
    have sd:=eQ (tm mask) h r d (by show d<=runEnd mask (bh mask h r).1-(bh mask h r).1;lia);rw[sd];exact tk d (by lia)
structure Wj (mask:Nat)(hs:List Int)(owner:Array (Option Nat)):Prop where
 size:owner.size=mask+1
 perm:((Oe (mask+1)).filterMap λj=>owner.getD j none).Perm (Oe hs.length)
 reach:∀j q h,owner[j]?=some (some q)->hs[q]?=some h->∃n,(Nx (tm mask) h n).j=j/\∀m,m<n->cM owner (Nx (tm mask) h m).j
theorem yf {α β:Type}{f g:α->Option β}:∀{l:List α},(∀a∈l,f a=g a)->l.filterMap f=l.filterMap g
 | [],_=>rfl
 | a::l,h=>by rw[QP,QP,h a Nu,yf λb hb=>h b (NP _ hb)]
theorem kD {owner:Array (Option Nat)}(hj:owner.getD j (some 0)=none):∀(l:List Nat),l.Nodup->j∈l->(∀x∈l,x<owner.size)->
  (l.filterMap λi=>(owner.setIfInBounds j (some k)).getD i none).Perm ((l.filterMap λi=>owner.getD i none)++[k])
 | [],_,h,_=>by cases h
 | x::l,nd,h,hs=>by
  rw[QE] at nd;have hx:=hs x Nu
  by_cases z:x=j
  .subst z;have e1:(owner.setIfInBounds x (some k)).getD x none=some k:=by simp[Ri,hx]
   have e2:owner.getD x none=none:=by
    simp only[Ri,hx,dite_true] at hj ⊢;exact hj
   have e3:(l.filterMap λi=>(owner.setIfInBounds x (some k)).getD i none)=l.filterMap λi=>owner.getD i none:=by
    refine yf λi hi=>?_;have ne:x≠i:=λq=>nd.1 (q▸hi);have OW:=hs i (NP _ hi);simp[Ri,OW,ad0,ne]
   rw[VD (b:=k) (by rw[e1]),aag (by rw[e2]),e3];exact(List.perm_append_singleton k _).symm
  .have hjl:j∈l:=by
    rcases NG.mp h with q|q
    .exact Nc q.symm z
    .exact q
   have ih:=kD (k:=k) hj l nd.2 hjl λy hy=>hs y (NP _ hy);have e1:(owner.setIfInBounds j (some k)).getD x none=owner.getD x none:=by
    have ne:j≠x:=λq=>z q.symm;simp[Ri,hx,ad0,ne]
   cases e:owner.getD x none with
   | none=>rw[aag (by rw[e1,e]),aag (by rw[e])];exact ih
   | some v=>rw[VD (b:=v) (by rw[e1,e]),VD (b:=v) (by rw[e])];exact ih.cons v
theorem qP (h:cM owner x):cM (owner.setIfInBounds j (some k)) x:=by
 unfold cM at h ⊢;rw[Array.getD_eq_getD_getElem?] at h ⊢
 by_cases e:j=x
 .subst e
  by_cases hx:j<owner.size
  .rw[adS hx];rfl
  .rw[Y0 (by simpa using hx)];rfl
 .rw[adV e];exact h
theorem zS:∀(l:List Nat),(∀x∈l,cM owner x/\x<owner.size)->(l.filterMap λj=>owner.getD j none).length=l.length
 | [],_=>rfl
 | x::l,h=>by
  obtain⟨h1,h2⟩:=h x Nu;unfold cM at h1;simp only[Ri,h2,dite_true] at h1;obtain⟨v,e⟩:=SZ.mp h1;rw[VD (b:=v) (by simp[Ri,h2];exact e),OB,OB,zS l λy hy=>h y (NP _ hy)]
theorem BW {mask:Nat}(M:Mk mask)(O:Wj mask hs owner)(h:Int)(hl:hs.length<=mask):
  ∃j,layClean.free mask owner (turns mask) (bits h % (mask+1)) (bits h)=some j/\Wj mask (hs++[h]) (owner.setIfInBounds j (some hs.length)):=by
 have sz:=O.size;obtain⟨e,he,hn⟩:∃e,e<mask+1/\¬cM owner e:=by
  refine RJ λz=>?_;have all:∀x∈Oe (mask+1),cM owner x/\x<owner.size:=λx hx=>by
   have hx:=Pn.mp hx;exact⟨RJ λy=>z ⟨x,hx,y⟩,by lia⟩
  have h1:=zS _ all;have h2:=O.perm.length_eq;rw[h1,UN,UN] at h2;lia
 obtain⟨r,hr,er⟩:=Ds (tm mask) h M he;obtain⟨j,n,f1,f2,f3,f4⟩:=qO (mask:=mask) (owner:=owner) h (turns mask) 0 (λm hm=>Nc hm (Zd _)) ⟨r,Ow _,by
  have:r<mask+14:=hr;unfold turns;lia,by
  have er:(bh mask h r).1=e:=er;rw[er];exact hn⟩
 have hj:owner.getD j (some 0)=none:=by
  unfold cM at f2;cases z:owner.getD j (some 0) with
  | none=>rfl
  | some v=>rw[z] at f2;exact Nc rfl f2
 have Vo:j<owner.size:=by
  refine RJ λz=>?_;simp[Ri,z] at hj
 refine⟨j,f1,by rw[Array.size_setIfInBounds];exact sz,?_,λj' q h' e1 e2=>?_⟩
 .have p:=kD (k:=hs.length) hj (Oe (mask+1)) aaB (Pn.mpr (by lia)) λx hx=>by have:=Pn.mp hx;lia
  refine p.trans ?_;rw[Os,acb];have er:Oe (hs.length+1)=Oe hs.length++[hs.length]:=aaH;rw[er];exact O.perm.append_right _
 .by_cases z:j=j'
  .subst z;rw[adS Vo] at e1;have:hs.length=q:=by
    injection e1 with e1
    injection e1
   subst this;rw[UG (Nl _)] at e2;simp at e2;subst e2;exact⟨n,f3,λm hm=>qP (f4 m hm)⟩
  .rw[adV z] at e1;have hq:q<hs.length:=by
    have Vp:j' < owner.size:=by
     obtain⟨w,_⟩:=TU.mp e1;exact w
    have:q∈(Oe (mask+1)).filterMap λj=>owner.getD j none:=by
     rw[Rv];refine⟨j',Pn.mpr (by lia),?_⟩;have:=(TU.mp e1).2;simp[Ri,Vp,this]
    exact Pn.mp (O.perm.mem_iff.mp this)
   rw[SX hq] at e2;obtain⟨m,g1,g2⟩:=O.reach j' q h' e1 e2;exact⟨m,g1,λk hk=>qP (g2 k hk)⟩
theorem BX (mask:Nat):Wj mask [] (acI (mask+1) none):=by
 refine⟨by simp,?_,λj q h e=>?_⟩
 .have:((Oe (mask+1)).filterMap λj=>(acI (mask+1) (none:Option Nat)).getD j none)=[]:=by
   rw[List.filterMap_eq_nil_iff];intro a _;simp only[Ri]
   split <;> simp
  rw[this];exact Zi _
 .rw[TU] at e;obtain⟨_,e⟩:=e;simp at e
theorem ur {mask:Nat}(M:Mk mask):∀(rest done:List Int) (owner:Array (Option Nat)),Wj mask done owner->(done++rest).length<=mask->
  ∃Zz,(rest.foldl (λ(acc:Option (Array (Option Nat)×Nat)) h=>do
   let (owner,k) <-acc;let j <-layClean.free mask owner (turns mask) (bits h % (mask+1)) (bits h)
   pure (owner.setIfInBounds j (some k),k+1)) (some (owner,done.length)))=some (Zz,(done++rest).length)/\Wj mask (done++rest) Zz
 | [],done,owner,O,_=>⟨owner,by simp,by rw[QD];exact O⟩
 | h::rest,done,owner,O,hl=>by
  simp only[Os,OB] at hl;obtain⟨j,e,O'⟩:=BW M O h (by lia);obtain⟨Zz,e',O''⟩:=ur M rest (done++[h]) _ O' (by simp;lia);refine⟨Zz,?_,by rw[VM] at O'';exact O''⟩;rw[VO];have:(do
   let (owner,k) <-some (owner,done.length);let j <-layClean.free mask owner (turns mask) (bits h % (mask+1)) (bits h)
   pure (owner.setIfInBounds j (some k),k+1))=some (owner.setIfInBounds j (some done.length),done.length+1):=by
   simp[e]
  rw[this];rw[Os,acb] at e';rw[e'];simp
theorem BZ {mask:Nat}(M:Mk mask)(hs:List Int)(hl:hs.length<=mask):∃owner,layClean mask hs.toArray=some owner/\Wj mask hs owner:=by
 obtain⟨owner,e,O⟩:=ur M hs [] _ (BX mask) (by simpa using hl);refine⟨owner,?_,by simpa using O⟩;unfold layClean;rw[<-Array.foldl_toList];have e:aa5 _ (some (acI (mask+1) none,0)) hs=_:=e;rw[e];rfl
def dq (mask:Nat)(owner:Array (Option Nat)):List (Nat×Nat):=(Oe (mask+1)).filterMap λj=>(owner.getD j none).map (j,·)
theorem kX {mask:Nat}(sz:owner.size=mask+1):x∈dq mask owner↔owner[x.1]?=some (some x.2):=by
 unfold dq;rw[Rv];constructor
 .rintro⟨j,hj,e⟩;have Vp:j<owner.size:=by have:=Pn.mp hj;lia
  obtain⟨v,e1,e2⟩:=TV.mp e;subst e2;rw[RI Vp];simp only[Ri,Vp,dite_true] at e1;rw[<-e1];rfl
 .intro e;obtain⟨h1,h2⟩:=TU.mp e;refine⟨x.1,Pn.mpr (by lia),?_⟩;have:owner.getD x.1 none=some x.2:=by simp[Ri,h1,h2]
  rw[this];rfl
theorem zT (mask:Nat)(owner):(dq mask owner).map (·.2)=(Oe (mask+1)).filterMap λj=>owner.getD j none:=by
 unfold dq;rw[List.map_filterMap];refine yf λj _=>?_;cases owner.getD j none <;> rfl
theorem wL {f:Nat->Option (Nat×Nat)}(hf:∀j x,f j=some x->x.1=j):∀(l:List Nat),l.Pairwise (· < ·)->((l.filterMap f).map (·.1)).Pairwise (· < ·)
 | [],_=>UM
 | a::l,h=>by
  rw[Xf] at h;have ih:=wL hf l h.2;cases e:f a with
  | none=>rw[aag e];exact ih
  | some x=>
   rw[VD e,N7,Xf];refine⟨λb hb=>?_,ih⟩;obtain⟨y,hy,rfl⟩:=NR.mp hb;obtain⟨c,hc,ec⟩:=Rv.mp hy;rw[hf a x e,hf c y ec];exact h.1 c hc
theorem yg (mask:Nat)(owner):((dq mask owner).map (·.1)).Pairwise (· < ·):=by
 unfold dq;refine wL (λj x e=>?_) _ YY;obtain⟨v,_,e2⟩:=TV.mp e;rw[<-e2]
theorem zU {α:Type}{g:Nat->Option α}:∀(l:List (Nat×Nat)),(∀x∈l,∃a,g x.2=some a)->(l.map (·.1)).zip ((l.map (·.2)).filterMap g)=l.filterMap (λx=>(g x.2).map (x.1,·))/\((l.map (·.2)).filterMap g).length=l.length
 | [],_=>⟨rfl,rfl⟩
 | x::l,h=>by
  obtain⟨a,ha⟩:=h x Nu;obtain⟨i1,i2⟩:=zU l λy hy=>h y (NP _ hy);rw[N7,N7,VD ha,VD (b:=(x.1,a)) (by rw[ha];rfl),Xe,i1];exact⟨rfl,by rw[OB,OB,i2]⟩
theorem ada {mask finger moves:Nat}{led plain:Bool}(M:Mk mask)(es:Array OO)(hl:es.size<=mask):
  ∃t order,laid mask finger moves led plain (es.map (·.1))=some (t,order)/\t.mask=mask/\t.plain=plain/\t.led=led/\(order.filterMap (es[·]?)).size=es.size/\(order.filterMap (es[·]?)).toList.Perm es.toList/\Full t (order.filterMap (es[·]?)):=by
 obtain⟨owner,e,O⟩:=BZ M (es.toList.map (·.1)) (by rw[NT,Pe];exact hl);have eh:(es.toList.map (·.1)).toArray=es.map (·.1):=by
  apply Array.toList_inj.mp;rw[Array.toList_map]
 rw[eh] at e;have ho:((dq mask owner).map (·.2)).Perm (Oe es.size):=by
  rw[zT];have:=O.perm;simpa using this
 refine⟨{ mask,place:=((dq mask owner).map (·.1)).toArray,dummies:=#[],finger,led,moves,plain },((dq mask owner).map (·.2)).toArray,?_,rfl,rfl,rfl,?_⟩
 .unfold laid;rw[e];rfl
 have perm:(((dq mask owner).map (·.2)).toArray.filterMap (es[·]?)).toList.Perm es.toList:=by
  rw[aca];exact(ho.filterMap _).trans (by rw[filterMap_getElem?_range])
 have afi:∀x∈dq mask owner,∃a,es[x.2]?=some a:=λx hx=>by
  have:x.2∈(dq mask owner).map (·.2):=NR.mpr ⟨x,hx,rfl⟩;have:=Pn.mp (ho.mem_iff.mp this);exact⟨es[x.2],RI this⟩
 obtain⟨z1,z2⟩:=zU (g:=λi=>es[i]?) (dq mask owner) afi;refine⟨?_,perm,⟨M,yg mask owner,λj hj=>?_,rfl⟩,?_,λx hx=>?_⟩
 .rw[<-Pe,perm.length_eq,Pe]
 .have hj:j∈(dq mask owner).map (·.1):=hj;obtain⟨x,hx,rfl⟩:=NR.mp hj;rw[kX O.size] at hx;obtain⟨w,_⟩:=TU.mp hx;have:=O.size;show x.1<=mask;lia
 .show((dq mask owner).map (·.1)).toArray.size=_;rw[Od,NT,<-Pe,aca];exact z2.symm
 .rw[aca] at hx;have hx:x∈((dq mask owner).map (·.1)).zip (((dq mask owner).map (·.2)).filterMap λi=>es[i]?):=hx;rw[z1,Rv] at hx;obtain⟨y,hy,e1⟩:=hx;obtain⟨a,e2,e3⟩:=TV.mp e1;subst e3;have hq:(es.toList.map (·.1))[y.2]?=some a.1:=by
   rw[Pa,S7,e2];rfl
  obtain⟨n,g1,g2⟩:=O.reach y.1 y.2 a.1 ((kX O.size).mp hy) hq;refine⟨tm mask,n,rfl,g1,λm hm=>?_⟩;show(Nx (tm mask) a.1 m).j∈(dq mask owner).map (·.1);have tk:=g2 m hm;have lt:(Nx (tm mask) a.1 m).j<mask+1:=uq (tm mask) a.1 m;have lt':(Nx (tm mask) a.1 m).j<owner.size:=by rw[O.size];exact lt
  unfold cM at tk;simp only[Ri,lt',dite_true] at tk;obtain⟨v,ev⟩:=SZ.mp tk;refine NR.mpr ⟨((Nx (tm mask) a.1 m).j,v),(kX O.size).mpr ?_,rfl⟩;rw[RI lt'];exact congrArg some ev
end Sa
namespace L2
open PySem PySem.Spec PyProof.Rows PySem.SetTable
theorem zV (a:A')(x:D')(h:Int)(adding:Bool)(fuel:Nat)(st:Option Probe):setSearchFrom a x h adding (fuel+1) st=(do
  let (es,_,t) <-setState a
  if t.gaveWay then unsupported "set:on-a-table-that-gave-way"
  let some met:=t.probe (λi=>(es[i]?.map (·.1)).getD 0) h (st.getD (t.probeStart h))|unsupported "internal:set-table-without-an-empty-slot"
  match met with
  | .empty j dummy=>
   match dummy with
   | none=>return .free j false
   | some d=>
    if adding&&t.slot d != .dummy then rule "set.search.the-dummy-was-taken";return <-setSearchFrom a x h adding fuel none
    return .free d true
  | .candidate j i next=>
   if !t.led then
    if <-searchCouldBeSeen x ((es.filter (·.1==h)).toList.map (·.2)) then unsupported "set:the-search-would-show-the-table"
   let some (_,y):=es[i]? | unsupported "internal:set-entry"
   let equal <-holding [y] (eqBool y x)
   let (Pj,_,t') <-setState a
   if adding&&equal then return .there none
   let some same:=t'.sameMemory t.moves t.mask|unsupported "set.changed-during-lookup:is-the-new-block-at-the-old-address"
   let abm <-match (if same then t'.slot j else .empty) with
    | .live i'=>match Pj[i']? with
     | some (_,y')=>do pure (if <-isSame y' y then some i' else none)
     | none=>pure none
    | _=>pure none
   match abm with
   | none=>rule "set.search.anew";setSearchFrom a x h adding fuel none
   | some i'=>if equal then return .there (some i') else setSearchFrom a x h adding fuel (some next)):=rfl
section
theorem pN (T:Sa.Tab t)(hN:(Sa.Nx t h N).j∉t.place.toList)(hb:∀m,m<N->(Sa.Nx t h m).j∈t.place.toList):∀fuel m,m<=N->N-m<fuel->
  ∃m',m<=m'/\m'<=N/\((m'=N/\probe.go t H h fuel (Sa.Nx t h m)=some (.empty (Sa.Nx t h N).j none))\/
   (m' < N/\∃i,t.place[i]?=some (Sa.Nx t h m').j/\H i=h/\probe.go t H h fuel (Sa.Nx t h m)=some (.candidate (Sa.Nx t h m').j i (Sa.Nx t h (m'+1)))))/\
   ∀q,m<=q->q<m'->∀i,t.place[i]?=some (Sa.Nx t h q).j->H i≠h
 | 0,m,_,h2=>by lia
 | fuel+1,m,h1,h2=>by
  rcases P1 m N with z|z
  .obtain⟨i,hi⟩:=Sa.ae9 (hb m z);have sl:=Sa.Xz T hi;have uniq:∀i',t.place[i']?=some (Sa.Nx t h m).j->i'=i:=λi' OW=>by
    have:=Sa.Xz T OW;rw[sl] at this;cases this;rfl
   by_cases e:H i=h
   .refine⟨m,Nl _,h1,.inr ⟨z,i,hi,e,?_⟩,λq a b=>by lia⟩;unfold probe.go;rw[sl];simp only[e,beq_self_eq_true,if_true];rfl
   .obtain⟨m',a1,a2,a3,a4⟩:=pN T hN hb fuel (m+1) z (by lia);have eg:probe.go t H h (fuel+1) (Sa.Nx t h m)=probe.go t H h fuel (Sa.Nx t h (m+1)):=by
     rw[probe.go,sl];have:(H i==h)=false:=by simpa using e
     simp only[this,OI,if_false];rfl
    refine⟨m',by lia,a2,?_,λq b1 b2 i' OW=>?_⟩
    .rw[eg];exact a3
    .rcases P1 m q with y|y
     .exact a4 q (by lia) b2 i' OW
     .obtain rfl:q=m:=by lia
      rw[uniq i' OW];exact e
  .obtain rfl:m=N:=by lia
   refine⟨m,Nl _,Nl _,.inl ⟨rfl,?_⟩,λq a b=>by lia⟩;unfold probe.go;rw[Sa.ae5 T hN,Sa.ac6]
end
structure QU (prog)(w)(K:Type)[DecidableEq K]where
 knd:HeapKind prog w K
 ZD:∀{A:Nv}{E:D'->J'->Prop}{s:J'}{k:K}{a:A'}{Q:Bool->J'->Prop},knd.is s.heap k a->Q true s->M3 (M8 prog w) A (hashByValue 8 (.ref a)) Q E s
 XI:∀{A:Nv}{E:D'->J'->Prop}{s:J'}{k:K}{a:A'}{Q:Bool->J'->Prop},knd.is s.heap k a->Q false s->M3 (M8 prog w) A (ofAClassStatement 8 (.ref a)) Q E s
 keep:∀{h h':M4}{k:K}{a:A'},knd.is h k a->(∀b o,o.cls=.type "tuple"->h.get? b=some o->h'.get? b=some o)->knd.is h' k a
section
variable {prog:Ng}{w:M7}{K:Type} [DecidableEq K] {A:Nv}{E:D'->J'->Prop}{s:J'}{X:QU prog w K}
def El (X:QU prog w K)(h:M4)(e:Sa.OO)(k:K):Prop:=∃b,e.2=.ref b/\X.knd.is h k b/\e.1=X.knd.hash k
structure RR (X:QU prog w K)(h:M4)(a:A')(o:G')(es:Array Sa.OO)(ep:Nat)(t:Om)(ks:List K):Prop where
 ob:h.get? a=some o
 ex:o.ExactSet
 dt:o.data=.set es ep t
 full:Sa.Full t es
 NH:t.place.size*5<t.mask*3
 pl:t.plain=true
 el:Nd (El X h) es.toList ks
 nd:ks.Nodup
theorem RR.fits (S:RR X s.heap a o es ep t ks):t.fits es.size=true:=by
 unfold aaR R5;rw[S.full.tab.So,S.full.size];have:=S.NH;rw[S.full.size] at this;simp;lia
theorem odd (h:Sa.Mk m):(m % 2==0)=false:=by rcases h with rfl|rfl|rfl|rfl|rfl|rfl <;> rfl
theorem yh (hx:X.knd.is s.heap k x):∀(l:List D') {Q:Bool->J'->Prop},(∀v∈l,∃b k',v=.ref b/\X.knd.is s.heap k' b)->Q false s->M3 (M8 prog w) A (searchCouldBeSeen (.ref x) l) Q E s:=by
 intro l Q hl h;unfold searchCouldBeSeen;refine MW (Re _ (λrest r s'=>r.1=none/\s'=s/\∀v∈rest,∃b k',v=.ref b/\X.knd.is s.heap k' b) _ ?turn ?fin _ _ ⟨rfl,rfl,hl⟩)
 case turn=>
  rintro v rest ⟨r1,r2⟩ s' ⟨hr,e,Qu⟩;simp only at hr;subst e hr;obtain⟨b,k',rfl,hb⟩:=Qu v Nu;have adk:∀u∈rest,∃b k',u=.ref b/\X.knd.is s'.heap k' b:=λu hu=>Qu u (NP _ hu);dsimp only
  by_cases z:((x==b)||(carriedByValue (.ref x)&&carriedByValue (.ref b)))=true
  .rw[M6 z];exact M1 ⟨rfl,rfl,adk⟩
  .rw[M0 z];refine MW (X.knd.quiet hx ?_);simp only[Rx,OI,if_false];refine MW (X.knd.quiet hb ?_);simp only[Rx,OI,if_false];refine MW (X.XI hx ?_);simp only[OI,if_false];refine MW (X.XI hb ?_);simp only[OI,if_false];exact M1 ⟨rfl,rfl,adk⟩
 case fin=>
  rintro⟨r1,r2⟩ s' ⟨hr,e,_⟩;simp only at hr;subst e hr;exact M1 h
end
section
variable {prog:Ng}{w:M7}{K:Type} [DecidableEq K] {A:Nv}{E:D'->J'->Prop}{s:J'}{X:QU prog w K}{a:A'}{o:G'}{es:Array Sa.OO}{ep:Nat}{t:Om}{ks:List K}
theorem Dt (S:RR X s.heap a o es ep t ks){i j:Nat}(h:t.place[i]?=some j):∃e k,es[i]?=some e/\ks[i]?=some k/\El X s.heap e k:=by
 have hi:i<es.size:=by
  have:=(TU.mp h).1;rw[S.full.size] at this;exact this
 obtain⟨k,hk,el⟩:=cy (i:=i) (a:=es[i]) S.el (by simp[hi]);exact⟨es[i],k,RI hi,hk,el⟩
theorem FN (S:RR X s.heap a o es ep t ks)(hk:k∈ks)(hN:(Sa.Nx t (X.knd.hash k) N).j∉t.place.toList):∃(n i:Nat),n<N/\t.place[i]?=some (Sa.Nx t (X.knd.hash k) n).j/\ks[i]?=some k:=by
 obtain⟨i,hi,e⟩:=aaq.mp hk;have hki:ks[i]?=some k:=by rw[Ou hi,e]
 obtain⟨el,Ym,b,e1,e2,e3⟩:=fU S.el hki;have hes:es[i]?=some el:=by rw[<-S7];exact Ym
 have his:i<t.place.size:=by
  rw[S.full.size];exact(TU.mp hes).1
 have hp:t.place[i]?=some t.place[i]:=RI his;have hz:(t.place[i],el)∈t.place.toList.zip es.toList:=by
  rw[UK];refine⟨i,?_⟩;rw[List.getElem?_zip_eq_some];exact⟨by simpa using hp,Ym⟩
 obtain⟨n,r1,r2⟩:=(S.full.reach _ hz).at;have e3':el.1=X.knd.hash k:=e3;dsimp only at r1 r2;rw[e3'] at r1 r2;refine⟨n,i,?_,by rw[r1];exact hp,hki⟩;rcases Xj n N with z|z|z
 .exact z
 .subst z;rw[r1] at hN;exact Nc (by simp) hN
 .exact Nc (r2 N z) hN
theorem vY (S:RR X s.heap a o es ep t ks)(hr:X.knd.room A)(hb:X.knd.is s.heap k b)(hN:(Sa.Nx t (X.knd.hash k) N).j∉t.place.toList)(N9:∀m,m<N->(Sa.Nx t (X.knd.hash k) m).j∈t.place.toList)(agl:N<10*(t.mask+14))(h1:k∈ks->Q (.there none) s)(h2:k∉ks->Q (.free (Sa.Nx t (X.knd.hash k) N).j false) s):
  ∀d m fuel (st:Option Probe),N-m=d->m<=N->d<fuel->st.getD (t.probeStart (X.knd.hash k))=Sa.Nx t (X.knd.hash k) m->(∀q,q<m->∀i:Nat,t.place[i]?=some (Sa.Nx t (X.knd.hash k) q).j->ks[i]?≠some k)->
   M3 (M8 prog w) A (setSearchFrom a (.ref b) (X.knd.hash k) true fuel st) Q E s:=by
 intro d
 induction d using Nat.strongRecOn with
 | ind d ih=>
  intro m fuel st hd hm hf Ui pre
  obtain⟨fuel,rfl⟩:∃f,fuel=f+1:=⟨fuel-1,by lia⟩
  rw[zV]
  refine MW (P0 S.ob S.dt S.fits ?_)
  dsimp only
  rw[M0 (by unfold Om.gaveWay;rw[odd S.full.tab.O3];exact OZ)]
  obtain⟨m',a1,a2,a3,a4⟩:=pN (H:=λi=>(es[i]?.map (·.1)).getD 0) S.full.tab hN N9 (10*turns t.mask) m hm (by unfold turns;lia)
  have Ol:∀q,m<=q->q<m'->∀i:Nat,t.place[i]?=some (Sa.Nx t (X.knd.hash k) q).j->ks[i]?≠some k:=λq b1 b2 i hi z=>by
   obtain⟨e,k',c1,c2,_,_,_,c3⟩:=Dt S hi
   have:=a4 q b1 b2 i hi
   rw[c2] at z
   cases z
   simp[c1] at this
   exact this c3
  rw[Ui]
  unfold probe
  rcases a3 with⟨e0,eg⟩|⟨lt,i,hi,hh,eg⟩
  .rw[eg]
   subst e0
   refine M1 (h2 λhk=>?_)
   obtain⟨n,i,n1,n2,n3⟩:=FN S hk hN
   rcases P1 n m with z|z
   .exact pre n z i n2 n3
   .exact Ol n z n1 i n2 n3
  .rw[eg]
   obtain⟨e,k',c1,c2,c,c3,c4,c5⟩:=Dt S hi
   obtain⟨eh,ev⟩:=e
   dsimp only at c3 c5
   subst c3
   dsimp only
   have body:M3 (M8 prog w) A (do
     let some (_,y):=es[i]? | unsupported "internal:set-entry"
     let equal <-holding [y] (eqBool y (.ref b))
     let (Pj,_,t') <-setState a
     if true&&equal then return .there none
     let some same:=t'.sameMemory t.moves t.mask|unsupported "set.changed-during-lookup:is-the-new-block-at-the-old-address"
     let abm <-match (if same then t'.slot (Sa.Nx t (X.knd.hash k) m').j else .empty) with
      | .live i'=>match Pj[i']? with
       | some (_,y')=>do pure (if <-isSame y' y then some i' else none)
       | none=>pure none
      | _=>pure none
     match abm with
     | none=>rule "set.search.anew";setSearchFrom a (.ref b) (X.knd.hash k) true fuel none
     | some i'=>if equal then return .there (some i') else setSearchFrom a (.ref b) (X.knd.hash k) true fuel (some (Sa.Nx t (X.knd.hash k) (m'+1)))) Q E s:=by
    rw[c1]
    dsimp only
    refine MW (PN (X.knd.eqBool hr c4 hb (MW (P0 S.ob S.dt S.fits ?_))))
    dsimp only
    by_cases z:k'=k
    .subst z
     rw[Nz rfl]
     exact M1 (h1 (Oo c2))
    .rw[Ny z]
     simp only[aaL,OI,if_false]
     have sm:t.sameMemory t.moves t.mask=some true:=by unfold sameMemory;simp
     rw[sm]
     dsimp only
     rw[M6 rfl,Sa.Xz S.full.tab hi]
     dsimp only
     rw[c1]
     dsimp only
     refine MW (wpAny_isSame_ref_self (MW (M1 ?_)))
     rw[M6 rfl]
     dsimp only
     refine ih (N-(m'+1)) (by lia) (m'+1) fuel _ rfl (by lia) (by lia) rfl λq hq i' OW=>?_
     rcases P1 q m with y|y
     .exact pre q y i' OW
     .rcases P1 q m' with x|x
      .exact Ol q y x i' OW
      .obtain rfl:q=m':=by lia
       have e1:=Sa.Xz S.full.tab hi
       have e2:=Sa.Xz S.full.tab OW
       rw[e1] at e2
       cases e2
       rw[c2]
       intro w'
       cases w'
       exact z rfl
   cases ZM:t.led with
   | true=>
    simp only[ZM,Rx,OI,if_false]
    exact body
   | false=>
    simp only[ZM,Bool.not_false,if_true]
    refine MW (yh hb _ (λv hv=>?_) ?_)
    .obtain⟨x,hx,rfl⟩:=NR.mp hv
     have Us:x∈es.toList:=by
      rw[Array.toList_filter] at hx
      exact(Pm.mp hx).1
     obtain⟨k2,_,b2,e2,g2,_⟩:=fA S.el x Us
     exact⟨b2,k2,e2,g2⟩
    .simp only[OI,if_false]
     exact body
theorem zW (S:RR X s.heap a o es ep t ks)(hr:X.knd.room A)(hb:X.knd.is s.heap k b)(h1:k∈ks->Q (.there none) s)(h2:k∉ks->∀N,(Sa.Nx t (X.knd.hash k) N).j∉t.place.toList->(∀m,m<N->(Sa.Nx t (X.knd.hash k) m).j∈t.place.toList)->Q (.free (Sa.Nx t (X.knd.hash k) N).j false) s):M3 (M8 prog w) A (setSearch a (.ref b) (X.knd.hash k) true) Q E s:=by
 obtain⟨N,n1,n2,n3⟩:=Sa.meets S.full.tab (X.knd.hash k) (by have:=S.NH;lia);have hm:t.mask<=255:=by rcases S.full.tab.O3 with e|e|e|e|e|e <;> lia
 exact vY S hr hb n2 n3 n1 h1 (λz=>h2 z N n2 n3) N 0 100000 none rfl (Ow _) (by lia) rfl λq hq=>Nc hq (Zd _)
end
theorem ut (a:A')(x:D')(h:Int)(fuel:Nat):setAddHashedIn a x h (fuel+1)=(do
  let (adl,_,t₀) <-setState a
  if byScan x adl then
   match <-setAddByScan a x h adl t₀ with
   | some added=>return added
   | none=>return <-setAddHashedIn a x h fuel
  let .free slot ae6 <-setSearch a x h (adding:=true)|return false
  let (es,_,t) <-setState a
  let (t,p):=t.put slot
  let byValue <-if t.plain then hashByValue 8 x else pure true
  let t:=if byValue then t else { t with plain:=false }
  storeSet a (Om.insertAt es p (h,x)) t
  if !ae6&&t.tooFull then setRelay a (Om.grown (es.size+1))
  return true):=rfl
theorem uu (a:A')(wanted:Nat):setRelay a wanted=(do
  let (es,_,t) <-setState a
  if Om.sizeAbove wanted > Nh then unsupported "set:memory"
  let (es,t) <-(do
   let some (t,order):=t.relaid (es.map (·.1)) wanted|unsupported "internal:set-table-without-room"
   let Pj:=order.filterMap (es[·]?)
   if Pj.size != es.size then unsupported "internal:set-table-lost-an-element"
   pure (Pj,t):PY (Array (Int×D')×Om))
  storeSet a es t):=rfl
theorem ja {α β:Type}{R:α->β->Prop}{l l':List α}(p:l'.Perm l):∀{m:List β},Nd R l m->∃m',Nd R l' m'/\m'.Perm m:=by
 induction p with
 | nil=>intro m r;exact⟨m,r,Zi _⟩
 | cons x _ ih=>
  intro m r;cases r with
  | cons h t=>
   obtain⟨m',r',p'⟩:=ih t;exact⟨_,.cons h r',p'.cons _⟩
 | swap x y l=>
  intro m r;cases r with
  | cons h1 t=>
   cases t with
   | cons h2 t=>exact⟨_,.cons h2 (.cons h1 t),ae3 _ _ _⟩
 | trans _ _ ih1 ih2=>
  intro m r;obtain⟨m1,r1,p1⟩:=ih2 r;obtain⟨m2,r2,p2⟩:=ih1 r1;exact⟨m2,r2,p2.trans p1⟩
section
variable {prog:Ng}{w:M7}{K:Type} [DecidableEq K] {A:Nv}{E:D'->J'->Prop}{s:J'}{X:QU prog w K}{a:A'}{o:G'}{es:Array Sa.OO}{ep:Nat}{t:Om}{ks:List K}
theorem lZ (x:El X h e k)(kp:∀b o,o.cls=.type "tuple"->h.get? b=some o->h'.get? b=some o):El X h' e k:=
 let ⟨b,e1,e2,e3⟩:=x;⟨b,e1,X.keep e2 kp,e3⟩
theorem gG {h:M4}(ho:h.get? a=some o)(hx:o.ExactSet)(hd:o.data=.set es ep t)(Pj:Array Sa.OO)(t':Om):
  (h.update a (V2 Pj t')).get? a=some { o with data:=.set Pj (ep+1) t' }/\(∀b u,b≠a->h.get? b=some u->(h.update a (V2 Pj t')).get? b=some u)/\∀b u,u.cls=.type "tuple"->h.get? b=some u->(h.update a (V2 Pj t')).get? b=some u:=by
 have ot:∀b u,b≠a->h.get? b=some u->(h.update a (V2 Pj t')).get? b=some u:=λb u hb q=>(WZ _ _ (N1 hb)).trans q;refine⟨?_,ot,λb u hc q=>ot b u ?_ q⟩
 .have z:=aak (V2 Pj t') ho (by rw[putSet_of Pj t' hd];rfl);rw[putSet_of Pj t' hd] at z;exact z
 .rintro rfl;rw[ho] at q;cases q;rw[hx.1] at hc;injection hc with hc
  exact Nc hc (by decide)
def Jo (X:QU prog w K)(a:A')(k:K)(ks:List K)(led:Bool)(h h':M4):Prop:=
 (∀b u,b≠a->h.get? b=some u->h'.get? b=some u)/\∃o es ep t OX,RR X h' a o es ep t OX/\t.led=led/\(k∈ks->OX=ks)/\(k∉ks->OX.Perm (k::ks))
theorem B0 (ho:s.heap.get? a=some o)(hx:o.ExactSet)(hd:o.data=.set es ep t)(F:Sa.Full t es)(hle:t.place.size<=t.mask)(pl:t.plain=true)(el:Nd (El X s.heap) es.toList ks)(nd:ks.Nodup)(hM:Sa.Mk M)(hz:sizeAbove n=M+1)(hs:es.size*5<M*3)(h:∀h',(∀b u,b≠a->s.heap.get? b=some u->h'.get? b=some u)->(∃o es ep t' OX,RR X h' a o es ep t' OX/\t'.led=t.led/\OX.Perm ks)->Q () { s with heap:=h' }):M3 (M8 prog w) A (setRelay a n) Q E s:=by
 have hf:t.fits es.size=true:=by
  unfold aaR R5;rw[F.tab.So,F.size];rw[F.size] at hle;simp;exact hle
 rw[uu];refine MW (P0 ho hd hf ?_);dsimp only;have hM':M<=255:=by rcases hM with e|e|e|e|e|e <;> lia
 rw[M0 (by rw[hz,NU];lia)];obtain⟨t',order,e1,e2,e3,e4,e5,e6,e7⟩:=Sa.ada (mask:=M) (finger:=t.finger) (moves:=t.movedTo M) (led:=t.led) (plain:=t.plain) hM es (by lia);have er:t.relaid (es.map (·.1)) n=some (t',order):=by
  unfold relaid;rw[hz];exact e1
 rw[er];dsimp only;have ne:((order.filterMap (es[·]?)).size != es.size)=false:=by rw[e5];simp
 rw[ne];simp only[OI,if_false];refine MW (M1 (Y' ho hd ?_ (by rw[e5,NU];lia)));obtain⟨g1,g2,g3⟩:=gG ho hx hd (order.filterMap (es[·]?)) t';obtain⟨OX,q1,q2⟩:=ja e6 el;refine h _ g2 ⟨_,_,_,t',OX,⟨g1,hx,rfl,e7,?_,by rw[e3];exact pl,aX (λ_ _ z=>lZ z g3) q1,q2.nodup_iff.mpr nd⟩,e4,q2⟩;rw[e7.size,e2,e5];exact hs
theorem FO (S:RR X s.heap a o es ep t ks)(hr:X.knd.room A)(hb:X.knd.is s.heap k b)(hl:ks.length<70)(h:∀h' f,Jo X a k ks t.led s.heap h'->Q f { s with heap:=h' }):M3 (M8 prog w) A (setAddHashed a (.ref b) (X.knd.hash k)) Q E s:=by
 unfold setAddHashed;refine PN ?_;show M3 _ _ (setAddHashedIn a (.ref b) (X.knd.hash k) (99999+1)) _ _ _;rw[ut];refine MW (P0 S.ob S.dt S.fits ?_);dsimp only;have bs:byScan (.ref b) es=false:=by unfold byScan D'.scannable;rfl
 rw[bs];simp only[OI,if_false];have len:es.size=ks.length:=by rw[<-Pe];exact S.el.length
 refine MW (zW S hr hb (λhk=>?_) λhk N n1 n2=>?_)
 .exact M1 (h s.heap false ⟨λ_ _ _ q=>q,o,es,ep,t,ks,S,rfl,λ_=>rfl,λz=>Nc hk z⟩)
 .dsimp only;refine MW (P0 S.ob S.dt S.fits ?_);dsimp only;obtain⟨p1,p2,p3,p4,p5,p6,p7⟩:=Sa.abc S.full.tab (Sa.Nx t (X.knd.hash k) N).j;have F':=Sa.ac9 S.full (e:=(X.knd.hash k,.ref b)) n1 n2;dsimp only at F';obtain⟨bl,_,_⟩:=Sa.Tg S.full.tab.rise (Sa.Nx t (X.knd.hash k) N).j;have sz:=F'.size;have fs:=S.full.size;have Rp:(insertAt es (t.put (Sa.Nx t (X.knd.hash k) N).j).2 (X.knd.hash k,NQ b)).size=es.size+1:=Sa.Zx _ _ (by rw[p1];lia);rw[p5,S.pl];simp only[if_true];refine MW (X.ZD hb ?_);simp only[if_true];generalize (t.put (Sa.Nx t (X.knd.hash k) N).j).1=t' at *;generalize (t.put (Sa.Nx t (X.knd.hash k) N).j).2=p at *;refine MW (Y' S.ob S.dt ?_ (by rw[Rp,NU];lia));obtain⟨g1,g2,g3⟩:=gG S.ob S.ex S.dt (insertAt es p (X.knd.hash k,NQ b)) t';have ζ:Nd (El X (s.heap.update a (V2 (insertAt es p (X.knd.hash k,NQ b)) t'))) (insertAt es p (X.knd.hash k,NQ b)).toList (ks.take p++k::ks.drop p):=by
   rw[Sa.Ua];have el0:=aX (λ_ _ z=>lZ z g3) S.el;exact de (sC p el0) (.cons ⟨b,rfl,X.keep hb g3,rfl⟩ (sD p el0))
  have pm:(ks.take p++k::ks.drop p).Perm (k::ks):=by
   refine List.perm_middle.trans ?_;rw[TW]
  have Wl:(ks.take p++k::ks.drop p).Nodup:=pm.nodup_iff.mpr (QE.mpr ⟨hk,S.nd⟩);have NH:=S.NH;have afF:t'.place.size<=t'.mask:=by rw[sz,Rp,p2];lia
  have ps:t'.place.size=es.size+1:=by rw[sz,Rp]
  by_cases full:t'.tooFull=true
  .rw[M6 (by rw[full];rfl)];have full:t'.fill*5 >= t'.mask*3:=by simpa [acA] using full
   unfold R5 at full;rw[p4,ps,p2] at full;simp only[Od,T2,aaV,Array.size_empty] at full;rw[fs] at NH;have key:∃M,Sa.Mk M/\sizeAbove (grown (es.size+1))=M+1/\(es.size+1)*5<M*3:=by
    rcases S.full.tab.O3 with e|e|e|e|e|e
    .rw[e] at NH full;have:es.size=4:=by lia
     rw[this];exact⟨31,.inr (.inl rfl),by decide,by decide⟩
    .rw[e] at NH full;have:es.size=18:=by lia
     rw[this];exact⟨127,.inr (.inr (.inl rfl)),by decide,by decide⟩
    .rw[e] at NH full;lia
    .rw[e] at NH full;have:es.size=8:=by lia
     rw[this];exact⟨63,.inr (.inr (.inr (.inr (.inl rfl)))),by decide,by decide⟩
    .rw[e] at NH full;have:es.size=37:=by lia
     rw[this];exact⟨255,.inr (.inr (.inr (.inr (.inr rfl)))),by decide,by decide⟩
    .rw[e] at NH full;lia
   obtain⟨M,m1,m2,m3⟩:=key;refine MW (B0 (s:={ s with heap:=s.heap.update a (V2 (insertAt es p (X.knd.hash k,NQ b)) t') }) g1 S.ex rfl F' afF (by rw[p5,S.pl]) ζ Wl m1 m2 (by rw[Rp];exact m3) λh' k1 ⟨o2,Qk,Qx,t2,Qq,S2,l2,pm2⟩=>?_);exact M1 (h h' true ⟨λb' u Yn q=>k1 b' u Yn (g2 b' u Yn q),o2,Qk,Qx,t2,Qq,S2,l2.trans p6,λz=>Nc z hk,λ_=>pm2.trans pm⟩)
  .have nf:t'.tooFull=false:=by simpa using full
   rw[M0 (by rw[nf];simp)];refine M1 (h _ true ⟨g2,_,_,_,t',_,⟨g1,S.ex,rfl,F',?_,by rw[p5,S.pl],ζ,Wl⟩,p6,λz=>Nc z hk,λ_=>pm⟩);have nf:¬t'.fill*5 >= t'.mask*3:=by simpa [acA] using nf
   unfold R5 at nf;rw[p4] at nf;simp only[Od,T2,aaV,Array.size_empty] at nf;lia
end
section
variable {prog:Ng}{w:M7}{K:Type} [DecidableEq K] {A:Nv}{E:D'->J'->Prop}{X:QU prog w K}
abbrev B4 (X:QU prog w K)(h:M4)(v:D')(k:K):Prop:=∃b,v=NQ b/\X.knd.is h k b
structure ZN (X:QU prog w K)(h:M4)(S:A')(keys:List K)(led:Bool):Prop where
 ex:∃o es ep t ks,RR X h S o es ep t ks/\(∀k,k∈ks↔k∈keys)/\t.led=led
theorem B5 {led:Bool}(hh:A.in1.handled=none)(hr:X.knd.room A.in1)(hI:I≠l)(hSI:S≠I)(hSl:S≠l)(p:Nd (B4 X h0) items.toList keys)(hl:keys.length<70):
  ∀(d i:Nat) (s:J'),items.size-i=d->i<=items.size->(s.heap.IsListIter I l i/\s.heap.IsList l items)->(∀b o,b≠S->b≠I->h0.get? b=some o->s.heap.get? b=some o)->(∀b o,h0.get? b=some o->b≠S/\b≠I)->
   ZN X s.heap S (keys.take i) led->
   (∀h' tk,(∀b o,b≠S->b≠I->s.heap.get? b=some o->h'.get? b=some o)->ZN X h' S keys led->R (.ok (.ret .none)) { s with heap:=h',toks:=tk })->
   codeAny (M8 prog w) A (.builtin "set.update.loop" ⟨[.ref S,.ref I],[]⟩) R s:=by
 have W:=ac8 (prog:=prog) (w:=w) hh I l (N1 hI) items;have kl:items.size=keys.length:=by rw[<-Pe];exact p.length
 intro d
 induction d with
 | zero=>
  intro i s hd hi st kp nw F h;obtain rfl:i=items.size:=by lia
  refine SB adU ?_;rw[VI abN _];show M3 _ A.in1 (pyNext (.ref I) >>= _) _ _ s;refine MW (W.done s _ _ st λh' tk k1=>?_);show M3 _ A.in1 (ret T7) _ _ _;have up:∀b o,b≠I->s.heap.get? b=some o->h'.get? b=some o:=λb o hb e=>k1 b o (by simpa using hb) e;refine M1 (h h' tk (λb o _ hb e=>up b o hb e) ?_);obtain⟨o,es,ep,t,ks,S1,m,ld⟩:=F;rw[kl,Rf] at m;refine⟨o,es,ep,t,ks,⟨up S o hSI S1.ob,S1.ex,S1.dt,S1.full,S1.NH,S1.pl,aX (λ_ _ z=>lZ z λb u hc q=>?_) S1.el,S1.nd⟩,m,ld⟩;refine up b u ?_ q;rintro rfl;obtain⟨⟨oi,ei,ci,_⟩,_⟩:=st;rw[ei] at q;cases q;rw[ci] at hc;injection hc with hc
  exact Nc hc (by decide)
 | succ d ih=>
  intro i s hd hi st kp nw F h;have N9:i<items.size:=by lia
  refine SB adU ?_;rw[VI abN _];show M3 _ A.in1 (pyNext (.ref I) >>= _) _ _ s;refine MW (W.item i s _ _ N9 st λv h1 tk hv st1 k1=>?_);have up:∀b o,b≠I->s.heap.get? b=some o->h1.get? b=some o:=λb o hb e=>k1 b o (by simpa using hb) e;obtain⟨k,hk,b,rfl,hb⟩:=cy (i:=i) (a:=v) p (by rw[S7];exact hv);have hb1:X.knd.is h1 k b:=X.keep hb λb' o' _ q=>up b' o' (nw b' o' q).2 (kp b' o' (nw b' o' q).1 (nw b' o' q).2 q);obtain⟨o,es,ep,t,ks,S1,m,ld⟩:=F;have S2:RR X h1 S o es ep t ks:=⟨up S o hSI S1.ob,S1.ex,S1.dt,S1.full,S1.NH,S1.pl,aX (λ_ _ z=>lZ z λb' u hc q=>up b' u (by
   rintro rfl;obtain⟨⟨oi,ei,ci,_⟩,_⟩:=st;rw[ei] at q;cases q;rw[ci] at hc;injection hc with hc
   exact Nc hc (by decide)) q) S1.el,S1.nd⟩
  show M3 _ A.in1 (holding [NQ b] (setAdd S (.ref b)) >>= _) _ _ _;refine MW (PN ?_);unfold setAdd;refine PN (MW (X.knd.pyHash hr hb1 ?_));have NH:ks.length<70:=by
   have:ks.length<=(keys.take i).length:=by
    have key:∀(a c:List K),a.Nodup->(∀x∈a,x∈c)->a.length<=c.length:=by
     intro a
     induction a with
     | nil=>intro c _ _;exact Ow _
     | cons x a ih'=>
      intro c nd hs;rw[QE] at nd;have hx:=hs x Nu;have:=ih' (c.erase x) nd.2 λy hy=>(aci (by rintro rfl;exact nd.1 hy)).mpr (hs y (NP _ hy));rw[ab2 hx] at this;have hp:0<c.length:=YZ hx;simp only[OB];lia
    exact key ks _ S1.nd λx hx=>(m x).mp hx
   rw[Qb] at this;lia
  refine FO (s:={ s with heap:=h1,toks:=tk+X.knd.draws k }) S2 hr hb1 NH λh2 f ⟨k2,o2,Qk,Qx,t2,Qq,S3,ld2,q1,q2⟩=>?_;refine M1 ⟨Zn abN _,ih (i+1) _ (by lia) (by lia) ?_ (λb' o' z1 z2 q=>k2 b' o' z1 (up b' o' z2 (kp b' o' z1 z2 q))) nw ⟨o2,Qk,Qx,t2,Qq,S3,λx=>?_,ld2.trans ld⟩ λh3 tk3 k3 F3=>?_⟩
  .obtain⟨⟨oi,ei,ci⟩,ol,el,cl⟩:=st1;exact⟨⟨oi,k2 I oi (N1 hSI) ei,ci⟩,ol,k2 l ol (N1 hSl) el,cl⟩
  .rw[Ta,hk,Ov];simp only[Xg,Pl]
   by_cases z:k∈ks
   .rw[q1 z,m x];constructor
    .exact .inl
    .rintro(y|rfl)
     .exact y
     .exact(m _).mp z
   .rw[(q2 z).mem_iff,NG,m x];exact or_comm
  .exact h h3 tk3 (λb' o' z1 z2 q=>k3 b' o' z1 z2 (k2 b' o' z1 (up b' o' z2 q))) F3
theorem zX {led:Bool}(e:h.get? S=some { cls:=.type "set",dict:=none,data:=.set #[] 0 (.fresh 0 0 led) }):ZN X h S [] led:=
 ⟨_,#[],0,.fresh 0 0 led,[],⟨e,⟨rfl,rfl,rfl⟩,rfl,⟨⟨.inl rfl,UM,λj hj=>(Pf hj).elim,rfl⟩,rfl,λx hx=>(Pf hx).elim⟩,(by show 0*5<7*3;decide),rfl,.nil,VR⟩,λ_=>Iff.rfl,rfl⟩
abbrev bK (led:Bool):G':={ cls:=.type "set",dict:=none,data:=.set #[] 0 (.fresh 0 0 led) }
abbrev bP (w:M7):Bool:=!(w.params.followText "set-order")
theorem Eo (h:Q₁ (.ref s.heap.objs.size) { s with heap:=s.heap.push (bK (bP w)) }):
  codeAny (M8 prog w) A (.call (.builtin "set.__new__") ⟨[.type "set",x],[]⟩) (wants Q₁ E) s:=by
 refine codeAny_of_tree (MW (wpAny_of_eq (PySem.F.newCall_set_1 x) (M1 ⟨Zn aex _,SB PySem.F.entry_set_new ?_⟩)));rw[VI aex _];have c1:=sub_set_self;unfold P4.«set.__new__» P4.Frozenset.newClass;obtain⟨hp,g,d,tk,os⟩:=s;dsimp only at h ⊢;wp_walk;refine Zb (M1 ?_);dsimp only;simp only[newObj];exact MW (wpAny_alloc (M1 (M1 h)))
theorem zY (h:M3 (M8 prog w) A.in1.in1 (P4.«set.__init__» ⟨[.ref s.heap.objs.size,x],[]⟩) (λfin s'=>∃r,fin=.done (.ret r)/\r=.none/\Q (.ref s.heap.objs.size) s') E { s with heap:=s.heap.push (bK (bP w)) }):
  M3 (M8 prog w) A (call (.type "set") [x]) Q E s:=by
 have T:=PySem.F.called_set;obtain⟨c,tl,agm⟩:=T.mro;have c1:=T.made;have c2:=T.sub;have c3:=T.notType;have c4:=T.canCreate;have c5:=PySem.F.typeCall_set_1 x;refine Zr (codeAny_of_tree (M1 ⟨acn _ (by decide +kernel),SB PySem.F.entry_type_call ?_⟩));rw[Nv.under_plain (weight_type_call_type "set" [x] []) rfl]
 repeat (any_goals (first|assumption|wp_step))
 refine T5 (Eo (x:=x) (E:=E) (Q₁:=λobj Nw=>obj=.ref s.heap.objs.size/\Nw={ s with heap:=s.heap.push (bK (bP w)) }) ⟨rfl,rfl⟩) λr Nw q=>?_
 match r,q with
 | .error e,q=>exact q
 | .ok (.ret obj),⟨e1,e2⟩=>
  subst e1 e2;have ty:Xp { s with heap:=s.heap.push (bK (bP w)) } (.ref s.heap.objs.size) "set":=⟨_,OH _ rfl,rfl⟩
  have c6:=T.init.lookup;have c7:=T.init.bind (.ref s.heap.objs.size)
  repeat (any_goals (first|assumption|wp_step))
  refine T5 (ach (R:=wants (λr NY=>r=.none/\Q (.ref s.heap.objs.size) NY) E) T.init.plain PySem.F.entry_set_init (check_set_init_1 ty (RO h (λfin s' ⟨r,e,z⟩=>?_) λ_ _ z=>z))) λafG NY ZO=>?_
  .subst e;exact z
  .match afG,ZO with
   | .error e,ZO=>exact ZO
   | .ok (.ret r),⟨e3,ZO⟩=>
    subst e3
    repeat (any_goals (first|assumption|wp_step))
end
section
variable {prog:Ng}{w:M7}{K:Type} [DecidableEq K] {A:Nv}{E:D'->J'->Prop}{X:QU prog w K}{s:J'}
theorem vZ (hh:A.handled=none)(hr:X.knd.room A.in1.in1.in1)(hl:s.heap.IsList l items)(p:Nd (B4 X s.heap) items.toList keys)(hn:keys.length<70)(h:∀h' tk,(∀b o,s.heap.get? b=some o->h'.get? b=some o)->ZN X h' s.heap.objs.size keys (bP w)->Q (.ref s.heap.objs.size) { s with heap:=h',toks:=tk }):M3 (M8 prog w) A (call (.type "set") [.ref l]) Q E s:=by
 refine zY ?_;generalize ZM:bP w=led at h ⊢;obtain⟨⟨agn,afj,age,afa⟩,Ut,Qp,nl,hdl⟩:=hl;simp only at Qp hdl;subst Qp hdl;have lt:l<s.heap.objs.size:=NC Ut;have hS:(s.heap.push (bK led)).get? s.heap.objs.size=some (bK led):=OH _ rfl;have hT:Xp { s with heap:=s.heap.push (bK led) } (.ref s.heap.objs.size) "set":=⟨_,hS,rfl⟩
 have afH:(s.heap.push (bK led)).get? l=some { cls:=.type "list",dict:=afj,data:=.seq items nl,slots:=afa }:=NK _ Ut;have n1:=PySem.F.sub_list_set;have n2:=PySem.F.sub_list_frozenset;have n3:(QS "list"==QS "dict")=false:=by decide
 have Q7:(s.heap.push (bK led)).IsList l items:=⟨_,afH,rfl,nl,rfl⟩
 unfold P4.«set.__init__» noKeywords aab;generalize hPI:pyIter=PI;wp_walk;subst hPI;refine aaw Q7 (MW (acO ?_));have Rp:(s.heap.push (bK led)).objs.size=s.heap.objs.size+1:=Zh ..;refine B5 (X:=X) (h0:=s.heap) (S:=s.heap.objs.size) (I:=(s.heap.push (bK led)).objs.size) (l:=l) (items:=items) (keys:=keys) ?_ ?_ (by rw[Rp];exact Te (Y7 lt)) (by rw[Rp];exact N0 (Xk _)) (Te lt) p hn (items.size-0) 0 _ rfl (Ow _)
  ⟨⟨_,OH _ rfl,rfl,rfl⟩,Q7.push _⟩ (λb o _ _ e=>NK _ (NK _ e)) (λb o e=>⟨N0 (NC e),by rw[Rp];exact N0 (Y7 (NC e))⟩)
  (zX (led:=led) (NK _ hS)) λh' tk k1 F=>?_
 .simp[hh]
 .exact hr
 .refine M1 ?_;refine M1 ⟨_,rfl,rfl,h h' tk (λb o e=>?_) F⟩;exact k1 b o (N0 (NC e)) (by rw[Rp];exact N0 (Y7 (NC e))) (NK _ (NK _ e))
end
section
theorem uv (n:Nat)(tp:s.heap.IsTuple a items)(hv:∀v∈items.toList,∀(Q:Bool->J'->Prop),Q true s->M3 (M8 prog w) A (hashByValue n v) Q E s)(h:Q true s):
  M3 (M8 prog w) A (hashByValue (n+1) (.ref a)) Q E s:=by
 have hT:=fV tp;obtain⟨o,ho,Qp,n',hd⟩:=tp;unfold hashByValue;refine MW (VQ hT Y9.lookup ?_);refine MW (aaM ho hd ?_);refine MW ?_;show M3 _ _ (forIn items _ _) _ _ s;rw[<-Y4];refine Re _ (λrest r s'=>r.1=none/\s'=s/\∀v∈rest,v∈items.toList) _ ?turn ?fin _ _ ⟨rfl,rfl,λv hv=>hv⟩
 case turn=>
  rintro v rest ⟨r1,r2⟩ s' ⟨hr,e,all⟩;simp only at hr;subst e hr;refine MW (hv v (all v Nu) _ ?_);simp only[Rx,OI,if_false];exact M1 ⟨rfl,rfl,λu hu=>all u (NP _ hu)⟩
 case fin=>
  rintro⟨r1,r2⟩ s' ⟨hr,e,_⟩;simp only at hr;subst e hr;exact M1 h
theorem uw (n:Nat)(tp:s.heap.IsTuple a items)(hv:∀v∈items.toList,∀(Q:Bool->J'->Prop),Q false s->M3 (M8 prog w) A (ofAClassStatement n v) Q E s)(h:Q false s):
  M3 (M8 prog w) A (ofAClassStatement (n+1) (.ref a)) Q E s:=by
 have hT:=fV tp;obtain⟨o,ho,Qp,n',hd⟩:=tp;unfold ofAClassStatement;refine MW (VY hT ?_);dsimp only;rw[M6 (by decide)];refine MW (M1 ?_);simp only[Rx,OI,if_false];refine MW (aaM ho hd ?_);dsimp only;refine MW ?_;rw[<-Y4];refine Re _ (λrest r s'=>r.1=none/\s'=s/\∀v∈rest,v∈items.toList) _ ?turn ?fin _ _ ⟨rfl,rfl,λv hv=>hv⟩
 case turn=>
  rintro v rest ⟨r1,r2⟩ s' ⟨hr,e,all⟩;simp only at hr;subst e hr;refine MW (hv v (all v Nu) _ ?_);simp only[OI,if_false];exact M1 ⟨rfl,rfl,λu hu=>all u (NP _ hu)⟩
 case fin=>
  rintro⟨r1,r2⟩ s' ⟨hr,e,_⟩;simp only at hr;subst e hr;exact M1 h
theorem B6 (n:Nat)(x:bT s.heap ks a)(h:Q true s):M3 (M8 prog w) A (hashByValue (n+1) (.ref a)) Q E s:=by
 obtain⟨i,t,r⟩:=x;refine uv n t (λv hv Q' q=>?_) h;obtain⟨k,_,t',e⟩:=fA r v hv;subst e;cases n <;> exact M1 q
theorem B8 (n:Nat)(x:bT s.heap ks a)(h:Q false s):M3 (M8 prog w) A (ofAClassStatement (n+1) (.ref a)) Q E s:=by
 obtain⟨i,t,r⟩:=x;refine uw n t (λv hv Q' q=>?_) h;obtain⟨k,_,t',e⟩:=fA r v hv;subst e;cases n <;> exact M1 q
theorem zZ (n:Nat)(x:dD s.heap NZ a)(h:Q true s):M3 (M8 prog w) A (hashByValue (n+2) (.ref a)) Q E s:=by
 obtain⟨i,t,r⟩:=x;refine uv (n+1) t (λv hv Q' q=>?_) h;obtain⟨ks,_,b,e,g⟩:=fA r v hv;subst e;exact B6 n g q
theorem Aa (n:Nat)(x:dD s.heap NZ a)(h:Q false s):M3 (M8 prog w) A (ofAClassStatement (n+2) (.ref a)) Q E s:=by
 obtain⟨i,t,r⟩:=x;refine uw (n+1) t (λv hv Q' q=>?_) h;obtain⟨ks,_,b,e,g⟩:=fA r v hv;subst e;exact B8 n g q
theorem Ca (x:bT h ks a)(k:∀b o,o.cls=.type "tuple"->h.get? b=some o->h'.get? b=some o):bT h' ks a:=by
 obtain⟨i,⟨o,e,c,n,d⟩,r⟩:=x;exact⟨i,⟨o,k _ _ c e,c,n,d⟩,r⟩
theorem Ab (x:dD h NZ a)(k:∀b o,o.cls=.type "tuple"->h.get? b=some o->h'.get? b=some o):dD h' NZ a:=by
 obtain⟨i,⟨o,e,c,n,d⟩,r⟩:=x;exact⟨i,⟨o,k _ _ c e,c,n,d⟩,aX (λ_ _ ⟨b,e,q⟩=>⟨b,e,Ca q k⟩) r⟩
end
def Jp (prog)(w):QU prog w (List (List Int)) where
 knd:=iu prog w
 ZD:=λhk h=>zZ 6 hk h
 XI:=λhk h=>Aa 6 hk h
 keep:=λhk k=>Ab hk k
theorem eX:Slot "set_iterator" "__next__" "set_iterator.__next__":=
 .of (owner:="set_iterator") (n:="__next__") (by rw[Ze,Y1];kernel_rfl) (by decide +kernel) (by decide +kernel) (by decide +kernel)
  (by first|exact .inl (by decide +kernel)|exact .inr (by decide +kernel)) (by rw[Zj];kernel_rfl)
theorem mO:entryFor table "set_iterator.__next__"=some P4.«set_iterator.__next__»:=entryFor_of_tree (by kernel_rfl)
theorem oj (a):argsOk "set_iterator.__next__" ⟨[a],[]⟩:=by unfold argsOk;kernel_rfl
theorem iR:Slot "set_iterator" "__iter__" "set_iterator.__iter__":=
 .of (owner:="set_iterator") (n:="__iter__") (by rw[Ze,Y1];kernel_rfl) (by decide +kernel) (by decide +kernel) (by decide +kernel)
  (by first|exact .inl (by decide +kernel)|exact .inr (by decide +kernel)) (by rw[Zj];kernel_rfl)
theorem pO:entryFor table "set.__iter__"=some P4.«frozenset.__iter__»:=
 acR (id':="frozenset.__iter__") (by kernel_rfl) rfl (by decide +kernel) (by kernel_rfl)
theorem oo {α:Type}:∀{l:List α}{i:Nat}(h:i<l.length),(l[i]::l.eraseIdx i).Perm l
 | [],_,h=>by simp at h
 | a::l,0,_=>Zi _
 | a::l,i+1,h=>by
  have h':i<l.length:=by simpa using h
  have ih:=oo h';show(l[i]::a::l.eraseIdx i).Perm (a::l);exact(ae3 a l[i] _).trans (ih.cons a)
theorem wM {α:Type}(next:Nat->Nat):∀(fuel k:Nat) (left:List α) (out:Array α),fuel=left.length->(ac3 next fuel k left out).toList.Perm (out.toList++left)
 | 0,k,left,out,h=>by
  have:left=[]:=S0.mp h.symm;subst this;unfold ac3;simp
 | fuel+1,k,left,out,h=>by
  have hp:0<left.length:=by lia
  have N9:next k % left.length<left.length:=Nat.mod_lt _ hp;unfold ac3;rw[Ou N9];dsimp only;refine(wM next fuel (k+1) (left.eraseIdx (next k % left.length)) _ (by rw[List.length_eraseIdx_of_lt N9];lia)).trans ?_;rw[Array.toList_push,VM];refine List.Perm.append_left _ ?_;exact oo N9
theorem qQ {α:Type}(next:Nat->Nat)(xs:Array α):(pickOrder next xs).toList.Perm xs.toList:=by
 have:=wM next xs.size 0 xs.toList #[] (by simp);simpa [pickOrder] using this
abbrev cR (w:M7):Bool:=w.params.followText "set-order"
def wo (w:M7)(a:A')(ep:Nat)(es:Array Sa.OO):Array Sa.OO:=if cR w=true then pickOrder (w.params.setOrder a ep) es else es
theorem pP (w)(a)(ep:Nat)(es):(wo w a ep es).toList.Perm es.toList:=by
 unfold wo
 split
 .exact qQ _ _
 .exact Zi _
def at_ (w:M7)(t:Om)(i:Nat):Nat:=if cR w=true then 0 else match i with
 | 0=>0
 | i+1=>t.place.getD i 0+1
structure XS (h:M4)(it a:A')(slot i n ep:Nat):Prop where
 ex:∃o,h.get? it=some o/\o.cls=.type "set_iterator"/\o.data=.fields #[.int slot 0,.int i 0,.ref a,.int n 0,.int ep 0]
structure Wk (w:M7)(h:M4)(a:A')(es:Array Sa.OO)(ep:Nat)(t:Om):Prop where
 ob:∃o,h.get? a=some o/\o.ExactSet/\o.data=.set es ep t
 rise:Sa.SH t.place
 size:t.place.size=es.size
 fits:t.fits es.size=true
 pl:t.plain=true
 led:t.led=bP w
theorem ux (r:Sa.SH t.place)(b:cR w=false):∀i,i<=t.place.size->below t.place (at_ w t i)=i
 | 0,_=>by
  obtain⟨h1,h2,h3⟩:=Sa.Tg r (at_ w t 0);have e:at_ w t 0=0:=by unfold at_;rw[b];rfl
  rw[e] at h2 ⊢;rcases aco (below t.place 0) with z|z
  .exact z
  .have:=(Sa.Tg r 0).2.1 0 z (by have:=(Sa.Tg r 0).1;lia);lia
 | i+1,hi=>by
  have OW:i<t.place.size:=by lia
  have e:at_ w t (i+1)=t.place[i]+1:=by
   unfold at_;rw[b];simp[Ri,OW]
  rw[e];obtain⟨h1,h2,h3⟩:=Sa.Tg r (t.place[i]+1);rcases Xj (below t.place (t.place[i]+1)) (i+1) with z|z|z
  .have:=h3 i (by lia) OW;lia
  .exact z
  .have hz:i+1<t.place.size:=by lia
   have a1:=h2 (i+1) z hz;have a2:=Sa.Zw r (show i<i+1 by lia) hz;lia
section
theorem ou (a)(slot given ep:Nat):setNext a slot given ep=(do
  let (es,abn,t) <-setState a
  if <-setsByText then
   if abn != ep then unsupported "set_iterator.__next__:elements-changed"
   return ((<-setWalk a)[given]?).map λe=>(e.2,slot)
  if (!t.plain&&es.size > 1:Bool) then unsupported "set_iterator.__next__:the-table-is-plain-no-more"
  (do if !t.led&&!es.isEmpty then unsupported "set:maker-not-led":PY Unit)
  let i:=Om.below t.place slot
  return match es[i]?,t.place[i]? with
   | some (_,x),some j=>some (x,j+1)
   | _,_=>none):=rfl
theorem jX (a):setWalk a=(do
  let (es,abn,t) <-setState a
  if <-setsByText then return pickOrder ((<-ask).params.setOrder a abn) es
  if (!t.plain&&es.size > 1:Bool) then return (<-drawOrder es.size es.toList).toArray
  (do if !t.led&&es.size > 1 then unsupported "set:maker-not-led":PY Unit)
  return es):=rfl
theorem dW (h:Q (cR w) s):M3 (M8 prog w) A setsByText Q E s:=by
 unfold setsByText;exact MW (Zb (M1 h))
theorem Ac (W:Wk w s.heap a es ep t)(he:(wo w a ep es)[i]?=some e)(h:Q (some (e.2,at_ w t (i+1))) s):M3 (M8 prog w) A (setNext a (at_ w t i) i ep) Q E s:=by
 obtain⟨o,ho,hx,hd⟩:=W.ob;rw[ou];refine MW (P0 ho hd W.fits (MW (dW ?_)));dsimp only;cases b:cR w with
 | true=>
  simp only[if_true,bne_self_eq_false,OI,if_false];rw[jX];refine MW (MW (P0 ho hd W.fits (MW (dW ?_))));simp only[b,if_true];refine MW (Zb (M1 ?_));refine M1 ?_;have Up:(pickOrder (w.params.setOrder a ep) es)[i]?=some e:=by unfold wo at he;rw[b] at he;exact he
  show Q (Option.map _ (pickOrder (w.params.setOrder a ep) es)[i]?) s;rw[Up];have e1:at_ w t i=at_ w t (i+1):=by unfold at_;rw[b];rfl
  show Q (some (e.2,at_ w t i)) s;rw[e1];exact h
 | false=>
  have Up:es[i]?=some e:=by unfold wo at he;rw[b] at he;exact he
  have hi:i<es.size:=(TU.mp Up).1;have hip:i<t.place.size:=by rw[W.size];exact hi
  have ld:t.led=true:=by rw[W.led];show(!cR w)=true;rw[b];rfl
  simp only[OI,if_false,W.pl,Rx,Zg,ld];rw[ux W.rise b i (by lia)];refine M1 ?_;rw[Up,RI hip];have e1:at_ w t (i+1)=t.place[i]+1:=by unfold at_;rw[b];simp[Ri,hip]
  rw[e1] at h;exact h
theorem Ad (W:Wk w s.heap a es ep t)(h:Q none s):M3 (M8 prog w) A (setNext a (at_ w t es.size) es.size ep) Q E s:=by
 obtain⟨o,ho,hx,hd⟩:=W.ob;rw[ou];refine MW (P0 ho hd W.fits (MW (dW ?_)));dsimp only;cases b:cR w with
 | true=>
  simp only[if_true,bne_self_eq_false,OI,if_false];rw[jX];refine MW (MW (P0 ho hd W.fits (MW (dW ?_))));simp only[b,if_true];refine MW (Zb (M1 ?_));refine M1 ?_;have Up:(pickOrder (w.params.setOrder a ep) es)[es.size]?=none:=by
   refine Y0 ?_;rw[<-Pe,(qQ _ _).length_eq,Pe];exact Nl _
  show Q (Option.map _ (pickOrder (w.params.setOrder a ep) es)[es.size]?) s;rw[Up];exact h
 | false=>
  have ld:t.led=true:=by rw[W.led];show(!cR w)=true;rw[b];rfl
  simp only[OI,if_false,W.pl,Rx,Zg,ld];rw[ux W.rise b es.size (by rw[W.size];exact Nl _)];refine M1 ?_;rw[Y0 (Nl _)];exact h
end
section
variable {s:J'}{it:A'}{a:A'}{ep:Nat}{i:Nat} in
theorem fD {slot n:Nat}(I:XS s.heap it a slot i n ep):s.TypeIs (.ref it) "set_iterator":=let ⟨o,e,c,_⟩:=I.ex;⟨o,e,c⟩
theorem yi (W:Wk w s.heap a es ep t)(I:XS s.heap it a (at_ w t i) i es.size ep)(he:(wo w a ep es)[i]?=some e)(h:∀h',XS h' it a (at_ w t (i+1)) (i+1) es.size ep->R6 it s.heap h'->Q (some e.2) { s with heap:=h' }):M3 (M8 prog w) A (pyNext (.ref it)) Q E s:=by
 obtain⟨o,ho,hx,hd⟩:=W.ob;obtain⟨oi,ei,ci,di⟩:=I.ex;unfold pyNext;refine MW (acY (YX (name:=R7 "__next__") (fD I) eX (RK eX (fD I) mO ?_ (oj _))));unfold P4.«set_iterator.__next__»;refine MW (M1 ?_);refine MW (wpAny_fieldsOf ei di ?_);dsimp only;refine MW (acl ho hd W.fits ?_);rw[M0 (by simp)];refine MW ?_;show M3 _ _ (setNext a (at_ w t i) i ep) _ _ _;refine Ac W he ?_;dsimp only;have e1:G'.isFreed oi=G'.isFreed oi:=rfl;refine MW (acS ei di (by simp) ?_);have ei1:=aak (acZ (·.setIfInBounds 0 (rawInt ((at_ w t (i+1):Nat):Int)))) ei (aey (aau di _));have di1:=aau di (·.setIfInBounds 0 (rawInt ((at_ w t (i+1):Nat):Int)));refine MW (acS (s:={ s with heap:=s.heap.update it (acZ (·.setIfInBounds 0 (rawInt ((at_ w t (i+1):Nat):Int)))) }) ei1 di1 (by simp) ?_);have ei2:=aak (acZ (·.setIfInBounds 1 (rawInt ((i:Int)+1)))) ei1 (aey (aau di1 _));have di2:=aau di1 (·.setIfInBounds 1 (rawInt ((i:Int)+1)));refine M1 ⟨_,rfl,M1 (h _ ⟨_,ei2,?_,?_⟩ ((Xa ..).trans (Xa ..)))⟩
 .rw[G'.cls_mapFields,G'.cls_mapFields];exact ci
 .rw[di2];simp[rawInt]
theorem Ae (hh:A.handled=none)(W:Wk w s.heap a es ep t)(I:XS s.heap it a (at_ w t es.size) es.size es.size ep)(h:∀h',M4.ExtBut it s.heap h'->Q none { s with heap:=h' }):M3 (M8 prog w) A (pyNext (.ref it)) Q E s:=by
 obtain⟨o,ho,hx,hd⟩:=W.ob;obtain⟨oi,ei,ci,di⟩:=I.ex;unfold pyNext;refine MW (acY (YX (name:=R7 "__next__") (fD I) eX (RK eX (fD I) mO ?_ (oj _))));unfold P4.«set_iterator.__next__»;refine MW (M1 ?_);refine MW (wpAny_fieldsOf ei di ?_);dsimp only;refine MW (acl ho hd W.fits ?_);rw[M0 (by simp)];refine MW ?_;show M3 _ _ (setNext a (at_ w t es.size) es.size ep) _ _ _;refine Ad W ?_;dsimp only;refine MW (acS ei di (by simp) (MW ?_));simp only[newExc,newTuple];refine MW (TX (MW (m:=firstArgMember _ _) (wpAny_of_eq (a:=T7) (by first|rfl|(simp only[firstArgMember];rfl)) (TX ?_ (by size_fits)))) (by size_fits));simp only[raiseNew];refine MW (wpAny_handled ?_);rw[show A.in1.handled=none from hh];refine MW (M1 (wpAny_throw ?_));refine MW (aaC (T:="StopIteration") (b:=true) ⟨_,OH _ rfl,rfl⟩ isSubtype_stop ?_);rw[M6 rfl];exact M1 (h _ (((Xa ..).extBut.push _).push _))
theorem Af (W:Wk w s.heap a es ep t)(h:Q (.ref s.heap.objs.size) { s with heap:=s.heap.push { cls:=.type "set_iterator",data:=.fields #[.int 0 0,.int 0 0,.ref a,.int es.size 0,.int ep 0] } }):M3 (M8 prog w) A (pyIter (.ref a)) Q E s:=by
 obtain⟨o,ho,hx,hd⟩:=W.ob;have hT:s.TypeIs (.ref a) "set":=⟨o,ho,hx.1⟩
 refine wpAny_pyIter_slot hT aez (RK aez hT pO ?_ (PySem.F.args_set_iter_1 _));unfold P4.«frozenset.__iter__» P4.Frozenset.slot0 slotArgs;simp only[List.isEmpty_nil,Rx,OI,↓reduceIte,bind_assoc,T2,bne_self_eq_false];unfold ab3 P4.Frozenset.sizeOf;refine MW (M1 ?_)
 try dsimp only
 refine MW (M1 ?_);refine MW (MW (acl ho hd W.fits (M1 ?_)));unfold setDrawn;refine MW (MW (P0 ho hd W.fits (MW (dW (M1 ?_)))));have dr:(!cR w&&(!t.plain&&decide (es.size > 1)))=false:=by rw[W.pl];simp
 show M3 _ _ (if (!cR w&&(!t.plain&&decide (es.size > 1)))=true then _ else _) _ _ _;rw[dr,M0 OZ];refine MW (M1 ?_);refine MW (wpAny_setEpoch_of ho hd W.fits ?_);simp only[newFields];refine MW (TX ?_ (by size_fits));exact M1 ⟨_,rfl,"set_iterator",_,⟨_,OH _ rfl,rfl⟩,eX.lookup,h⟩
end
theorem ni:entryFor table "set_iterator.__iter__"=some P4.«dict_keyiterator.__iter__»:=
 acR (id':="dict_keyiterator.__iter__") (by kernel_rfl) rfl (by decide +kernel) (by kernel_rfl)
theorem ow (a):argsOk "set_iterator.__iter__" ⟨[a],[]⟩:=by unfold argsOk;kernel_rfl
section
theorem Cb (hT:s.TypeIs (.ref a) "set")(h:Q false s):M3 (M8 prog w) A (ad1 (.ref a)) Q E s:=by
 unfold ad1;refine MW (VQ hT PySem.F.slot_set_len.lookup ?_);generalize e:("set.__len__":String)=id;wp_delta;rw[show splitId id=some ("set","__len__") from by subst e;decide +kernel];subst e;refine MW (aaC (T:="set") (b:=true) hT (by rw[Zj];kernel_rfl) ?_);refine wpAny_ite_split (λz=>Nc z (by decide)) λ_=>wpAny_ite_split (λ_=>MW (VY hT (M1 h))) λz=>Nc (by decide +kernel) z
theorem Wk.keep (W:Wk w h a es ep t)(k:∀o,h.get? a=some o->h'.get? a=some o):Wk w h' a es ep t:=
 let ⟨o,e,r⟩:=W.ob;⟨⟨o,k o e,r⟩,W.rise,W.size,W.fits,W.pl,W.led⟩
theorem wN:(wo w a ep es).size=es.size:=by rw[<-Pe,(pP w a ep es).length_eq,Pe]
theorem Ag (hh:A.handled=none)(Ol:a≠it):Walks prog w A it [it,a] [it] es.size (λi v=>∃e,(wo w a ep es)[i]?=some e/\v=e.2) (λi h=>XS h it a (at_ w t i) i es.size ep/\Wk w h a es ep t) where
 sub:=λb hb=>by simp at hb;simp[hb]
 frame:=λ_ _ _ st hk=>⟨⟨let ⟨o,e,r⟩:=st.1.ex;⟨o,hk it (by simp) o e,r⟩⟩,st.2.keep λo e=>hk a (by simp) o e⟩
 item:=λi s Q E hi st hQ=>by
  have OW:i<(wo w a ep es).size:=by rw[wN];exact hi
  refine yi st.2 st.1 (RI OW) λh' I' sb=>?_;exact hQ _ h' s.toks ⟨_,RI OW,rfl⟩ ⟨I',st.2.keep λo e=>(sb.2 a Ol).trans e⟩ λb o hb e=>(sb.2 b (by simpa using hb)).trans e
 done:=λs Q E st hQ=>Ae hh st.2 st.1 λh' eb=>hQ h' s.toks λb o hb e=>eb b o (by simpa using hb) e
 self:=λi s Q E st hQ=>by
  refine wpAny_pyIter_slot (fD st.1) iR (RK iR (fD st.1) ni ?_ (ow _));exact M1 ⟨_,rfl,"set_iterator",_,fD st.1,eX.lookup,hQ⟩
theorem Ep:at_ w t 0=0:=by unfold at_;split <;> rfl
theorem Er:W.KdlSrc prog w "set" a a es.size (λi v=>∃e,(wo w a ep es)[i]?=some e/\v=e.2) (λh=>Wk w h a es ep t) where
 type:=λ_ W=>let ⟨o,e,x,_⟩:=W.ob;⟨o,e,x.1⟩
 there:=λ_ W=>let ⟨o,e,_⟩:=W.ob;⟨NC e,NC e⟩
 keep:=λ_ _ W k=>W.keep λo e=>k a (.inl rfl) o e
 notList:=by decide
 notTuple:=by decide
 hint:=λ_ _ _ _ W hq=>let ⟨o,e,x,_⟩:=W.ob;Cb ⟨o,e,x.1⟩ hq
 iter:=λA s hh W=>by
  obtain⟨o,e,_⟩:=W.ob;refine⟨_,_,λE Q hq=>Af W hq,Ag hh (N0 (NC e)),⟨⟨_,OH _ rfl,rfl,by rw[Ep];rfl⟩⟩,W.keep λo e=>NK _ e⟩
end
section
theorem Cc (h:ItemsOf (λi v=>∃e,(wo w a ep es)[i]?=some e/\v=e.2) acc es.size):acc.toList.Perm (es.toList.map (·.2)):=by
 have e:acc.toList=(wo w a ep es).toList.map (·.2):=by
  refine List.ext_getElem? λi=>?_;rw[Pa,S7,S7]
  by_cases hi:i<es.size
  .have h1:i<acc.size:=by rw[h.1];exact hi
   obtain⟨x,e1,e2⟩:=h.2 i acc[i] (RI h1);rw[RI h1,e1,e2];rfl
  .rw[Y0 (by rw[h.1];lia),Y0 (by rw[wN];lia)];rfl
 rw[e];exact(pP w a ep es).map _
theorem v8 (hh:A.handled=none)(W:Wk w s.heap a es ep t)(hn:es.size<64)(h:∀h' tk vs,(∀b o,s.heap.get? b=some o->h'.get? b=some o)->s.heap.objs.size<=h'.objs.size->vs.Perm (es.toList.map (·.2))->Q vs { s with heap:=h',toks:=tk }):M3 (M8 prog w) A (collect (.ref a)) Q E s:=by
 obtain⟨o,ho,hx,hd⟩:=id W.ob;have ne:s.heap.objs.size≠a:=Te (NC ho);have fin:∀h' tk Pu c',(∀b o,b≠s.heap.objs.size->(s.heap.push (NX "list" #[] 0)).get? b=some o->h'.get? b=some o)->h'.get? s.heap.objs.size=some { cls:=.type "list",dict:=none,data:=.seq Pu c',slots:=#[] }->
   ItemsOf (λi v=>∃e,(wo w a ep es)[i]?=some e/\v=e.2) Pu es.size->Q Pu.toList { s with heap:=h',toks:=tk }:=λh' tk Pu c' k1 e1 it=>
  h h' tk Pu.toList (λb o e=>k1 b o (N0 (NC e)) (NK _ e)) (UR (NC e1)) (Cc it)
 unfold collect;refine MW (acO (SB entry_proto_collect' ?_));rw[VI PySem.F.plain_proto_collect _];refine MW (Xo ?_ (Ow _));refine M1 ⟨Zn aen _,SB entry_list_iadd' ?_⟩;rw[VI aen _];refine RO (PySem.W.kdl_extend (A:=A) (s:={ s with heap:=s.heap.push (NX "list" #[] 0) }) (R:=λq s'=>∃Pu c',q=.ok (.ret (.ref s.heap.objs.size))/\s'.heap.get? s.heap.objs.size=some { cls:=.type "list",dict:=none,data:=.seq Pu c',slots:=#[] }/\Q Pu.toList s') (Er (a:=a) (es:=es) (ep:=ep) (t:=t)) hh (W.keep λo e=>NK _ e) s.heap.objs.size ne ne (.ref s.heap.objs.size) 0 (OH _ rfl)
  (λh' tk Pu c' k1 e1 it=>⟨Pu,c',rfl,e1,fin h' tk Pu c' k1 e1 it⟩) (by rw[NU];lia)) (λf s' x=>?_) λe s' ⟨_,_,z,_⟩=>by cases z
 have done:∀s',(∃Pu c',s'.heap.get? s.heap.objs.size=some { cls:=.type "list",dict:=none,data:=.seq Pu c',slots:=#[] }/\Q Pu.toList s')->M3 (M8 prog w) A (load s.heap.objs.size >>= λo=>match o.data with | .seq xs _=>pure xs.toList|_=>unsupported "internal:collect") Q E s':=λs' ⟨_,_,e,q⟩=>MW (wpAny_load e (M1 q));cases f with
 | done f=>
  obtain⟨Pu,c',e,e1,q⟩:=x;cases e;exact done s' ⟨Pu,c',e1,q⟩
 | again c=>
  refine⟨x.1,T5 x.2 λq NY ⟨Pu,c',e,e1,q⟩=>?_⟩;subst e;exact done NY ⟨Pu,c',e1,q⟩
end
def jY (w:M7)(a:A')(bs:List A'):HO:=.ext λh=>∃es ep t,Wk w h a es ep t/\es.size<70/\es.toList.map (·.2)=bs.map NQ
theorem Es (x:∃es ep t,Wk w h a es ep t/\es.size<70/\es.toList.map (·.2)=bs.map NQ):bz P w H h a (jY w a bs):=by
 refine⟨x,?_,λh1 h2 ⟨es,ep,t,W,r⟩ k=>⟨es,ep,t,W.keep λo e=>k o e,r⟩⟩;obtain⟨_,_,_,W,_⟩:=x;obtain⟨o,e,_⟩:=W.ob;exact⟨o,e⟩
def QU.only {w:M7}{K:Type}[DecidableEq K](Y:QU prog w K)(G:K->A'->Prop):QU prog w K where
 knd:={
  is:=λh x b=>Y.knd.is h x b/\G x b
  hash:=Y.knd.hash
  draws:=Y.knd.draws
  room:=Y.knd.room
  inj:=λp q=>Y.knd.inj p.1 q.1
  keeps:=λp ho hd hs=>⟨Y.knd.keeps p.1 ho hd hs,p.2⟩
  pyHash:=λhu hk h=>Y.knd.pyHash hu hk.1 h
  eqBool:=λhu hx hy h=>Y.knd.eqBool hu hx.1 hy.1 h
  quiet:=λhk h=>Y.knd.quiet hk.1 h }
 ZD:=λhk h=>Y.ZD hk.1 h
 XI:=λhk h=>Y.XI hk.1 h
 keep:=λhk k=>⟨Y.keep hk.1 k,hk.2⟩
theorem dE {K:Type}[DecidableEq K]:∀(a c:List K),a.Nodup->(∀x∈a,x∈c)->a.length<=c.length:=by
 intro a
 induction a with
 | nil=>intro c _ _;exact Ow _
 | cons x a ih'=>
  intro c nd hs;rw[QE] at nd;have hx:=hs x Nu;have:=ih' (c.erase x) nd.2 λy hy=>(aci (by rintro rfl;exact nd.1 hy)).mpr (hs y (NP _ hy));rw[ab2 hx] at this;have hp:0<c.length:=YZ hx;simp only[OB];lia
section
theorem Ah {K:Type}[DecidableEq K](k:Dk K)(Y:QU X.prog X.w K)(hr:Y.knd.room X.A.in1.in1.in1)(hc:X.calm=true)(hk:∀{aa:List (A'×G')}{σ:St}{H:Hp}{s:J'}{b:A'}{x:K},Inv X aa σ H s->k.rep X.K H (.ref b) x->Y.knd.is s.heap x b)(afI:∀{K':MZ}{H:Hp}{v:V}{x:K},k.rep K' H v x->∃b,v=.ref b):
  cK X (.type "set") (λxs H Q=>∃(y:V) (keys:List K),xs=[y]/\(kM k).rep X.K H y keys/\keys.length<70/\∀(p:A') (bs:List A') (ks:List K),H p=none->Nd (λb x=>k.rep X.K H (.ref b) x) bs ks->ks.Nodup->(∀x,x∈ks↔x∈keys)->Q (.ref p) (upd H p (jY X.w p bs))):=by
 intro aa s σ H xs us Q I r h;obtain⟨y,keys,rfl,⟨p,as,e,hp,hd⟩,hl,q⟩:=h;subst e;obtain⟨u,rfl,ru⟩:=dm r;cases ru;obtain⟨MY,rv,pl,hz⟩:=I.list hp;have kd:Nd (λv x=>∃b,v=NQ b/\k.rep X.K H (.ref b) x) MY keys:=lW (F:=aI) (G:=k.rep X.K H) (λx u kx h1 h2=>by
  obtain⟨b,rfl⟩:=afI h2;cases h1;exact⟨b,rfl,h2⟩) rv hd
 have kd':Nd (B4 (Y.only λx b=>k.rep X.K H (.ref b) x) s.heap) MY.toArray.toList keys:=aX (λ_ _ ⟨b,e,z⟩=>⟨b,e,hk I z,z⟩) kd;refine vZ (X:=Y.only λx b=>k.rep X.K H (.ref b) x) (I.ok.hd hc) hr pl.isList kd' hl λh' tk k1 F=>?_;obtain⟨o,es,ep,t,ks,S,m,ld⟩:=F;have len:es.size=ks.length:=by rw[<-Pe];exact S.el.length
 have ago:ks.length<70:=acm (dE ks keys S.nd λx hx=>(m x).mp hx) hl;have each:∀{l:List Sa.OO}{js:List K},Nd (El (Y.only λx b=>k.rep X.K H (.ref b) x) h') l js->∃bs:List A',l.map (·.2)=bs.map NQ/\Nd (λb x=>k.rep X.K H (.ref b) x) bs js:=by
  intro l js pr
  induction pr with
  | nil=>exact⟨[],rfl,.nil⟩
  | @cons e x l js h1 _ ih=>
   obtain⟨b,e1,e2,_⟩:=h1;obtain⟨bs,i1,i2⟩:=ih;exact⟨b::bs,by rw[N7,N7,i1,e1],.cons e2.2 i2⟩
 obtain⟨bs,b1,b2⟩:=each S.el;refine⟨.ref s.heap.objs.size,_,I.laid (o:=jY X.w s.heap.objs.size bs) k1 (Nl _) ?_,rfl,q _ bs ks (I.Nf.fresh (Nl _)) b2 S.nd m⟩;exact Es ⟨es,ep,t,⟨⟨o,S.ob,S.ex,S.dt⟩,S.full.tab.rise,S.full.size,RR.fits (s:={ s with heap:=h' }) S,S.pl,ld⟩,by lia,b1⟩
theorem FP {σ:St}(I:Inv X aa σ H s)(ha:H a=some (jY X.w a bs)):∃es ep t,Wk X.w s.heap a es ep t/\es.size<70/\es.toList.map (·.2)=bs.map NQ:=(show bz X.prog X.w H s.heap a (jY X.w a bs) from I.Nf a _ ha).1
theorem Ai:cK X (.builtin "len") (λxs H Q=>∃p bs,xs=[V.ref p]/\H p=some (jY X.w p bs)/\Q (.int bs.length) H):=by
 intro aa s σ H xs us Q I r h;obtain⟨p,bs,rfl,hp,q⟩:=h;obtain⟨u,rfl,ru⟩:=dm r;cases ru;obtain⟨es,ep,t,W,lt,eq⟩:=FP I hp;obtain⟨o,e1,e2,e3⟩:=id W.ob;have len:es.size=bs.length:=by have:=congrArg RM eq;simpa using this
 exact call_len_set e1 e2 e3 W.fits (by lia) ⟨.int bs.length,H,I.tok _,⟨_,by rw[len]⟩,q⟩
end
end L2
namespace Bk
open Mx
abbrev MX:=List (Int×Int)
abbrev ap:=List (List Int)
def lt:List Int->List Int->Prop
 | [],[]=>False
 | [],_::_=>True
 | _::_,[]=>False
 | a::as,b::bs=>a<b\/(a=b/\lt as bs)
theorem lt_irrefl:∀a:List Int,¬lt a a
 | [],h=>h
 | a::as,h=>by
  rcases h with h|⟨_,h⟩
  .omega
  .exact lt_irrefl as h
theorem lt_trans:∀{a b c:List Int},lt a b->lt b c->lt a c
 | [],[],_,h,_=>h.elim
 | [],_::_,[],_,h=>h.elim
 | [],_::_,_::_,_,_=>trivial
 | _::_,[],_,h,_=>h.elim
 | _::_,_::_,[],_,h=>h.elim
 | a::as,b::bs,c::cs,h1,h2=>by
  rcases h1 with h1|⟨rfl,h1⟩
  .rcases h2 with h2|⟨rfl,h2⟩
   .exact .inl (by lia)
   .exact .inl h1
  .rcases h2 with h2|⟨rfl,h2⟩
   .exact .inl h2
   .exact .inr ⟨rfl,lt_trans h1 h2⟩
theorem Cd (h:lt a b)(h':lt b a):False:=lt_irrefl a (lt_trans h h')
def cS (os:ap):Prop:=os.Pairwise lt
theorem cS.nodup (h:cS os):os.Nodup:=by
 unfold Xw;refine List.Pairwise.imp (R:=lt) ?_ h;intro a b h e;subst e;exact lt_irrefl _ h
theorem ox {α β:Type}{f g:α->List β}:∀{l:List α},(∀a∈l,f a=g a)->l.flatMap f=l.flatMap g
 | [],_=>rfl
 | a::l,h=>by rw[acu,acu,h a Nu,ox λb hb=>h b (NP _ hb)]
theorem cS.eq (hx:cS xs)(hy:cS ys)(h:∀o,o∈xs↔o∈ys):xs=ys:=by
 have p:xs.Perm ys:=(aac hx.nodup hy.nodup).mpr h;exact aeg (λa b _ _ h1 h2=>(Cd h1 h2).elim) hx hy p
def eY (t:Int):List Int->Option (List Int)
 | x::r=>if x=t then some r else none
 | []=>none
def rests (t:Int)(os:ap):ap:=os.filterMap (eY t)
theorem bt:r∈rests t os↔t::r∈os:=by
 simp only[rests,Rv];constructor
 .rintro⟨o,ho,h⟩;cases o with
  | nil=>cases h
  | cons x r'=>
   simp only[eY] at h
   split at h
   .rename_i e;cases h;subst e;exact ho
   .cases h
 .intro h;exact⟨_,h,by simp[eY]⟩
def heads (os:ap):List Int:=(bw 8).filter λt=>!(rests t os).isEmpty
theorem bJ:t∈heads os↔(0<=t/\t<8)/\∃r,t::r∈os:=by
 rw[heads,Pm,dc];constructor
 .rintro⟨h1,h2⟩;refine⟨by simpa using h1,?_⟩;cases e:rests t os with
  | nil=>rw[e] at h2;cases h2
  | cons r rs=>exact⟨r,bt.mp (by rw[e];exact Nu)⟩
 .rintro⟨h1,r,h2⟩;refine⟨by simpa using h1,?_⟩;have:=bt.mpr h2;cases e:rests t os with
  | nil=>rw[e] at this;cases this
  | cons r rs=>rfl
theorem cI (os:ap):(heads os).Pairwise (· < ·):=by
 unfold heads;refine List.Pairwise.filter _ ?_;unfold bw;rw[Sx];exact(YY (n:=8)).imp (λh=>by lia)
def fE (os os':ap):Prop:=∀o,o∈os↔o∈os'
theorem fE.rests (h:fE os os')(t:Int):fE (rests t os) (rests t os'):=λo=>by rw[bt,bt];exact h _
theorem qR {α:Type}{p q:α->Bool}:∀{l:List α},(∀a∈l,p a=q a)->l.filter p=l.filter q
 | [],_=>rfl
 | a::l,h=>by
  have ih:=qR (l:=l) λb hb=>h b (NP _ hb);rw[aaE,aaE,h a Nu,ih]
theorem fE.heads (h:fE os os'):heads os=heads os':=by
 unfold Bk.heads;refine qR λt _=>?_;have hr:=h.rests t;cases e:Bk.rests t os with
 | nil=>
  cases e':Bk.rests t os' with
  | nil=>rfl
  | cons r rs=>
   have:=(hr r).mpr (by rw[e'];exact Nu);rw[e] at this;cases this
 | cons r rs=>
  cases e':Bk.rests t os' with
  | nil=>
   have:=(hr r).mp (by rw[e];exact Nu);rw[e'] at this;cases this
  | cons r rs=>rfl
def keep (rs:List MX)(r:MX):Nat×List MX:=if r∈rs then (rs.idxOf r+2,rs) else (rs.length+2,rs++[r])
def aY (f:ap->List MX->Nat×List MX)(os:ap):List Int->List MX->MX×List MX
 | [],rs=>([],rs)
 | t::ts,rs=>((t,((f (rests t os) rs).1:Int))::(aY f os ts (f (rests t os) rs).2).1,(aY f os ts (f (rests t os) rs).2).2)
def lay:Nat->ap->List MX->Nat×List MX
 | 0,_,rs=>(1,rs)
 | n+1,os,rs=>keep (aY (lay n) os (heads os) rs).2 (aY (lay n) os (heads os) rs).1
theorem qS (hf:∀o o' rs,fE o o'->f o rs=f o' rs)(h:fE os os'):∀ts rs,aY f os ts rs=aY f os' ts rs
 | [],_=>rfl
 | t::ts,rs=>by
  have e:=hf _ _ rs (h.rests t);unfold aY;rw[e,qS hf h ts]
theorem iw:∀(n:Nat) {os os':ap}(rs:List MX),fE os os'->lay n os rs=lay n os' rs
 | 0,_,_,_,_=>rfl
 | n+1,os,os',rs,h=>by
  unfold lay;rw[h.heads,qS (λo o' rs h=>iw n rs h) h]
theorem fL (rs)(r):∃i,(keep rs r).1=i+2/\(keep rs r).2[i]?=some r/\i<(keep rs r).2.length/\rs <+: (keep rs r).2:=by
 unfold keep
 split
 .rename_i h;refine⟨rs.idxOf r,rfl,?_,ad2 h,Qr⟩;rw[Ou (ad2 h),aeW]
 .exact⟨rs.length,rfl,by simp,by simp,Xh _ _⟩
theorem dF (rs)(r):(keep rs r).2=rs\/(r∉rs/\(keep rs r).2=rs++[r]/\(keep rs r).1=rs.length+2):=by
 unfold keep
 split
 .exact .inl rfl
 .rename_i h;exact .inr ⟨h,rfl,rfl⟩
def gq (rows:List ap)(r:MX):List ap:=rows++[r.flatMap λd=>(rows.getD d.2.toNat []).map (d.1::·)]
def fM (rs:List MX):List ap:=rs.foldl gq [[],[[]]]
def Pd (rs:List MX)(k:Nat):ap:=(fM rs).getD k []
theorem qT:∀(rs:List MX) (a:List ap),(rs.foldl gq a).length=a.length+rs.length
 | [],_=>rfl
 | r::rs,a=>by
  rw[VO,qT rs];simp[gq];lia
theorem jb (rs):(fM rs).length=rs.length+2:=by
 rw[fM,qT];simp;lia
theorem qU:∀(rs:List MX) (a:List ap),a <+: rs.foldl gq a
 | [],_=>Qr
 | r::rs,a=>by
  rw[VO];exact(Xh _ _).trans (qU rs _)
theorem uy {α:Type}{a b:List α}{k:Nat}{d:α}(h:a <+: b)(hk:k<a.length):b.getD k d=a.getD k d:=by
 obtain⟨c,rfl⟩:=h;rw[UH,UH,SX hk]
theorem jy (h:rs <+: Sq)(hk:k<rs.length+2):Pd Sq k=Pd rs k:=by
 obtain⟨m,rfl⟩:=h;unfold Pd fM;rw[UO];exact uy (qU m _) (by have:=jb rs;unfold fM at this;lia)
theorem uz (h:rs[i]?=some r)(hd:∀d∈r,d.2.toNat<i+2):Pd rs (i+2)=r.flatMap λd=>(Pd rs d.2.toNat).map (d.1::·):=by
 obtain⟨hi,e⟩:=OA.mp h;have e1:rs=rs.take i++(r::rs.drop (i+1)):=by
  rw[<-e,aes,TW]
 have p1:rs.take i <+: rs:=acB _ _;have p2:rs.take i++[r] <+: rs:=⟨rs.drop (i+1),by rw[VM];exact e1.symm⟩
 have l1:(rs.take i).length=i:=by rw[Qb];lia
 rw[jy p2 (by rw[Os,l1];simp)];have e2:fM (rs.take i++[r])=gq (fM (rs.take i)) r:=by
  unfold fM;rw[UO];rfl
 unfold Pd;rw[e2];unfold gq;rw[UH,UG (by rw[jb,l1];exact Nl _),jb,l1];simp only[aaY,ab5,ae1];refine ox λd QZ=>?_;have:=jy p1 (k:=d.2.toNat) (by rw[l1];exact hd d QZ);unfold Pd at this;rw[<-this]
theorem jz (rs):Pd rs 1=[[]]:=by rw[jy (rs:=[]) (acJ) (by simp)];rfl
theorem uA (rs):Pd rs 0=[]:=by rw[jy (rs:=[]) (acJ) (by simp)];rfl
structure MX.Ok (i:Nat)(r:MX):Prop where
 ne:r≠[]
 ahead:∀d∈r,1<=d.2/\d.2<(i:Int)+2
 rise:(r.map (·.1)).Pairwise (· < ·)
def WF (rs:List MX):Prop:=∀i r,rs[i]?=some r->MX.Ok i r
theorem WF.snoc (h:WF rs)(hr:MX.Ok rs.length r):WF (rs++[r]):=λi r' e=>by
 by_cases hi:i<rs.length
 .rw[SX hi] at e;exact h i r' e
 .have hl:i<(rs++[r]).length:=(OA.mp e).1;rw[Os] at hl;have:i=rs.length:=by simp at hl;lia
  subst this;rw[UG (Nl _)] at e;simp at e;subst e;exact hr
structure Tells (rs:List MX)(k:Nat)(os:ap):Prop where
 lo:1<=k
 hi:k<rs.length+2
 rise:cS (Pd rs k)
 mem:fE (Pd rs k) os
theorem Tells.pre (t:Tells rs k os)(h:rs <+: Sq):Tells Sq k os:=by
 have e:=jy h t.hi;have hl:=h.length_le;exact⟨t.lo,by have:=t.hi;lia,by rw[e];exact t.rise,by rw[e];exact t.mem⟩
structure afk (rs:List MX)(os:ap)(ts:List Int)(ds:MX):Prop where
 things:ds.map (·.1)=ts
 tells:∀d∈ds,1<=d.2/\Tells rs d.2.toNat (rests d.1 os)
def uB (f:ap->List MX->Nat×List MX)(n:Nat):Prop:=∀(os:ap) (rs:List MX),(∀o∈os,o.length=n/\∀x∈o,0<=x/\x<8)->os≠[]->WF rs->WF (f os rs).2/\rs <+: (f os rs).2/\Tells (f os rs).2 (f os rs).1 os
theorem eS (hf:uB f n)(Oh:∀o∈os,o.length=n+1/\∀x∈o,0<=x/\x<8):
  ∀(ts:List Int) (rs:List MX),(∀t∈ts,t∈heads os)->WF rs->WF (aY f os ts rs).2/\rs <+: (aY f os ts rs).2/\afk (aY f os ts rs).2 os ts (aY f os ts rs).1
 | [],rs,_,h=>⟨h,Qr,rfl,λd hd=>by cases hd⟩
 | t::ts,rs,ht,h=>by
  obtain⟨_,r,hr⟩:=bJ.mp (ht t Nu);obtain⟨w1,p1,t1⟩:=hf (rests t os) rs (λo ho=>by
   have:=Oh _ (bt.mp ho);exact⟨by simpa using this.1,λx hx=>this.2 x (NP _ hx)⟩) (λe=>by
   have:=bt.mpr hr;rw[e] at this;cases this) h
  obtain⟨w2,p2,d2⟩:=eS hf Oh ts (f (rests t os) rs).2 (λt' h'=>ht t' (NP _ h')) w1;unfold aY;refine⟨w2,p1.trans p2,by simp[d2.things],λd hd=>?_⟩;rcases NG.mp hd with rfl|hd
  .refine⟨by have:=t1.lo;simp;lia,?_⟩;simp only[QQ];exact t1.pre p2
  .exact d2.tells d hd
theorem Aj (h:cS os):cS (os.map (t::·)):=by
 unfold cS at h ⊢;rw[Sx];exact h.imp λh=>.inr ⟨rfl,h⟩
theorem qV {g:Int×Int->ap}:∀{r:MX},(r.map (·.1)).Pairwise (· < ·)->(∀d∈r,cS (g d))->cS (r.flatMap λd=>(g d).map (d.1::·))
 | [],_,_=>UM
 | d::r,h,hg=>by
  rw[N7,Xf] at h;rw[acu];unfold cS;rw[aar];refine⟨Aj (hg d Nu),qV h.2 λd' QZ=>hg d' (NP _ QZ),?_⟩;intro a ha b hb;obtain⟨a',_,rfl⟩:=NR.mp ha;obtain⟨d',QZ,hb⟩:=Rg.mp hb;obtain⟨b',_,rfl⟩:=NR.mp hb;exact .inl (h.1 d'.1 (NR.mpr ⟨d',QZ,rfl⟩))
theorem dg:∀n,uB (lay n) n
 | 0=>λos rs Oh Ol h=>by
  refine⟨h,Qr,Nl _,by show 1<rs.length+2;lia,?_,?_⟩
  .show cS (Pd rs 1);rw[jz];exact List.pairwise_singleton _ _
  .show fE (Pd rs 1) os;rw[jz];intro o;constructor
   .intro ho;rw[Pl.mp ho];cases os with
    | nil=>exact Nc rfl Ol
    | cons a os=>
     have:=(Oh a Nu).1;rw[S0.mp this];exact Nu
   .intro ho;rw[S0.mp (Oh o ho).1];exact List.mem_singleton_self _
 | n+1=>λos rs Oh Ol h=>by
  obtain⟨w1,p1,d1⟩:=eS (dg n) Oh (heads os) rs (λt ht=>ht) h;unfold lay;generalize (aY (lay n) os (heads os) rs).2=Na at *;generalize (aY (lay n) os (heads os) rs).1=ds at *;have rise:(ds.map (·.1)).Pairwise (· < ·):=by rw[d1.things];exact cI os
  have dne:ds≠[]:=by
   intro e;cases os with
   | nil=>exact Nc rfl Ol
   | cons a os=>
    have ha:=Oh a Nu;cases a with
    | nil=>cases ha.1
    | cons x r=>
     have hx:x∈heads ((x::r)::os):=bJ.mpr ⟨ha.2 x Nu,r,Nu⟩;rw[<-d1.things,e] at hx;cases hx
  obtain⟨i,k1,k2,k3,k4⟩:=fL Na ds;have w2:WF (keep Na ds).2:=by
   rcases dF Na ds with e|⟨_,e,_⟩
   .rw[e];exact w1
   .rw[e];refine w1.snoc ⟨dne,λd hd=>?_,rise⟩;have:=d1.tells d hd;have h2:=this.2.hi;exact⟨this.1,by lia⟩
  refine⟨w2,p1.trans k4,?_⟩;have adz:Pd (keep Na ds).2 (i+2)=ds.flatMap λd=>(Pd (keep Na ds).2 d.2.toNat).map (d.1::·):=
   uz k2 λd hd=>by
    have:=(w2 i ds k2).ahead d hd;lia
  rw[k1];refine⟨by lia,by lia,?_,?_⟩
  .rw[adz];exact qV rise λd hd=>((d1.tells d hd).2.pre k4).rise
  .rw[adz];intro o;rw[Rg];constructor
   .rintro⟨d,hd,ho⟩;obtain⟨o',Pp,rfl⟩:=NR.mp ho;exact bt.mp ((((d1.tells d hd).2.pre k4).mem o').mp Pp)
   .intro ho;have h1:=Oh o ho;cases o with
    | nil=>cases h1.1
    | cons x r=>
     have hx:x∈heads os:=bJ.mpr ⟨h1.2 x Nu,r,ho⟩;rw[<-d1.things] at hx;obtain⟨d,hd,rfl⟩:=NR.mp hx;exact⟨d,hd,NR.mpr ⟨r,(((d1.tells d hd).2.pre k4).mem r).mpr (bt.mpr ho),rfl⟩⟩
def Ends (rs:List MX)(p:Nat×List MX):Prop:=(p.2=rs/\p.1<rs.length+2)\/(p.1=p.2.length+1/\rs.length<p.2.length)
def Jq (rs:List MX)(p:MX×List MX):Prop:=p.2=rs\/(rs.length<p.2.length/\∃d∈p.1,d.2=((p.2.length+1:Nat):Int))
theorem kY (hf:uB f n)(he:∀(os:ap) (rs:List MX),(∀o∈os,o.length=n/\∀x∈o,0<=x/\x<8)->os≠[]->WF rs->Ends rs (f os rs))(Oh:∀o∈os,o.length=n+1/\∀x∈o,0<=x/\x<8):
  ∀(ts:List Int) (rs:List MX),(∀t∈ts,t∈heads os)->WF rs->Jq rs (aY f os ts rs)
 | [],rs,_,_=>.inl rfl
 | t::ts,rs,ht,h=>by
  obtain⟨_,r,hr⟩:=bJ.mp (ht t Nu);have ho:∀o∈rests t os,o.length=n/\∀x∈o,0<=x/\x<8:=λo ho=>by
   have:=Oh _ (bt.mp ho);exact⟨by simpa using this.1,λx hx=>this.2 x (NP _ hx)⟩
  have Ol:rests t os≠[]:=λe=>by
   have:=bt.mpr hr;rw[e] at this;cases this
  obtain⟨w1,p1,t1⟩:=hf (rests t os) rs ho Ol h;have e1:=he (rests t os) rs ho Ol h;have e2:=kY hf he Oh ts (f (rests t os) rs).2 (λt' h'=>ht t' (NP _ h')) w1;unfold aY;rcases e2 with e2|⟨l2,d,hd,e2⟩
  .rcases e1 with⟨e1,_⟩|⟨e1,l1⟩
   .exact .inl (e2.trans e1)
   .refine .inr ⟨by rw[e2];exact l1,_,Nu,?_⟩;show((f (rests t os) rs).1:Int)=_;rw[e2,e1]
  .exact .inr ⟨acm p1.length_le l2,d,NP _ hd,e2⟩
theorem nj:∀(n:Nat) (os:ap) (rs:List MX),(∀o∈os,o.length=n/\∀x∈o,0<=x/\x<8)->os≠[]->WF rs->Ends rs (lay n os rs)
 | 0,os,rs,_,_,_=>.inl ⟨rfl,by show 1<rs.length+2;lia⟩
 | n+1,os,rs,Oh,Ol,h=>by
  have e:=kY (dg n) (nj n) Oh (heads os) rs (λt ht=>ht) h;obtain⟨w1,p1,d1⟩:=eS (dg n) Oh (heads os) rs (λt ht=>ht) h;have lp:=p1.length_le;unfold lay;generalize (aY (lay n) os (heads os) rs)=p at *;obtain⟨ds,Na⟩:=p;dsimp only at *;rcases dF Na ds with k|⟨_,k,k'⟩
  .obtain⟨i,k1,k2,k3,_⟩:=fL Na ds;rw[k] at k2 k3;rcases e with e|⟨l,d,hd,e⟩
   .have e:Na=rs:=e;exact .inl ⟨by rw[k];exact e,by rw[k1,<-e];lia⟩
   .have:=(w1 i ds k2).ahead d hd;have e:d.2=((Na.length+1:Nat):Int):=e;lia
  .refine .inr ⟨by rw[k,k'];simp,by rw[k];simp;lia⟩
theorem yj (h:rs.Nodup):(keep rs r).2.Nodup:=by
 rcases dF rs r with e|⟨hn,e,_⟩
 .rw[e];exact h
 .rw[e,TZ];refine⟨h,by simp,?_⟩;intro a ha b hb;rw[Pl.mp hb];rintro rfl;exact hn ha
theorem oy (hf:∀os rs,rs.Nodup->(f os rs).2.Nodup):∀ts rs,rs.Nodup->(aY f os ts rs).2.Nodup
 | [],_,h=>h
 | t::ts,rs,h=>by
  unfold aY;exact oy hf ts _ (hf _ _ h)
theorem qX:∀(n:Nat) (os:ap) (rs:List MX),rs.Nodup->(lay n os rs).2.Nodup
 | 0,_,_,h=>h
 | n+1,os,rs,h=>by
  unfold lay;exact yj (oy (qX n) _ _ h)
def bj (rs:List MX)(k:Int):MX:=(rs[(k-2).toNat]?).getD []
def walk:Nat->List MX->Int->List Int->List Int
 | 0,_,_,w=>w
 | n+1,rs,k,w=>if k∈w then w else (bj rs k).foldl (λw d=>walk n rs d.2 w) w++[k]
theorem ma (h:k∈w):walk n rs k w=w:=by
 cases n with
 | zero=>rfl
 | succ n=>unfold walk;rw[M6 h]
theorem qY (n:Nat):bw (n+1)=bw n++[(n:Int)]:=by unfold bw;rw[aaH];simp
def wO (f:ap->List MX->Nat×List MX)(n:Nat):Prop:=∀(os:ap) (rs all:List MX),(∀o∈os,o.length=n/\∀x∈o,0<=x/\x<8)->os≠[]->WF rs->(f os rs).2 <+: all->∀m,n<=m->
 walk m all ((f os rs).1:Int) (bw (rs.length+2))=bw ((f os rs).2.length+2)
theorem Du (hf:uB f n)(hw:wO f n)(hm:n<=m)(Oh:∀o∈os,o.length=n+1/\∀x∈o,0<=x/\x<8):
  ∀(ts:List Int) (rs:List MX),(∀t∈ts,t∈heads os)->WF rs->(aY f os ts rs).2 <+: all->
   (aY f os ts rs).1.foldl (λw d=>walk m all d.2 w) (bw (rs.length+2))=bw ((aY f os ts rs).2.length+2)
 | [],rs,_,_,_=>rfl
 | t::ts,rs,ht,h,pa=>by
  obtain⟨_,r,hr⟩:=bJ.mp (ht t Nu);have ho:∀o∈rests t os,o.length=n/\∀x∈o,0<=x/\x<8:=λo ho=>by
   have:=Oh _ (bt.mp ho);exact⟨by simpa using this.1,λx hx=>this.2 x (NP _ hx)⟩
  have Ol:rests t os≠[]:=λe=>by
   have:=bt.mpr hr;rw[e] at this;cases this
  obtain⟨w1,p1,t1⟩:=hf (rests t os) rs ho Ol h;obtain⟨_,p2,_⟩:=eS hf Oh ts (f (rests t os) rs).2 (λt' h'=>ht t' (NP _ h')) w1;unfold aY at pa ⊢;rw[VO];have e:=hw (rests t os) rs all ho Ol h (p2.trans pa) m hm;dsimp only at e ⊢;rw[e];exact Du hf hw hm Oh ts _ (λt' h'=>ht t' (NP _ h')) w1 pa
theorem uC:∀n,wO (lay n) n
 | 0=>λos rs all _ _ _ _ m _=>by
  show walk m all 1 (bw (rs.length+2))=bw (rs.length+2);exact ma (dc.mpr ⟨by lia,by lia⟩)
 | n+1=>λos rs all Oh Ol h pa m hm=>by
  have he:=nj (n+1) os rs Oh Ol h;rcases he with⟨e1,e2⟩|⟨e1,e2⟩
  .rw[e1];exact ma (dc.mpr ⟨by lia,by lia⟩)
  .obtain⟨m,rfl⟩:∃m',m=m'+1:=⟨m-1,by lia⟩
   obtain⟨w1,p1,d1⟩:=eS (dg n) Oh (heads os) rs (λt ht=>ht) h;have η:¬((lay (n+1) os rs).1:Int)∈bw (rs.length+2):=by
    rw[dc];lia
   unfold walk;rw[M0 η];have hD:=Du (m:=m) (all:=all) (dg n) (uC n) (by lia) Oh (heads os) rs (λt ht=>ht) h;have lp:=p1.length_le;have eD:=kY (dg n) (nj n) Oh (heads os) rs (λt ht=>ht) h;have hk:lay (n+1) os rs=keep (aY (lay n) os (heads os) rs).2 (aY (lay n) os (heads os) rs).1:=rfl;rw[hk] at e1 e2 pa ⊢;generalize (aY (lay n) os (heads os) rs)=p at *;obtain⟨ds,Na⟩:=p;dsimp only at *;obtain⟨i,k1,k2,k3,k4⟩:=fL Na ds;have hr:bj all ((keep Na ds).1:Int)=ds:=by
    unfold bj;rw[k1,show(((i+2:Nat):Int)-2).toNat=i by lia];obtain⟨c,rfl⟩:=pa;rw[SX k3,k2];rfl
   rw[hr,hD (k4.trans pa)];rcases dF Na ds with k|⟨_,k,k'⟩
   .rw[k] at e1 e2 k2 k3;rw[k1] at e1;rcases eD with eD|⟨_,d,hd,eD⟩
    .have eD:Na=rs:=eD;rw[eD] at e2;lia
    .have:=(w1 i ds k2).ahead d hd;have eD:d.2=((Na.length+1:Nat):Int):=eD;lia
   .rw[k,k',Os];show bw (Na.length+2)++[((Na.length+2:Nat):Int)]=bw (Na.length+1+2);rw[show Na.length+1+2=(Na.length+2)+1 by lia,qY (Na.length+2)]
def ck (r:MX)(t:Int):Int:=match r.find? (λd=>decide (d.1=t)) with
 | some d=>d.2
 | none=>0
theorem kZ:∀{r:MX}{d:Int×Int},(r.map (·.1)).Pairwise (· < ·)->d∈r->r.find? (λe=>decide (e.1=d.1))=some d
 | e::r,d,h,hd=>by
  rw[N7,Xf] at h;rcases NG.mp hd with rfl|hd
  .simp
  .have N9:=h.1 d.1 (NR.mpr ⟨d,hd,rfl⟩);rw[VG (by simp;lia)];exact kZ h.2 hd
def md (ms:List Nat)(d:Int×Int):Nat:=2 ^ d.1.toNat ||| ms.getD d.2.toNat 0
def iT (ms:List Nat)(r:MX):List Nat:=ms++[md ms (r.headD (0,0))]
def cm (rs:List MX):List Nat:=rs.foldl iT [0,0]
def O3 (rs:List MX)(k:Nat):Nat:=(cm rs).getD k 0
theorem qZ:∀(rs:List MX) (a:List Nat),(rs.foldl iT a).length=a.length+rs.length
 | [],_=>rfl
 | r::rs,a=>by
  rw[VO,qZ rs];simp[iT];lia
theorem fN (rs):(cm rs).length=rs.length+2:=by
 rw[cm,qZ];simp;lia
theorem re:∀(rs:List MX) (a:List Nat),a <+: rs.foldl iT a
 | [],_=>Qr
 | r::rs,a=>by
  rw[VO];exact(Xh _ _).trans (re rs _)
theorem fO (h:rs <+: Sq)(hk:k<rs.length+2):O3 Sq k=O3 rs k:=by
 obtain⟨m,rfl⟩:=h;unfold O3 cm;rw[UO];exact uy (re m _) (by have:=fN rs;unfold cm at this;lia)
theorem Ce {r:MX}(h:rs[i]?=some (d::r))(hd:d.2.toNat<i+2):O3 rs (i+2)=2 ^ d.1.toNat ||| O3 rs d.2.toNat:=by
 obtain⟨hi,e⟩:=OA.mp h;have e1:rs=rs.take i++((d::r)::rs.drop (i+1)):=by
  rw[<-e,aes,TW]
 have p1:rs.take i <+: rs:=acB _ _;have p2:rs.take i++[d::r] <+: rs:=⟨rs.drop (i+1),by rw[VM];exact e1.symm⟩
 have l1:(rs.take i).length=i:=by rw[Qb];lia
 rw[fO p2 (by rw[Os,l1];simp),fO p1 (k:=d.2.toNat) (by rw[l1];exact hd)];have e2:cm (rs.take i++[d::r])=iT (cm (rs.take i)) (d::r):=by
  unfold cm;rw[UO];rfl
 unfold O3;rw[e2];unfold iT;rw[UH,UG (by rw[fN,l1];exact Nl _),fN,l1];simp only[aaY,ab5,ae1];rfl
theorem Et (rs):O3 rs 1=0:=by rw[fO (rs:=[]) (acJ) (by simp)];rfl
def Vr (rs:List MX):Prop:=∀i r,rs[i]?=some r->∀d∈r,0<=d.1/\d.1<8/\(O3 rs d.2.toNat).testBit d.1.toNat=false/\2 ^ d.1.toNat ||| O3 rs d.2.toNat=O3 rs (i+2)
def Wm (rs:List MX)(k:Nat)(S:Int->Prop):Prop:=∀i:Nat,(O3 rs k).testBit i=true↔S (i:Int)
theorem Wm.pre (h:Wm rs k S)(p:rs <+: Sq)(hk:k<rs.length+2):Wm Sq k S:=λi=>by rw[fO p hk];exact h i
def fb (n:Nat)(S:Int->Prop)(os:ap):Prop:=∀o∈os,o.length=n/\(∀x∈o,0<=x/\x<8)/\o.Nodup/\∀x,x∈o↔S x
theorem fb.plain (h:fb n S os):∀o∈os,o.length=n/\∀x∈o,0<=x/\x<8:=λo ho=>⟨(h o ho).1,(h o ho).2.1⟩
theorem fb.rests (h:fb (n+1) S os)(t:Int):fb n (λx=>S x/\x≠t) (rests t os):=λr hr=>by
 obtain⟨h1,h2,h3,h4⟩:=h _ (bt.mp hr);rw[QE] at h3;refine⟨by simpa using h1,λx hx=>h2 x (NP _ hx),h3.2,λx=>?_⟩;constructor
 .intro hx;refine⟨(h4 x).mp (NP _ hx),?_⟩;rintro rfl;exact h3.1 hx
 .rintro⟨hx,hn⟩;rcases NG.mp ((h4 x).mpr hx) with e|e
  .exact Nc e hn
  .exact e
def Dv (f:ap->List MX->Nat×List MX)(n:Nat):Prop:=∀(S:Int->Prop) (os:ap) (rs:List MX),fb n S os->os≠[]->WF rs->Vr rs->Vr (f os rs).2/\Wm (f os rs).2 (f os rs).1 S
theorem rg (hf:uB f n)(hm:Dv f n)(Oh:fb (n+1) S os):
  ∀(ts:List Int) (rs:List MX),(∀t∈ts,t∈heads os)->WF rs->Vr rs->Vr (aY f os ts rs).2/\∀d∈(aY f os ts rs).1,(0<=d.1/\d.1<8)/\S d.1/\Wm (aY f os ts rs).2 d.2.toNat (λx=>S x/\x≠d.1)
 | [],rs,_,_,m=>⟨m,λd hd=>by cases hd⟩
 | t::ts,rs,ht,h,m=>by
  obtain⟨tb,r,hr⟩:=bJ.mp (ht t Nu);have Ol:rests t os≠[]:=λe=>by
   have:=bt.mpr hr;rw[e] at this;cases this
  obtain⟨w1,p1,t1⟩:=hf (rests t os) rs (Oh.rests t).plain Ol h;obtain⟨m1,s1⟩:=hm _ (rests t os) rs (Oh.rests t) Ol h m;have TD:∀t'∈ts,t'∈heads os:=λt' h'=>ht t' (NP _ h');obtain⟨_,p2,_⟩:=eS hf Oh.plain ts (f (rests t os) rs).2 TD w1;obtain⟨m2,s2⟩:=rg hf hm Oh ts (f (rests t os) rs).2 TD w1 m1;unfold aY;refine⟨m2,λd hd=>?_⟩;rcases NG.mp hd with rfl|hd
  .refine⟨tb,((Oh _ hr).2.2.2 t).mp Nu,?_⟩;simp only[QQ];exact s1.pre p2 t1.hi
  .exact s2 d hd
theorem FQ {S:Int->Prop}(h0:0<=t)(hS:S t)(h:∀i:Nat,m.testBit i=true↔(S (i:Int)/\(i:Int)≠t)):∀i:Nat,(2 ^ t.toNat ||| m).testBit i=true↔S (i:Int):=λi=>by
 rw[Nat.testBit_or,acK,aeN,decide_eq_true_iff,h i];constructor
 .rintro(e|⟨e,_⟩)
  .have:(i:Int)=t:=by lia
   rw[this];exact hS
  .exact e
 .intro e
  by_cases z:(i:Int)=t
  .exact .inl (by lia)
  .exact .inr ⟨e,z⟩
theorem Eu {a b:Nat}{S:Int->Prop}(ha:∀i:Nat,a.testBit i=true↔S (i:Int))(hb:∀i:Nat,b.testBit i=true↔S (i:Int)):a=b:=by
 refine acj λi=>?_;rw[Sz,ha,hb]
theorem uD:∀n,Dv (lay n) n
 | 0=>λS os rs Oh Ol _ m=>by
  refine⟨m,λi=>?_⟩;show(O3 rs 1).testBit i=true↔_;rw[Et];simp only[Nat.zero_testBit];constructor
  .intro z;cases z
  .intro z;cases os with
   | nil=>exact Nc rfl Ol
   | cons o os=>
    obtain⟨h1,_,_,h4⟩:=Oh o Nu;have:=(h4 _).mpr z;rw[S0.mp h1] at this;cases this
 | n+1=>λS os rs Oh Ol h m=>by
  obtain⟨w1,p1,d1⟩:=eS (dg n) Oh.plain (heads os) rs (λt ht=>ht) h;obtain⟨m1,s1⟩:=rg (dg n) (uD n) Oh (heads os) rs (λt ht=>ht) h m;obtain⟨w2,_,t2⟩:=dg (n+1) os rs Oh.plain Ol h;have hk:lay (n+1) os rs=keep (aY (lay n) os (heads os) rs).2 (aY (lay n) os (heads os) rs).1:=rfl;rw[hk] at w2 t2 ⊢;generalize (aY (lay n) os (heads os) rs)=p at *;obtain⟨ds,Na⟩:=p;dsimp only at *;obtain⟨i,k1,k2,k3,k4⟩:=fL Na ds;have ok:=w2 i ds k2;have each:∀d∈ds,∀j:Nat,(2 ^ d.1.toNat ||| O3 Na d.2.toNat).testBit j=true↔S (j:Int):=λd hd=>FQ (s1 d hd).1.1 (s1 d hd).2.1 (s1 d hd).2.2;have pre:∀d∈ds,O3 (keep Na ds).2 d.2.toNat=O3 Na d.2.toNat:=λd hd=>fO k4 (d1.tells d hd).2.hi;have hi:Wm (keep Na ds).2 (i+2) S:=by
   cases ds with
   | nil=>exact Nc rfl ok.ne
   | cons d r=>
    intro j;rw[Ce k2 (by have:=ok.ahead d Nu;lia),pre d Nu];exact each d Nu j
  refine⟨?_,by rw[k1];exact hi⟩;rcases dF Na ds with k|⟨_,k,k'⟩
  .rw[k];exact m1
  .intro j r e d hd;have ij:i=Na.length:=by lia
   by_cases hj:j<Na.length
   .have e':=e;rw[k,SX hj] at e';obtain⟨a1,a2,a3,a4⟩:=m1 j r e' d hd;have b1:=(w1 j r e').ahead d hd;rw[fO k4 (by lia),fO k4 (by lia)];exact⟨a1,a2,a3,a4⟩
   .have hl:j<(keep Na ds).2.length:=(OA.mp e).1;rw[k,Os] at hl;have ej:j=i:=by simp at hl;lia
    subst ej;rw[k2] at e;cases e;refine⟨(s1 d hd).1.1,(s1 d hd).1.2,?_,?_⟩
    .rw[pre d hd];cases z:(O3 Na d.2.toNat).testBit d.1.toNat with
     | false=>rfl
     | true=>
      have:=(((s1 d hd).2.2) d.1.toNat).mp z;exact Nc (by have:=(s1 d hd).1.1;lia) this.2
    .rw[pre d hd];exact Eu (each d hd) hi
theorem Cf {many a:Nat}(h:∀i:Nat,a.testBit i=true↔((0:Int)<=(i:Int)/\(i:Int)<many)):a=2 ^ many-1:=by
 refine acj λi=>?_;rw[Sz,h,Nat.testBit_two_pow_sub_one,decide_eq_true_iff];lia
theorem oz (wf:WF rs)(h2:2<=k)(hk:k<rs.length+2):∃r,rs[k-2]?=some r/\MX.Ok (k-2) r/\Pd rs k=r.flatMap λd=>(Pd rs d.2.toNat).map (d.1::·):=by
 have hi:k-2<rs.length:=by lia
 have e:=Ou hi;have ok:=wf _ _ e;have:=uz e (λd hd=>by have:=ok.ahead d hd;lia);rw[show k-2+2=k by lia] at this;exact⟨_,e,ok,this⟩
theorem uE (wf:WF rs):∀(n k:Nat),k<=n->1<=k->k<rs.length+2->Pd rs k≠[]
 | 0,k,h,h1,_=>by lia
 | n+1,k,h,h1,hk=>by
  by_cases c:k=1
  .subst c;rw[jz];exact λh=>nomatch h
  obtain⟨r,e,ok,es⟩:=oz wf (by lia) hk;obtain⟨d,hd⟩:=SY r ok.ne;have ah:=ok.ahead d hd;have:=uE wf n d.2.toNat (by lia) (by lia) (by lia);obtain⟨o,ho⟩:=SY _ this;rw[es];intro hn;have:d.1::o∈r.flatMap λd=>(Pd rs d.2.toNat).map (d.1::·):=Rg.mpr ⟨d,hd,NR.mpr ⟨o,ho,rfl⟩⟩;rw[hn] at this;cases this
def fe:Nat->List MX->Int->Prop
 | 0,_,k=>k=0\/k=1
 | n+1,rs,k=>k=0\/k=1\/(2<=k/\(k-2).toNat<rs.length/\∀d∈bj rs k,fe n rs d.2)
theorem fe.up:∀{n:Nat}{k:Int},fe n rs k->fe (n+1) rs k
 | 0,k,h=>by
  rcases h with h|h
  .exact .inl h
  .exact .inr (.inl h)
 | n+1,k,h=>by
  rcases h with h|h|⟨h1,h2,h3⟩
  .exact .inl h
  .exact .inr (.inl h)
  .exact .inr (.inr ⟨h1,h2,λd hd=>(h3 d hd).up⟩)
theorem fe.le (h:fe n rs k)(hm:n<=m):fe m rs k:=by
 induction hm with
 | refl=>exact h
 | step _ ih=>exact ih.up
theorem gI (h:(k-2).toNat<rs.length):rs[(k-2).toNat]?=some (bj rs k):=by
 unfold bj;rw[Ou h];rfl
theorem rh {k:Nat}(h:rs[k-2]?=some r)(h2:2<=k):bj rs (k:Int)=r:=by
 unfold bj;rw[show((k:Int)-2).toNat=k-2 by lia,h];rfl
theorem wP (wf:WF rs):∀(n k:Nat),1<=k->k<rs.length+2->(∀o∈Pd rs k,o.length=n)->fe n rs (k:Int)
 | 0,k,h1,hk,hl=>by
  by_cases c:k=1
  .exact .inr (by rw[c];rfl)
  obtain⟨r,e,ok,es⟩:=oz wf (by lia) hk;obtain⟨o,ho⟩:=SY _ (uE wf k k (Nl _) h1 hk);have l0:=hl o ho;rw[es] at ho;obtain⟨d,hd,hm⟩:=Rg.mp ho;obtain⟨o',_,rfl⟩:=NR.mp hm;exact Nc l0 (by simp)
 | n+1,k,h1,hk,hl=>by
  by_cases c:k=1
  .exact .inr (.inl (by rw[c];rfl))
  obtain⟨r,e,ok,es⟩:=oz wf (by lia) hk;refine .inr (.inr ⟨by lia,by lia,λd hd=>?_⟩);rw[rh e (by lia)] at hd;have ah:=ok.ahead d hd;have:=wP wf n d.2.toNat (by lia) (by lia) λo ho=>by
   have:=hl (d.1::o) (by rw[es];exact Rg.mpr ⟨d,hd,NR.mpr ⟨o,ho,rfl⟩⟩);simpa using this
  rw[show((d.2.toNat:Nat):Int)=d.2 by lia] at this;exact this
end Bk
namespace L2
open PySem PySem.Spec PyProof.Rows
theorem oA (a b:Nat):aaJ (a:Int) (b:Int)=((a &&& b:Nat):Int):=rfl
theorem ri (a b:Nat):aaO (a:Int) (b:Int)=((a ||| b:Nat):Int):=by
 rw[<-PyProof.Rows.bitOr_eq];unfold Spec.bitOr Spec.bitAnd;have h1:decide (0<=V1 (a:Int))=false:=by unfold V1;exact Ny (by lia)
 have h2:decide (0<=V1 (b:Int))=false:=by unfold V1;exact Ny (by lia)
 rw[h1,h2];have n1:∀x:Int,V1 (V1 x)=x:=λx=>by unfold V1;lia
 simp only[n1,QQ]
theorem yk (h:m.testBit t=false):2 ^ t &&& m=0:=by
 refine acj λi=>?_;rw[Nat.testBit_and,aeN,Nat.zero_testBit]
 by_cases e:t=i
 .subst e;rw[h];simp
 .simp[e]
theorem bU {α:Type}{x:α}{xs:List α}:Qj (x::xs) 0=some x:=cG (j:=0) rfl
theorem fW {α:Type}{x y:α}{xs:List α}:Qj (x::y::xs) 1=some y:=cG (j:=1) rfl
theorem lc {α:Type}{x y z:α}{xs:List α}:Qj (x::y::z::xs) 2=some z:=cG (j:=2) rfl
end L2
namespace Ord
open PySem L2 Mx
abbrev uF:M':=top 20
abbrev nq:M':=top 22
abbrev uG:M':=top 19
abbrev me:M':=top 21
abbrev ym:M':=top 18
abbrev uH:M':=top 23
abbrev uI:M':=top 17
abbrev sG:M':=top 25
abbrev uJ:M':=top 24
abbrev sI:M':=top 16
structure Oy (K)(mg:MV->Option D')(CO):Prop where
 t:Txt K mg CO
 no:∃t,mg "NO_ROOM"=some (.int 0 t)
 en:∃t,mg "END"=some (.int 1 t)
 low:∃t,mg "LOWEST"=some (.int 2 t)
 set:mg "set"=none
def cV (K:MZ)(H:Hp)(x:V)(d:Int×Int):Prop:=∃p,x=.ref p/\Ni K H p [.int d.1,.int d.2]
def bD (K:MZ)(H:Hp)(x:V)(r:Bk.MX):Prop:=∃a xs,x=.ref a/\Ni K H a xs/\Nd (cV K H) xs r
section
theorem cV.same (s:aB H H')(h:cV K H x d):cV K H' x d:=by
 obtain⟨p,e,q⟩:=h;exact⟨p,e,s.NM q⟩
theorem bD.same (s:aB H H')(h:bD K H x r):bD K H' x r:=by
 obtain⟨a,xs,e,q,z⟩:=h;exact⟨a,xs,e,s.NM q,aX (λ_ _ y=>y.same s) z⟩
def wQ (K:MZ):Sp:=λvs H Q _=>∃(x:V) (d:Int×Int),vs=[x]/\cV K H x d/\Q (.bl true) H
theorem Ev:N3 ["door"] ["door"] (am uF):=⟨rfl,rfl,rfl,by decide +kernel,rfl,by decide +kernel,by decide +kernel⟩
theorem Cg (F:NE K "is_door" "is_door" uF f fd)(T:Oy K mg CO)(W:Df P w K mg base Nb 1 "is_whole" ["value"] hV):Nq P w K mg base Nb 2 f fd ["door"] (wQ K):=by
 refine F.ok Ev (λvs H Q E h=>?_) (λNo A outer s H vs Q E hr h=>?_)
 .obtain⟨x,d,rfl,_⟩:=h;rfl
 obtain⟨x,⟨t,k⟩,rfl,⟨p,rfl,q⟩,z⟩:=h;refine⟨_,af (aH (jj (aQ cZ rfl T.t.Sm fT (ac (pv 0) (ac (dM (v:=.ty "tuple") rfl T.t.tuple dB rfl) ae)))
  (jj (cg bf (aQ bd rfl T.t.len cq (ac (pv 0) ae)) ag (aw _))
  (jj (aE W hr rfl (az (E:=λ_ _ _ _=>False)) (ac (ay (show Np _ (aU K) from ax) (pv 0) ag (λ_ _=>rfl)) ae))
  (kF (aE W hr rfl (az (E:=λ_ _ _ _=>False)) (ac (ay (show Np _ (aU K) from ax) (pv 0) ag (λ_ _=>rfl)) ae))))))),?_⟩
 refine⟨_,rfl,_,_,_,_,_,rfl,rfl,.tup q,jt,_,rfl,aZ ?_⟩;refine⟨_,rfl,p,_,rfl,.inr q,rfl,_,rfl,aZ ?_⟩;refine⟨_,rfl,p,_,0,.int t,rfl,rfl,q,bU,t,rfl,_,rfl,aZ ?_⟩;exact⟨_,rfl,p,_,1,.int k,rfl,rfl,q,fW,k,rfl,z⟩
def rj (K:MZ):Sp:=λvs H Q _=>∃(x:V) (l:A') (ms:List Nat) (d:Int×Int),vs=[x,.ref l]/\cV K H x d/\Nj K H l (ms.map λm:Nat=>V.int m)/\0<=d.1/\d.1<8/\0<=d.2/\d.2<ms.length/\
 (ms.getD d.2.toNat 0).testBit d.1.toNat=false/\Q (.int ((Bk.md ms d:Nat):Int)) H
theorem lg:N3 ["door","things","thing","later"] ["door","things"] (am nq):=⟨rfl,rfl,rfl,by decide +kernel,rfl,by decide +kernel,by decide +kernel⟩
theorem yn (F:NE K "things_through" "things_through" nq f fd):Nq P w K mg base Nb 1 f fd ["door","things"] (rj K):=by
 refine F.ok lg (λvs H Q E h=>?_) (λNo A outer s H vs Q E hr h=>?_)
 .obtain⟨x,l,ms,d,rfl,_⟩:=h;rfl
 obtain⟨x,l,ms,⟨t,k⟩,rfl,⟨p,rfl,q⟩,hl,t0,t8,k0,kl,hb,z⟩:=h;refine⟨_,ad (aV (i:=2) lg.nd rfl (NB rfl) (aO sZ ag (ay (show Np _ (aU K) from ax) (pv 0) ag (λ_ _=>rfl))))
  (ad (aV (i:=3) lg.nd rfl (NB rfl) (ay (show Np _ (gM K) from cL) (pv 1) (ay (show Np _ (aU K) from ax) (pv 0) ag (λ_ _=>rfl)) (λ_ _=>rfl)))
  (ad (aD (mV (aO zd (pv 2) (pv 3)) (λ_=>rfl)) (af ao) au)
  (af (aH (aO Dh (pv 2) (pv 3)))))),?_⟩
 refine⟨_,rfl,p,_,0,.int t,rfl,rfl,q,bU,1,t,rfl,rfl,⟨t0,by lia,by decide⟩,?_⟩;refine⟨_,rfl,_,rfl,p,_,1,.int k,rfl,rfl,q,fW,l,_,k,.int ((ms.getD k.toNat 0:Nat):Int),rfl,rfl,hl,?_,?_⟩
 .have hk:k.toNat<ms.length:=by show k.toNat<ms.length;have:k<ms.length:=kl;have:0<=k:=k0;lia
  have:=cG (xs:=ms.map λm:Nat=>V.int m) (j:=k.toNat) (v:=.int ((ms.getD k.toNat 0:Nat):Int)) (by
   rw[Pa,Ou hk,UH,Ou hk];rfl)
  rw[show((k.toNat:Nat):Int)=k from Int.toNat_of_nonneg k0] at this;exact this
 have e1:(1:Int)*2 ^ t.toNat=((2 ^ t.toNat:Nat):Int):=by simp
 refine⟨_,rfl,_,rfl,_,_,rfl,rfl,_,rfl,?_⟩;rw[e1,oA,yk hb];refine aA ?_;refine⟨_,rfl,_,rfl,_,_,rfl,rfl,?_⟩;show Q (V.int (aaO (1*2 ^ t.toNat) ((ms.getD k.toNat 0:Nat):Int))) H;rw[e1,ri];exact z
structure QV (K:MZ)(H:Hp)(x:V)(many:Int)(rs:List Bk.MX)(first:Int):Prop where
 ex:∃b l xs,x=.ref b/\Ni K H b [.int many,.ref l,.int first]/\Nj K H l xs/\Nd (bD K H) xs rs
def wR (K:MZ):Sp:=λvs H Q _=>∃(x:V) (many:Int) (rs:List Bk.MX) (first:Int),vs=[x]/\QV K H x many rs first/\1<=many/\many<=8/\Q .Nr H
theorem Ew:N3 ["book"] ["book"] (am uI):=⟨rfl,rfl,rfl,by decide +kernel,rfl,by decide +kernel,by decide +kernel⟩
theorem Ch (F:NE K "look_parts" "look_parts" uI f fd)(T:Oy K mg CO)(W:Df P w K mg base Nb 1 "is_whole" ["value"] hV)(WC:Df P w K mg base Nb 2 "is_count" ["many"] pI):Nq P w K mg base Nb 3 f fd ["book"] (wR K):=by
 refine F.ok Ew (λvs H Q E h=>?_) (λNo A outer s H vs Q E hr h=>?_)
 .obtain⟨x,many,rs,first,rfl,_⟩:=h;rfl
 obtain⟨x,many,rs,first,rfl,⟨b,l,xs,rfl,q,ql,pr⟩,m1,m8,z⟩:=h;refine⟨_,ad (aD (PW.pt (gQ (cf (cp (aQ cZ rfl T.t.Sm fT (ac (pv 0) (ac (dM (v:=.ty "tuple") rfl T.t.tuple dB rfl) ae)))))
    (ig (ar fS (aQ bd rfl T.t.len cq (ac (pv 0) ae)) ag (aw _))))) (af ao) au)
  (ad (aD (cf (cp (aE WC hr rfl (az (E:=λ_ _ _ _=>False)) (ac (ay (show Np _ (aU K) from ax) (pv 0) ag (λ_ _=>rfl)) ae)))) (af ao) au)
  (ad (aD (cf (cp (aQ cZ rfl T.t.Sm fT (ac (ay (show Np _ (aU K) from ax) (pv 0) ag (λ_ _=>rfl)) (ac (dM (v:=.ty "list") rfl T.t.list ju rfl) ae))))) (af ao) au)
  (af (aD (cf (cp (aE W (hr.mono (by decide)) rfl (az (E:=λ_ _ _ _=>False)) (ac (ay (show Np _ (aU K) from ax) (pv 0) ag (λ_ _=>rfl)) ae)))) (af ao) au)))),?_⟩
 refine⟨_,rfl,_,_,_,_,_,rfl,rfl,.tup q,jt,_,rfl,aA ?_⟩;refine⟨_,rfl,b,_,rfl,.inr q,rfl,_,rfl,aA ?_⟩;refine⟨_,rfl,b,_,0,.int many,rfl,rfl,q,bU,many,rfl,_,rfl,?_⟩;rw[Nz ⟨m1,m8⟩];refine aA ?_;refine⟨_,rfl,b,_,1,.ref l,rfl,rfl,q,fW,_,_,_,_,_,rfl,rfl,.lst ql,Fx,_,rfl,aA ?_⟩;exact⟨_,rfl,b,_,2,.int first,rfl,rfl,q,lc,first,rfl,_,rfl,aA z⟩
end
end Ord
namespace L2
open PySem PySem.Spec PyProof.Rows
section
theorem hZ (hN:X.N.Nodup)(hi0:X.N[i0]?=some y)(hx:Loc X.env.scope y)(hc:X.calm=true)(S:Qf X.env.scope X.N scope x)(hi:PI X (.Name x px) iter wi)(ht:∀(cl:List (MV×A')) (C:A') (NY:J') (OM:Hp) (fp:List A') (aa:List (A'×G')),δ (O7 X scope cl x C NY OM fp aa) ifs tt)(he:∀(cl:List (MV×A')) (C:A') (NY:J') (OM:Hp) (fp:List A') (aa:List (A'×G')),PE (O7 X scope cl x C NY OM fp aa) elt te)(hsw:swapsWith (.ListComp elt [⟨.Name x px,iter,ifs,0⟩] scope pos) (some (.Name y py)) adA.line X.env=pure true)(hs:∀v,foldedSetIterable iter X.env v=pure v:=by intro _;rfl)(hf:X.fn y=true\/X.env.scope.names.lookup y=some .local :=by first|exact .inl rfl|exact .inr rfl|assumption):
  PS X (.Assign [.Name y py] (.ListComp elt [⟨.Name x px,iter,ifs,0⟩] scope pos) adA) (Fb (Di wi tt te) (xI i0)):=by
 intro aa s σ H D0 I h;obtain⟨cl,abv,U4,abw⟩:=nW (scope:=scope) (env:=X.env) (λy hy hf=>I.ok.has y.1 (S.free y hy hf));rw[exec_Assign_Name_used _ _ _ _ hsw];refine MW (Zm (MW ?_));show M3 _ X.A (do let _ <-comprehension (.ListComp elt [⟨.Name x px,iter,ifs,0⟩] scope pos) scope X.env _ (newList []) false (eval iter X.env) (some (assign (.Name y py) X.env))) _ _ s;refine MW (RO (aef (use:=some (assign (.Name y py) X.env)) (E:=X.xe) (Q:=λ_ s'=>SP X aa D0 .next s') rfl hs abv S.kind S.names
  (Nk (hi aa s σ H _ I h) λxv s1 h1=>Nk h1 λZ0 s2 h2=>?_)) (λ_ s' hq=>M1 (M1 hq)) λ_ _ e=>e)
 obtain⟨it,fp,tn,J,H2,e,I2,T,Pc,f2,W,⟨m0,w0⟩,turn⟩:=h2;subst e;refine TX (acg S.cell (by intro y hy;cases hy) (λP5 Rm Q2=>?_) S.kind);dsimp only at Rm Q2 ⊢;generalize hP:s2.heap.push { cls:=.type "list",dict:=none,data:=.seq ([]:List D').toArray }=P2 at Rm Q2 ⊢;have hC:P2.objs.size=s2.heap.objs.size+1:=by rw[<-hP,Zh]
 have Um:s2.heap.objs.size≠P2.objs.size:=by rw[hC];exact N0 (Xk _)
 have Si:s2.heap.objs.size<=P2.objs.size:=by rw[hC];exact V0 _
 have old:∀b o,s2.heap.get? b=some o->P5.get? b=some o:=λb o e=>by
  have hb:=NC e;exact Q2.extBut b o (by rw[hC];exact N0 (Y7 hb)) (NK _ (hP▸NK _ e))
 have hd:P5.get? s2.heap.objs.size=some (cj [] 0):=Q2.extBut _ _ Um (NK _ (hP▸OH _ rfl));have fo:∀b∈fp,∃o,s2.heap.get? b=some o:=λb hb=>by
  obtain⟨o,e,_⟩:=T.obj _ _ Pc b hb;exact⟨o,e⟩
 have Vi:∀b∈fp,b≠s2.heap.objs.size:=λb hb=>by
  obtain⟨o,e⟩:=fo b hb;exact N0 (NC e)
 have JY:Inv (O7 X scope cl x P2.objs.size s2 H2 fp aa) [(s2.heap.objs.size,cj [] 0)] (none::σ) H2 { s2 with heap:=P5,toks:=s2.toks+([]:List (MV×D')).length }:=
  qF I2 S f2 fo U4 abw (Nl _) Si Um ⟨_,Rm⟩ hd old
 have Sh:∀{H':Hp}{MY:List D'}{n:Nat},(∀b∈fp,H' b=none)->∀b∈fp,i8 (O7 X scope cl x P2.objs.size s2 H2 fp aa) [(s2.heap.objs.size,cj MY n)] H' b:=λ{H' MY n} hn b hb=>by
  obtain⟨_,g1,g2,g3,g4,g5⟩:=f2 b hb;obtain⟨o,e⟩:=fo b hb;refine⟨hn b hb,?_,λz=>?_,.inl hb,λy c q=>g4 y c (U4 y c q),λp hp=>?_⟩
  .show b≠P2.objs.size;exact N0 (OY (NC e) Si)
  .rcases NG.mp (I2.Tk b z) with r|r
   .exact g1 r
   .exact g2 r
  .rcases Ov.mp hp with z|z
   .exact g5 p z
   .rw[Pl.mp z];exact λq=>Vi b hb q.symm
 have nodup:(O7 X scope cl x P2.objs.size s2 H2 fp aa).N.Nodup:=QE.mpr ⟨S.fresh,hN⟩;have loc:Loc (O7 X scope cl x P2.objs.size s2 H2 fp aa).env.scope x:=.inl (aao S.var);have loop:∀s4:J',s4={ s2 with heap:=P5,toks:=s2.toks+([]:List (MV×D')).length }->
   codeAny (M8 X.prog X.w) X.A (.compLoop (.ListComp elt [⟨.Name x px,iter,ifs,0⟩] scope pos) 0 (.ref it) (.ref s2.heap.objs.size) (compEnvC scope cl P2.objs.size X.env))
    (compPost (M8 X.prog X.w) X.A X.xe (some (assign (.Name y py) X.env)) (λ_ s'=>SP X aa D0 .next s') (.ref s2.heap.objs.size) P2.objs.size) s4:=by
  rintro s4 rfl;refine codeAny_loop rfl (λn s'=>∃i ys MY c H' v0,Inv (O7 X scope cl x P2.objs.size s2 H2 fp aa) [(s2.heap.objs.size,cj MY c)] (v0::σ) H' s'/\tn i s'.heap/\(∀b∈fp,H' b=none)/\aL ys MY/\W i n ys H') ?_ m0
   ⟨0,[],[],0,H2,none,JY,T.keep _ _ _ Pc (λb _ o e=>old b o e),λb hb=>(f2 b hb).1,.nil,w0⟩
  rintro n s3 ⟨i,ys,MY,c,H3,v0,I3,Qh,Uk,rv,w3⟩;show M3 _ _ ((compTurn (.ListComp elt [⟨.Name x px,iter,ifs,0⟩] scope pos) 0 (.ref it) (.ref s2.heap.objs.size) (compEnvC scope cl P2.objs.size X.env)).onRaise (λz=>do noteFrame z (compEnvC scope cl P2.objs.size X.env);theTreesLotGoes z)) _ _ s3;refine wpAny_noted ?_;rw[compTurn_list];rcases turn i n ys H3 w3 with⟨stop,hz,qn⟩|⟨go,hz,NN,Ye,step⟩
  .refine MW (Zm (MW (Nk (T.done (O7 X scope cl x P2.objs.size s2 H2 fp aa) rfl rfl rfl hc i _ s3 _ H3 _ I3 (Sh Uk) Qh stop) λr s5 ⟨hr,I5⟩=>?_)));subst hr;refine M1 ?_;obtain⟨mC,hmC,_⟩:=I5.loc;obtain⟨I6,nD⟩:=tJ I2 f2 (Nl _) Si I5 (R6.refl _ _) rv hz;have fC:H3 P2.objs.size=none:=I5.free;have q:=qn _ nD;have Wi:∀b o,s2.heap.get? b=some o->b≠P2.objs.size:=λb o e=>N0 (OY (NC e) Si);have adB:∀z c,X.env.cells.lookup z=some c->c≠P2.objs.size:=λz c e=>by
    obtain⟨v,q⟩:=I2.cell z c e;exact N0 (OY q.lt Si)
   have adC:X.env.locals≠P2.objs.size:=N0 (OY I2.lt Si);refine aav (qw (v:=.ref s2.heap.objs.size) I6 hN hi0 hx rfl (λs7 I7 ⟨a,sb,ha⟩=>?_) hf);have RC:P2.objs.size≠a:=by
    rcases ha with ha|ha
    .rw[ha];exact N1 adC
    .exact N1 (adB _ _ ha)
   exact⟨mC,hmC.sameBut sb RC,λh' hs'=>⟨_,_,I7.turned (t':=s7.toks) (it:=P2.objs.size) (λb o hb e=>(hs'.2 b hb).trans e) (by rw[aq (N1 Um)];exact fC) (N1 adC) (.inr (Ph I2.sz Si)) adB (λp hp=>Wi _ _ (I2.pin p hp).1),q⟩⟩
  .refine MW (Zm (MW (Nk (T.item (O7 X scope cl x P2.objs.size s2 H2 fp aa) rfl rfl rfl hc i _ s3 _ H3 _ I3 (Sh Uk) Qh go) λr s5 ⟨u,hr,h5⟩=>?_)));subst hr;refine MW (Nk h5 λ_ s6 ⟨xv,H6,I6,r6,y6,Vj,fr6⟩=>?_);have I6':=I6.pinned (Sh fr6) (T.obj _ _ Vj);refine MW (aav (jM (i:=0) I6' nodup rfl loc r6 (λs7 I7=>?_) (.inr (aao S.var))));have q7:=step xv H6 y6;refine MW (gS (Nk (ht cl P2.objs.size s2 H2 fp aa _ s7 _ H6 _ I7 q7) λok s8 ⟨H8,I8,q8⟩=>?_));have back:∀{H9:Hp}{s9:J'},Inv (O7 X scope cl x P2.objs.size s2 H2 fp aa) ([(s2.heap.objs.size,cj MY c)]++jk fp s6.heap) (some xv::σ) H9 s9->tn (i+1) s9.heap/\∀b∈fp,H9 b=none:=λ{H9 s9} I9=>by
    refine⟨T.keep _ _ _ Vj λb hb o e=>(I9.pin (b,o) (PM _ (PM _ (eV hb e)))).1,λb hb=>?_⟩;obtain⟨o,e,d⟩:=T.obj _ _ Vj b hb;exact(I9.pin (b,o) (PM _ (PM _ (eV hb e)))).2.1
   cases ok with
   | false=>
    obtain⟨m',hm,w8⟩:=Ye ys H8 q8;obtain⟨t8,fr8⟩:=back I8;exact M1 ⟨rfl,m',hm,i+1,ys,MY,c,H8,_,I8.UV,t8,fr8,rv,w8⟩
   | true=>
    refine MW (MW (gS (Nk (he cl P2.objs.size s2 H2 fp aa _ s8 _ H8 _ I8 q8) λyv s9 ⟨y,H9,I9,r9,q9⟩=>?_)));obtain⟨m',hm,w9⟩:=Ye _ _ q9;obtain⟨t9,fr9⟩:=back I9;have Yg:=I9.UV;obtain⟨eD,nD,Uh,nf,_⟩:=Yg.pin (s2.heap.objs.size,cj MY c) (PM _ Nu);refine MW (aej (items:=MY.toArray) ⟨c,eD⟩ (λVk abx XN=>?_) (by rw[Od,<-rv.length];exact UR hz));obtain⟨c',e10⟩:=abx;have aby:Vk.get? s2.heap.objs.size=some (cj (MY++[yv]) c'):=by rw[e10];simp
    have I10:Inv (O7 X scope cl x P2.objs.size s2 H2 fp aa) [] (some xv::σ) H9 { s9 with heap:=Vk }:=by
     have I9e:Inv (O7 X scope cl x P2.objs.size s2 H2 fp aa) [] (some xv::σ) H9 s9:=Yg.V5 λp hp=>Nc hp (by simp);refine I9e.turned (t':=s9.toks) (it:=s2.heap.objs.size) (λb o hb q=>(XN.2 b hb).trans q) nD Uh (.inr (Nl _)) (λy cc q=>?_) λp hp=>?_
     .obtain⟨v,z⟩:=I2.cell y cc (U4 y cc q);exact N0 z.lt
     .have Yh:p∈X.pn++aa:=by
       have z:p∈(X.pn++aa)++[]:=hp;simpa using z
      exact N0 (NC (I2.pin p Yh).1)
    have I11:Inv (O7 X scope cl x P2.objs.size s2 H2 fp aa) [(s2.heap.objs.size,cj (MY++[yv]) c')] (some xv::σ) H9 { s9 with heap:=Vk }:=
     I10.V5 λp hp=>by rw[Pl.mp hp];exact⟨aby,nD,Uh,nf,λv q=>nomatch q⟩
    refine M1 (M1 ⟨rfl,m',hm,i+1,ys++[y],MY++[yv],c',H9,_,I11,?_,fr9,rv.append (.cons r9 .nil),w9⟩);exact T.keep _ _ _ t9 λb hb o q=>(XN.2 b (Vi b hb)).trans q
 exact codeAny_compStart_list (loop _ rfl) (T.self X.A 0 _ _ _ (T.keep _ _ _ Pc (λb _ o e=>old b o e)) (loop _ rfl))
end
end L2
namespace Ord
open PySem L2 Mx
section
def fX (ms:List Nat):List V:=ms.map λm:Nat=>V.int m
theorem Ci {ms:List Nat}(h:k<ms.length):Qj (fX ms) (k:Int)=some (.int ((ms.getD k 0:Nat):Int)):=cG (by
 unfold fX;rw[Pa,Ou h,UH,Ou h];rfl)
def wS (K:MZ):Sp:=λvs H Q _=>∃(many first:Nat) (l:A') (ms:List Nat),vs=[.int many,.ref l,.int first]/\Nj K H l (fX ms)/\many<=8/\(first=0\/(1<first/\first<ms.length/\ms.getD first 0=2 ^ many-1))/\Q .Nr H
theorem Ex:N3 ["many","things","first"] ["many","things","first"] (am uH):=⟨rfl,rfl,rfl,by decide +kernel,rfl,by decide +kernel,by decide +kernel⟩
theorem Cj (F:NE K "look_first" "look_first" uH f fd)(T:Oy K mg CO):Nq P w K mg base Nb 1 f fd ["many","things","first"] (wS K):=by
 refine F.ok Ex (λvs H Q E h=>?_) (λNo A outer s H vs Q E hr h=>?_)
 .obtain⟨many,first,l,ms,rfl,_⟩:=h;rfl
 obtain⟨many,first,l,ms,rfl,ql,m8,hfi,z⟩:=h;obtain⟨t0,m0⟩:=T.no;obtain⟨t1,m1⟩:=T.en;refine⟨_,ad (aD (ar bf (pv 2) (aM (v:=.int 0) rfl m0 ⟨t0,rfl⟩) (aw _)) (af pA) au)
  (ad (aD (cf (jO iL iL (aM (v:=.int 1) rfl m1 ⟨t1,rfl⟩) (pv 2) (aQ bd rfl T.t.len cq (ac (pv 1) ae)))) (af ao) au)
  (af (aD (ar fS (ay (show Np _ (gM K) from cL) (pv 1) (pv 2) (λ_ _=>rfl)) (aO jm (aO sZ ag (pv 0)) ag) (aw _)) (af ao) au))),?_⟩
 refine⟨_,rfl,rfl,_,rfl,?_⟩
 by_cases c:first=0
 .subst c;exact aZ z
 rw[Ny (λh=>c (by have:=V.int.inj h;lia))];refine aA ?_;obtain⟨f1,f2,f3⟩:1<first/\first<ms.length/\ms.getD first 0=2 ^ many-1:=by rcases hfi with h|h;exact Nc h c;exact h
 refine⟨_,rfl,1,(first:Int),rfl,rfl,_,rfl,?_⟩;rw[Nz (show(1:Int)<first by lia)];refine aZ ⟨_,rfl,l,_,rfl,.inl ql,(first:Int),_,rfl,rfl,_,rfl,?_⟩;have hl:(fX ms).length=ms.length:=NT _;rw[hl,Nz (show(first:Int)<(ms.length:Nat) by lia)];refine aA ?_;refine⟨_,rfl,_,rfl,l,_,(first:Int),_,rfl,rfl,ql,Ci f2,?_⟩;refine⟨_,rfl,1,(many:Int),rfl,rfl,⟨by lia,by lia,by decide⟩,_,1,rfl,rfl,rfl,_,rfl,?_⟩;have e1:(1:Int)*2 ^ ((many:Int)).toNat-1=((2 ^ many-1:Nat):Int):=by
  rw[QQ,Int.one_mul,Int.natCast_sub (Nat.one_le_two_pow)];simp
 have e2:(!decide (V.int ((ms.getD first 0:Nat):Int)=V.int (1*2 ^ ((many:Int)).toNat-1)))=false:=by
  rw[e1,f3,Nz rfl];rfl
 show(λ(b:Bool) (H1:Hp)=>if b=true then _ else _) (!decide (V.int ((ms.getD first 0:Nat):Int)=V.int (1*2 ^ ((many:Int)).toNat-1))) H;rw[e2];exact aA z
def wT (K:MZ):Sp:=λvs H Q _=>∃(many number:Int) (x:V) (r:Bk.MX),vs=[.int many,x,.int number]/\bD K H x r/\r≠[]/\(r.map (·.1)).Pairwise (· < ·)/\(∀d∈r,0<=d.1/\d.1<many/\1<=d.2/\d.2<number)/\Q .Nr H
theorem mf:N3 ["many","room","number","last","door"] ["many","room","number"] (am uG):=⟨rfl,rfl,rfl,by decide +kernel,rfl,by decide +kernel,by decide +kernel⟩
theorem Ck (F:NE K "look_doors" "look_doors" uG f fd)(T:Oy K mg CO)(WD:Df P w K mg base Nb 2 "is_door" ["door"] (wQ K)):Nq P w K mg base Nb 3 f fd ["many","room","number"] (wT K):=by
 refine F.ok mf (λvs H Q E h=>?_) (λNo A outer s H vs Q E hr h=>?_)
 .obtain⟨many,number,x,r,rfl,_⟩:=h;rfl
 obtain⟨many,number,x,r,rfl,⟨a,xs,rfl,q,pr⟩,ne,rise,all,z⟩:=h;obtain⟨t1,m1⟩:=T.en;refine⟨_,ad (aD (PW.pt (gQ (cf (cp (aQ cZ rfl T.t.Sm fT (ac (pv 1) (ac (dM (v:=.ty "tuple") rfl T.t.tuple dB rfl) ae)))))
    (ig (ar bf (aQ bd rfl T.t.len cq (ac (pv 1) ae)) ag (aw _))))) (af ao) au)
  (ad (aV (i:=3) mf.nd rfl (NB rfl) (Dg ze ag))
  (af (PS.QJ (dQ RL rfl (im (pv 1)) (cJ (i:=4) mf.nd rfl (NB rfl))
   (ad (aD (cf (cp (aE WD hr rfl (az (E:=λ_ _ _ _=>False)) (ac (pv 4) ae)))) (af ao) au)
   (ad (aD (cf (jO iL iL (pv 3) (ay (show Np _ (aU K) from ax) (pv 4) ag (λ_ _=>rfl)) (pv 0))) (af ao) au)
   (ad (aD (cf (jO iM iL (aM (v:=.int 1) rfl m1 ⟨t1,rfl⟩) (ay (show Np _ (aU K) from ax) (pv 4) ag (λ_ _=>rfl)) (pv 2))) (af ao) au)
   (af (aV (i:=3) mf.nd rfl (NB rfl) (ay (show Np _ (aU K) from ax) (pv 4) ag (λ_ _=>rfl))))))))))),?_⟩
 refine⟨_,rfl,_,_,_,_,_,rfl,rfl,.tup q,jt,_,rfl,aA ?_⟩;have hlen:=pr.length;have U5:0<xs.length:=by rw[hlen];exact Xb.mpr ne
 refine⟨_,rfl,a,_,rfl,.inr q,rfl,_,rfl,?_⟩;rw[Ny (λh=>by have:=V.int.inj h;lia)];refine aA ?_;refine⟨1,rfl,?_⟩;refine⟨_,rfl,a,rfl,⟨_,q⟩,lE (K:=K) (a:=a) (xs:=xs) (λi σ H2=>∃(last:Int) (v4:Option V),σ=[some (.int many),some (.ref a),some (.int number),some (.int last),v4]/\H2=H/\∀d,r[i]?=some d->last<d.1) ⟨-1,none,rfl,rfl,λd hd=>?_⟩ ?_ ?_ ?_⟩
 .have:=(all d (Oo hd)).1;lia
 .rintro i σ H2 _ ⟨last,v4,rfl,rfl,_⟩;exact q
 .rintro i y σ H2 hx ⟨last,v4,rfl,rfl,lt⟩;obtain⟨⟨dt,dk⟩,hd,p,rfl,qd⟩:=cy pr hx;obtain⟨d0,d1,d2,d3⟩:=all _ (Oo hd);have l1:last<dt:=lt _ hd;refine⟨_,rfl,.ref p,(dt,dk),rfl,⟨p,rfl,qd⟩,_,rfl,aA ?_⟩;refine⟨_,rfl,_,rfl,p,_,0,.int dt,rfl,rfl,qd,bU,last,dt,rfl,rfl,_,rfl,?_⟩;rw[Nz l1];refine aZ ⟨_,rfl,dt,many,rfl,rfl,_,rfl,?_⟩;rw[Nz (show dt<many from d1)];refine aA ?_;refine⟨_,rfl,p,_,1,.int dk,rfl,rfl,qd,fW,1,dk,rfl,rfl,_,rfl,?_⟩;rw[Nz (show 1<=dk from d2)];refine aZ ⟨_,rfl,dk,number,rfl,rfl,_,rfl,?_⟩;rw[Nz (show dk<number from d3)];refine aA ?_;refine⟨_,rfl,p,_,0,.int dt,rfl,rfl,qd,bU,dt,some (.ref p),rfl,rfl,λd QZ=>?_⟩;obtain⟨i1,e1⟩:=OA.mp hd;obtain⟨i2,e2⟩:=OA.mp QZ;have:=abY.mp rise i (i+1) (by simpa using i1) (by simpa using i2) (Xk _);rw[List.getElem_map,List.getElem_map,e1,e2] at this;exact this
 .rintro σ H2 ⟨last,v4,rfl,rfl,_⟩;exact z
theorem MT {ns:List Int}:fX (ns.map Int.toNat)=(ns.map Int.toNat).map λm:Nat=>V.int m:=rfl
def uK (K:MZ):Sp:=λvs H Q _=>∃(x:V) (r:Bk.MX) (l:A') (ms:List Nat) (m:Nat),vs=[x,.ref l]/\bD K H x r/\r≠[]/\r.length<=8/\Nj K H l (fX ms)/\
 (∀d∈r,0<=d.1/\d.1<8/\0<=d.2/\d.2<ms.length/\(ms.getD d.2.toNat 0).testBit d.1.toNat=false/\Bk.md ms d=m)/\∀H',aB H H'->Q (.int (m:Int)) H'
theorem uL:N3 ["room","things","found"] ["room","things"] (am me):=⟨rfl,rfl,rfl,by decide +kernel,rfl,by decide +kernel,by decide +kernel⟩
theorem Ak (F:NE K "things_of_room" "things_of_room" me f fd)(T:Oy K mg CO)(WT:Df P w K mg base Nb 1 "things_through" ["door","things"] (rj K)):Nq P w K mg base Nb 2 f fd ["room","things"] (uK K):=by
 refine F.ok uL (λvs H Q E h=>?_) (λNo A outer s H vs Q E hr h=>?_)
 .obtain⟨x,r,l,ms,m,rfl,_⟩:=h;rfl
 obtain⟨x,r,l,ms,m,rfl,⟨a,xs,rfl,q,pr⟩,ne,r8,ql,all,z⟩:=h;refine⟨_,ad (hZ (i0:=2) uL.nd rfl (NB rfl) rfl (show Qf (am me) ["room","things","found"] _ _ from by constructor <;> decide +kernel) (im (pv 0)) (λ_ _ _ _ _ _=>hG)
    (λcl C NY OM fp aa=>aE WT hr rfl (az (E:=λ_ _ _ _=>False)) (ac (pv 0) (ac (pv 2) ae))) rfl)
  (ad (aD (ar (tK hr.XH) (pv 2) (aO Fn (bW (ac (ay (show Np _ (gM K) from cL) (pv 2) ag (λ_ _=>rfl)) ae)) (aQ bd rfl T.t.len cq (ac (pv 2) ae))) (aw _)) (af ao) au)
  (af (aH (ay (show Np _ (gM K) from cL) (pv 2) ag (λ_ _=>rfl))))),?_⟩
 refine⟨_,rfl,a,rfl,⟨_,q⟩,mY (K:=K) (a:=a) (xs:=xs) (λi ys H'=>H'=H/\ys=OJ i (V.int (m:Int))) ⟨rfl,rfl⟩ ?_ (by have:=pr.length;rw[NU];lia) ?_ ?_⟩
 .rintro i ys H' hi ⟨rfl,rfl⟩;exact⟨q,by simp⟩
 .rintro i x ys H' hx ⟨rfl,rfl⟩;obtain⟨⟨dt,dk⟩,hd,p,rfl,qd⟩:=cy pr hx;obtain⟨a1,a2,a3,a4,a5,a6⟩:=all _ (Oo hd);refine Wf (aZ ?_);refine⟨_,rfl,_,rfl,.ref p,l,ms,(dt,dk),rfl,⟨p,rfl,qd⟩,ql,a1,a2,a3,a4,a5,rfl,?_⟩;rw[a6,aeD]
 rintro ys H' p ⟨rfl,rfl⟩ Yl;have hlen:=pr.length;have U5:0<xs.length:=by rw[hlen];exact Xb.mpr ne
 have s1:aB H' (upd H' p (.lst (OJ xs.length (V.int (m:Int))))):=ak Yl _;have at0:Qj (OJ xs.length (V.int (m:Int))) 0=some (V.int (m:Int)):=cG (j:=0) (by rw[aei,M6 U5]);have lr:(OJ xs.length (V.int (m:Int))).length=xs.length:=aew;refine⟨_,rfl,_,rfl,p,_,0,.int (m:Int),rfl,rfl,Nj.up,at0,by show 1<=Nh;decide,λl0 RS=>?_⟩;have s2:aB (upd H' p (.lst (OJ xs.length (V.int (m:Int))))) (upd (upd H' p (.lst (OJ xs.length (V.int (m:Int))))) l0 (.lst [V.int (m:Int)])):=ak RS _;have θ:(upd (upd H' p (.lst (OJ xs.length (V.int (m:Int))))) l0 (.lst [V.int (m:Int)])) p=some (.lst (OJ xs.length (V.int (m:Int)))):=s2 _ _ al;refine⟨_,rfl,p,_,rfl,.inl (.inl (.inl θ)),l0,((OJ xs.length (V.int (m:Int))).length:Nat),[V.int (m:Int)],rfl,rfl,al,by lia,by rw[lr];lia,by rw[lr,NU];simp;lia,λl1 Q7=>?_⟩;have e0:∀k:Nat,(OJ k [V.int (m:Int)]).flatten=OJ k (V.int (m:Int)):=λk=>by
  induction k with
  | zero=>rfl
  | succ k ih=>rw[VJ,Y6,ih,VJ];rfl
 rw[lr,QQ,e0];have fl:(OJ xs.length (V.int (m:Int))).all dC=true:=by
  rw[Sy];intro y hy;rw[List.eq_of_mem_replicate hy];rfl
 have QK:=(ak Q7 (.lst (OJ xs.length (V.int (m:Int))))) _ _ θ;refine⟨p,l1,_,_,rfl,rfl,.inl (.inl QK),Nj.up,fl,fl,_,rfl,?_⟩;have ee:fz (OJ xs.length (V.int (m:Int))) (OJ xs.length (V.int (m:Int)))=true:=by
  have:=kL (OJ xs.length (m:Int)) (OJ xs.length (m:Int));rw[List.map_replicate,Nz rfl] at this;exact this
 rw[ee];refine aA ?_;exact⟨_,rfl,p,_,0,.int (m:Int),rfl,rfl,.inl (.inl QK),at0,z _ ((s1.trans s2).trans (ak Q7 _))⟩
end
end Ord
namespace Bk
open Mx
theorem Cm {r:MX}(rise:(r.map (·.1)).Pairwise (· < ·))(h:∀d∈r,0<=d.1/\d.1<8):r.length<=8:=by
 have nd:(r.map (·.1)).Nodup:=rise.imp λh e=>Nc h (by rw[e];lia);have:=L2.dE (r.map (·.1)) (bw 8) nd λx hx=>by
  obtain⟨d,hd,rfl⟩:=NR.mp hx;exact dc.mpr (h d hd)
 rw[NT,eB] at this;exact this
theorem yo (m:Vr rs)(w:WF rs){i:Nat}(h:rs[i]?=some r):
  (∀d∈r,0<=d.1/\d.1<8/\0<=d.2/\d.2<((cm (rs.take i)).length:Nat)/\((cm (rs.take i)).getD d.2.toNat 0).testBit d.1.toNat=false/\md (cm (rs.take i)) d=O3 rs (i+2))/\cm (rs.take (i+1))=cm (rs.take i)++[O3 rs (i+2)]:=by
 have il:=(OA.mp h).1;have tl:(rs.take i).length=i:=by rw[Qb];lia
 have ml:=fN (rs.take i);have ok:=w i r h;have each:∀d∈r,0<=d.1/\d.1<8/\0<=d.2/\d.2<((cm (rs.take i)).length:Nat)/\((cm (rs.take i)).getD d.2.toNat 0).testBit d.1.toNat=false/\md (cm (rs.take i)) d=O3 rs (i+2):=λd hd=>by
  obtain⟨a1,a2,a3,a4⟩:=m i r h d hd;obtain⟨b1,b2⟩:=ok.ahead d hd;have e:(cm (rs.take i)).getD d.2.toNat 0=O3 rs d.2.toNat:=(fO (acB i rs) (by rw[tl];lia)).symm;refine⟨a1,a2,by lia,by rw[ml,tl];lia,by rw[e];exact a3,?_⟩;unfold md;rw[e];exact a4
 refine⟨each,?_⟩;rw[Ta,h];unfold cm;rw[Xg,UO];show iT (cm (rs.take i)) r=_;unfold iT;cases r with
 | nil=>exact Nc rfl ok.ne
 | cons d r=>rw[List.headD_cons,(each d Nu).2.2.2.2.2];rfl
end Bk
namespace L2
theorem aB.Po (e:aB H H')(h:Nj K H a xs):Nj K H' a xs:=by
 rcases h with(h|⟨o,h⟩)|h
 .exact .inl (.inl (e _ _ h))
 .exact .inl (.inr ⟨o,e _ _ h⟩)
 .exact .inr h
end L2
namespace Ord
open PySem L2 Mx
section
structure adm (many:Int)(rs):Prop where
 wf:Bk.WF rs
 mask:Bk.Vr rs
 less:∀r∈rs,∀d∈r,d.1<many
 NH:rs.length<=1000
def Al (K:MZ):Sp:=λvs H Q _=>∃(many:Int) (l:A') (xs:List V) (rs:List Bk.MX),vs=[.int many,.ref l]/\Nj K H l xs/\Nd (bD K H) xs rs/\adm many rs/\
 ∀(t:A') (H':Hp),aB H H'->H' t=some (.lst (fX (Bk.cm rs)))->Q (.ref t) H'
theorem uM:N3 ["many","rooms","things","room"] ["many","rooms"] (am ym):=⟨rfl,rfl,rfl,by decide +kernel,rfl,by decide +kernel,by decide +kernel⟩
theorem Ey (F:NE K "things_from" "things_from" ym f fd)(T:Oy K mg CO)(WD:Df P w K mg base Nb 3 "look_doors" ["many","room","number"] (wT K))(WO:Df P w K mg base Nb 2 "things_of_room" ["room","things"] (uK K)):
  Nq P w K mg base Nb 4 f fd ["many","rooms"] (Al K):=by
 refine F.ok uM (λvs H Q E h=>?_) (λNo A outer s H vs Q E hr h=>?_)
 .obtain⟨many,l,xs,rs,rfl,_⟩:=h;rfl
 obtain⟨many,l,xs,rs,rfl,ql,pr,W,z⟩:=h;refine⟨_,ad (aV (i:=2) uM.nd rfl (NB rfl) (bW (ac ag (ac ag ae))))
  (ad (PS.QJ (dQ RL rfl (cX (pv 1)) (cJ (i:=3) uM.nd rfl (NB rfl))
   (ad (bE (aE WD hr rfl (az (E:=λ_ _ _ _=>False)) (ac (pv 0) (ac (pv 3) (ac (aQ bd rfl T.t.len cq (ac (pv 2) ae)) ae)))))
   (af (bE (gR UI VE VF eP (pv 2) (ac (aE WO (hr.mono (by decide)) rfl (az (E:=λ_ _ _ _=>False)) (ac (pv 3) (ac (pv 2) ae))) ae)))))))
  (af (aH (pv 2)))),?_⟩
 refine⟨by show 2<=Nh;decide,λt ht=>?_⟩;have s1:aB H (upd H t (.lst [V.int 0,V.int 0])):=ak ht _;have hlen:=pr.length;refine⟨_,rfl,l,rfl,⟨_,s1.Po ql⟩,fu (K:=K) (a:=l) (xs:=xs) (λi σ H2=>∃v3,σ=[some (.int many),some (.ref l),some (.ref t),v3]/\aB H H2/\H2 t=some (.lst (fX (Bk.cm (rs.take i))))) ⟨none,rfl,s1,al⟩ ?_ ?_ ?_⟩
 .rintro i σ H2 _ ⟨v3,rfl,s2,_⟩;exact s2.Po ql
 .rintro i x σ H2 hx ⟨v3,rfl,s2,Rq⟩;obtain⟨r,Q3,ra⟩:=cy pr hx;have il:=(OA.mp Q3).1;have NH:=W.NH;have tl:(rs.take i).length=i:=by rw[Qb];lia
  have ok:=W.wf i r Q3;obtain⟨mt,ms⟩:=Bk.yo W.mask W.wf Q3;have mem:=Oo Q3;have ml:(fX (Bk.cm (rs.take i))).length=i+2:=by unfold fX;rw[NT,Bk.fN,tl]
  refine⟨_,rfl,_,rfl,_,rfl,t,_,rfl,.inl (.inl (.inl Rq)),many,_,x,r,rfl,ra.same s2,ok.ne,ok.rise,λd hd=>⟨(mt d hd).1,W.less r mem d hd,(ok.ahead d hd).1,?_⟩,?_⟩
  .rw[ml];have:=(ok.ahead d hd).2;lia
  refine⟨_,rfl,.inl ⟨rfl,_,.inl (.inl Rq)⟩,_,rfl,_,rfl,x,r,t,Bk.cm (rs.take i),Bk.O3 rs (i+2),rfl,ra.same s2,ok.ne,Bk.Cm ok.rise (λd hd=>⟨(mt d hd).1,(mt d hd).2.1⟩),.inl (.inl Rq),mt,λH3 s3=>?_⟩;refine⟨t,_,_,rfl,rfl,s3 _ _ Rq,by rw[ml,NU];lia,?_⟩;have tH:H t=none:=ht;refine⟨_,rfl,λb o e=>?_,?_⟩
  .rw[aq (av e tH)];exact s3 b o (s2 b o e)
  .rw[al,ms];unfold fX;rw[QF];rfl
 .rintro σ H2 ⟨v3,rfl,s2,Rq⟩;rw[hlen,Rf] at Rq;exact⟨_,rfl,z t H2 s2 Rq⟩
end
end Ord
namespace Bk
open Mx
structure Wd (rs:List MX)(ws:List Int):Prop where
 nd:ws.Nodup
 inn:∀x∈ws,0<=x/\x<(rs.length:Int)+2
 z:(0:Int)∈ws
 o:(1:Int)∈ws
theorem Wd.len (w:Wd rs ws):ws.length<=rs.length+2:=by
 have:=L2.dE ws (bw (rs.length+2)) w.nd λx hx=>dc.mpr (by have:=w.inn x hx;lia);rw[eB] at this;exact this
theorem wU (wf:WF rs):∀(n:Nat) (k:Int) (ws:List Int),fe n rs k->Wd rs ws->Wd rs (walk n rs k ws)/\(∀x∈ws,x∈walk n rs k ws)/\∀x∈walk n rs k ws,x∈ws\/x<=k
 | 0,k,ws,f,w=>⟨w,λ_ h=>h,λx h=>.inl h⟩
 | n+1,k,ws,f,w=>by
  unfold walk
  by_cases c:k∈ws
  .rw[M6 c];exact⟨w,λ_ h=>h,λx h=>.inl h⟩
  rw[M0 c];obtain⟨k2,kl,fd⟩:2<=k/\(k-2).toNat<rs.length/\∀d∈bj rs k,fe n rs d.2:=by
   rcases f with f|f|f
   .exact Nc (f▸w.z) c
   .exact Nc (f▸w.o) c
   .exact f
  have ok:=wf _ _ (gI kl);have fold:∀(ds:MX) (ws:List Int),(∀d∈ds,fe n rs d.2/\d.2<k)->Wd rs ws->Wd rs (ds.foldl (λw d=>walk n rs d.2 w) ws)/\(∀x∈ws,x∈ds.foldl (λw d=>walk n rs d.2 w) ws)/\∀x∈ds.foldl (λw d=>walk n rs d.2 w) ws,x∈ws\/x<k:=by
   intro ds
   induction ds with
   | nil=>intro ws _ w;exact⟨w,λ_ h=>h,λx h=>.inl h⟩
   | cons d ds ih=>
    intro ws hd w;obtain⟨a1,a2,a3⟩:=wU wf n d.2 ws (hd d Nu).1 w;obtain⟨b1,b2,b3⟩:=ih (walk n rs d.2 ws) (λd' h'=>hd d' (NP _ h')) a1;refine⟨b1,λx hx=>b2 x (a2 x hx),λx hx=>?_⟩;rcases b3 x hx with h|h
    .rcases a3 x h with h|h
     .exact .inl h
     .exact .inr (Int.lt_of_le_of_lt h (hd d Nu).2)
    .exact .inr h
  obtain⟨a1,a2,a3⟩:=fold (bj rs k) ws (λd hd=>⟨fd d hd,by have:=(ok.ahead d hd).2;lia⟩) w;have kn:k∉(bj rs k).foldl (λw d=>walk n rs d.2 w) ws:=λh=>by
   rcases a3 k h with h|h
   .exact c h
   .omega
  refine⟨⟨?_,λx hx=>?_,R3 _ a1.z,R3 _ a1.o⟩,λx hx=>R3 _ (a2 x hx),λx hx=>?_⟩
  .rw[TZ];exact⟨a1.nd,by simp,λx hx y hy=>by rw[Pl.mp hy];rintro rfl;exact kn hx⟩
  .rcases Ov.mp hx with h|h
   .exact a1.inn x h
   .rw[Pl.mp h];lia
  .rcases Ov.mp hx with h|h
   .rcases a3 x h with h|h
    .exact .inl h
    .exact .inr (by lia)
   .rw[Pl.mp h];exact .inr (Int.le_refl _)
theorem lh (wf:WF rs)(w:Wd rs ws)(kl:(k-2).toNat<rs.length)(k2:2<=k)(c:k∉ws)(fd:∀d∈bj rs k,fe n rs d.2):
  ∀i,i<=(bj rs k).length->Wd rs (((bj rs k).take i).foldl (λw d=>walk n rs d.2 w) ws)/\k∉((bj rs k).take i).foldl (λw d=>walk n rs d.2 w) ws
 | 0,_=>⟨w,c⟩
 | i+1,h=>by
  obtain⟨a1,a2⟩:=lh wf w kl k2 c fd i (by lia);have hi:i<(bj rs k).length:=by lia
  have e:(bj rs k).take (i+1)=(bj rs k).take i++[(bj rs k)[i]]:=by rw[Ta,Ou hi];rfl
  rw[e,UO];show Wd rs (walk n rs (bj rs k)[i].2 _)/\k∉walk n rs (bj rs k)[i].2 _;have mem:(bj rs k)[i]∈bj rs k:=UQ hi;have ok:=(wf _ _ (gI kl)).ahead _ mem;obtain⟨b1,b2,b3⟩:=wU wf n _ _ (fd _ mem) a1;refine⟨b1,λhk=>?_⟩;rcases b3 k hk with z|z
  .exact a2 z
  .omega
end Bk
namespace L2
open PySem
def bF (d:A')(H H':Hp):Prop:=∀b o,b≠d->H b=some o->H' b=some o
section
theorem bF.refl (d)(H):bF d H H:=λ_ _ _ e=>e
theorem bF.trans (e:bF d H H')(e':bF d H' TF):bF d H TF:=λb o n h=>e' b o n (e b o n h)
theorem bF.upd (o):bF d H (L2.upd H d o):=λb u n h=>by rw[aq n];exact h
theorem bF.NM (e:bF d H H')(hd:H d=some (.dK kvs))(h:Ni K H a xs):Ni K H' a xs:=by
 rcases h with(h|⟨o,h⟩)|h
 .exact .inl (.inl (e _ _ (by rintro rfl;rw[hd] at h;cases h) h))
 .exact .inl (.inr ⟨o,e _ _ (by rintro rfl;rw[hd] at h;cases h) h⟩)
 .exact .inr h
theorem bF.Po (e:bF d H H')(hd:H d=some (.dK kvs))(h:Nj K H a xs):Nj K H' a xs:=by
 rcases h with(h|⟨o,h⟩)|h
 .exact .inl (.inl (e _ _ (by rintro rfl;rw[hd] at h;cases h) h))
 .exact .inl (.inr ⟨o,e _ _ (by rintro rfl;rw[hd] at h;cases h) h⟩)
 .exact .inr h
end
theorem cx {α:Type}{l:List α}{i:Nat}{x:α}(h:l[i]?=some x):l.take (i+1)=l.take i++[x]:=by rw[Ta,h];rfl
def RF (ws:List Int):List (Key×V):=ws.map λk=>(O5 k,V.bl true)
theorem pQ (ws)(k:Int):(cz (RF ws) (.inl k)).isSome=decide (k∈ws):=by
 induction ws with
 | nil=>rfl
 | cons x ws ih=>
  by_cases h:x=k
  .subst h;show(cz ((O5 x,V.bl true)::RF ws) (.inl x)).isSome=_;rw[dY rfl];simp
  .show(cz ((O5 x,V.bl true)::RF ws) (.inl k)).isSome=_;rw[dZ (by intro e;exact h (Xu e)),ih];simp[N1 h]
theorem Ez (h:k∉ws):dy (RF ws) (.inl k) (.bl true)=RF (ws++[k]):=by
 unfold dy;rw[jT,pQ,Ny h,M0 (by decide)];unfold RF;rw[QF];rfl
end L2
namespace Ord
open PySem L2 Mx
section
theorem bD.afl (s:bF d H H')(hd:H d=some (.dK kvs))(h:bD K H x r):bD K H' x r:=by
 obtain⟨a,xs,e,q,z⟩:=h;exact⟨a,xs,e,s.NM hd q,aX (λ_ _ ⟨p,e,q⟩=>⟨p,e,s.NM hd q⟩) z⟩
def oB (K:MZ)(n:Nat):Sp:=λvs H Q _=>∃(l wd:A') (xs:List V) (rs:List Bk.MX) (k:Int) (ws:List Int),vs=[.ref l,.int k,.ref wd]/\Nj K H l xs/\Nd (bD K H) xs rs/\Bk.WF rs/\rs.length<=1000/\
 H wd=some (.dK (RF ws))/\Bk.Wd rs ws/\Bk.fe n rs k/\∀H',bF wd H H'->H' wd=some (.dK (RF (Bk.walk n rs k ws)))->Q .Nr H'
theorem Am:N3 ["rooms","number","walked","door"] ["rooms","number","walked"] (am sG):=⟨rfl,rfl,rfl,by decide +kernel,rfl,by decide +kernel,by decide +kernel⟩
theorem uN (F:NE K "walk_rooms" "walk_rooms" sG f fd)(T:Oy K mg CO)(n:Nat)(WW:∀m,n=m+1->Df P w K mg base Nb (m+1) "walk_rooms" ["rooms","number","walked"] (oB K m)):
  Nq P w K mg base Nb (n+1) f fd ["rooms","number","walked"] (oB K n):=by
 refine F.ok Am (λvs H Q E h=>?_) (λNo A outer s H vs Q E hr h=>?_)
 .obtain⟨l,wd,xs,rs,k,ws,rfl,_⟩:=h;rfl
 obtain⟨l,wd,xs,rs,k,ws,rfl,ql,pr,wf,NH,SM,W,Ro,z⟩:=h;obtain⟨t2,m2⟩:=T.low
 by_cases c:k∈ws
 .refine⟨_,ad (aD (y8 (zI (sA hr) (pv 1) (pv 2))) (af pA) au) (ad ao (af ao)),?_⟩;refine⟨_,rfl,_,rfl,wd,_,rfl,ir.k (k:=.inl k) SM,_,rfl,?_⟩;rw[pQ,Nz c];refine aZ ?_;rw[Bk.ma c] at z;exact z H (bF.refl _ _) SM
 cases n with
 | zero=>
  exfalso;rcases Ro with e|e
  .exact c (e▸W.z)
  .exact c (e▸W.o)
 | succ n=>
  obtain⟨k2,kl,Yo⟩:2<=k/\(k-2).toNat<rs.length/\∀d∈Bk.bj rs k,Bk.fe n rs d.2:=by
   rcases Ro with e|e|e
   .exact Nc (e▸W.z) c
   .exact Nc (e▸W.o) c
   .exact e
  have D:=WW n rfl;refine⟨_,ad (aD (y8 (zI (sA hr) (pv 1) (pv 2))) (af pA) au)
   (ad (PS.QJ (dQ RL rfl (im (ay (show Np _ (gM K) from cL) (pv 0) (aO jm (pv 1) (aM (v:=.int 2) rfl m2 ⟨t2,rfl⟩)) (λ_ _=>rfl))) (cJ (i:=3) Am.nd rfl (NB rfl))
    (af (bE (aE D hr rfl (az (E:=λ_ _ _ _=>False)) (ac (pv 0) (ac (ay (show Np _ (aU K) from ax) (pv 3) ag (λ_ _=>rfl)) (ac (pv 2) ae))))))))
   (af (Eb (sA hr) (pv 2) (pv 1) xE rfl))),?_⟩
  refine⟨_,rfl,_,rfl,wd,_,rfl,ir.k (k:=.inl k) SM,_,rfl,?_⟩;rw[pQ,Ny c];refine aA ?_;obtain⟨x,hx,ra⟩:=fU pr (Bk.gI kl);obtain⟨a,ys,rfl,qa,pd⟩:=id ra;have ik:Qj xs (k-2)=some (.ref a):=by
   have:=cG hx;rw[show(((k-2).toNat:Nat):Int)=k-2 by lia] at this;exact this
  refine⟨_,rfl,_,rfl,k,2,rfl,rfl,l,xs,k-2,.ref a,rfl,rfl,ql,ik,a,rfl,⟨_,qa⟩,
   lE (K:=K) (a:=a) (xs:=ys) (λi σ H2=>∃v3,σ=[some (.ref l),some (.int k),some (.ref wd),v3]/\bF wd H H2/\H2 wd=some (.dK (RF (((Bk.bj rs k).take i).foldl (λw d=>Bk.walk n rs d.2 w) ws)))) ⟨none,rfl,bF.refl _ _,SM⟩ ?_ ?_ ?_⟩
  .rintro i σ H2 _ ⟨v3,rfl,s2,_⟩;exact s2.NM SM qa
  .rintro i y σ H2 hy ⟨v3,rfl,s2,h2⟩;obtain⟨⟨dt,dk⟩,hd,p,rfl,qd⟩:=cy pd hy;obtain⟨il,ie⟩:=OA.mp hd;obtain⟨wp,kp⟩:=Bk.lh wf W kl k2 c Yo i (by lia);refine⟨_,rfl,_,rfl,p,_,1,.int dk,rfl,rfl,s2.NM SM qd,fW,_,rfl,l,wd,xs,rs,dk,_,rfl,s2.Po SM ql,aX (λ_ _ z=>z.afl s2 SM) pr,wf,NH,h2,wp,Yo _ (Oo hd),λH3 s3 h3=>?_⟩;refine⟨_,rfl,s2.trans s3,?_⟩;rw[cx hd,UO];exact h3
  .rintro σ H2 ⟨v3,rfl,s2,h2⟩;have hl:=pd.length;obtain⟨wp,kp⟩:=Bk.lh wf W kl k2 c Yo (Bk.bj rs k).length (Nl _);rw[hl] at h2;rw[Rf] at h2 wp kp;refine⟨_,rfl,_,rfl,wd,_,rfl,tY.k (k:=.inl k) h2 ?_,?_⟩
   .unfold RF;rw[NT,NU];have:=wp.len;lia
   .refine z _ (s2.trans (bF.upd _)) ?_;have e:Bk.walk (n+1) rs k ws=(Bk.bj rs k).foldl (λw d=>Bk.walk n rs d.2 w) ws++[k]:=by rw[Bk.walk];exact M0 c
    rw[al,Ez kp,e]
theorem wV (F:NE K "walk_rooms" "walk_rooms" sG f fd)(T:Oy K mg CO)(b:bH K fd ["rooms","number","walked"] [])(m:mg "walk_rooms"=some (.ref f)):
  ∀n,Nq P w K mg base Nb (n+1) f fd ["rooms","number","walked"] (oB K n)
 | 0=>uN F T 0 λm h=>nomatch h
 | n+1=>uN F T (n+1) λk h=>by
  cases h;exact⟨f,fd,wV F T b m n,b,F.kp,m⟩
end
end Ord
namespace L2
open PySem
def enc (r:Bk.MX):List (List Int):=r.map λd=>[d.1,d.2]
theorem jA (h:enc r=enc r'):r=r':=by
 unfold enc at h;exact(List.map_inj_right (f:=λd:Int×Int=>[d.1,d.2]) (λa b e=>by
  simp only[List.cons.injEq,and_true] at e;exact XA e.1 e.2)).mp h
theorem yp:Qc "set"=some (.type "set"):=by decide +kernel
end L2
namespace Ord
open PySem L2 Mx
section
theorem bD.rep (h:bD K H x r):bS.rep K H x (enc r):=by
 obtain⟨a,xs,e,q,z⟩:=h;refine⟨a,xs,e,q,?_⟩;clear q e
 induction z with
 | nil=>exact .nil
 | cons h _ ih=>
  obtain⟨p,e,q⟩:=h;exact .cons ⟨p,_,e,q,.cons rfl (.cons rfl .nil)⟩ ih
theorem fP:∀{xs:List V}{rs:List Bk.MX},Nd (bD K H) xs rs->Nd (bS.rep K H) xs (rs.map enc)
 | _,_,.nil=>.nil
 | _,_,.cons h t=>.cons h.rep (fP t)
def wW (K:MZ)(n:Nat):Sp:=λvs H Q _=>∃(l:A') (xs:List V) (rs:List Bk.MX) (k:Int),vs=[.ref l,.int k]/\Nj K H l xs/\Nd (bD K H) xs rs/\Bk.WF rs/\rs.length<70/\rs.Nodup/\Bk.fe n rs k/\Bk.walk n rs k [0,1]=bw (rs.length+2)/\
 ∀H',aB H H'->Q .Nr H'
theorem wX:N3 ["rooms","first","walked"] ["rooms","first"] (am uJ):=⟨rfl,rfl,rfl,by decide +kernel,rfl,by decide +kernel,by decide +kernel⟩
theorem Cn (n:Nat)(F:NE K "look_turn" "look_turn" uJ f fd)(T:Oy K mg CO)(WW:Df P w K mg base Nb (n+1) "walk_rooms" ["rooms","number","walked"] (oB K n)):
  Nq P w K mg base Nb (n+2) f fd ["rooms","first"] (wW K n):=by
 refine F.ok wX (λvs H Q E h=>?_) (λNo A outer s H vs Q E hr h=>?_)
 .obtain⟨l,xs,rs,k,rfl,_⟩:=h;rfl
 obtain⟨l,xs,rs,k,rfl,ql,pr,wf,NH,nd,Ro,wk,z⟩:=h;obtain⟨t0,m0⟩:=T.no;obtain⟨t1,m1⟩:=T.en;obtain⟨t2,m2⟩:=T.low;refine⟨_,ad (aD (ar fS (aQ Ai rfl T.t.len cq (ac (bC (Ah bS (Jp P w) (by have:=hr.un;show(A.deeper _).units+1+1+1+1<ND;lia) rfl (λI h=>kP I h) (λ⟨p,_,e,_⟩=>⟨p,e⟩)) rfl T.set yp (ac (pv 0) ae)) ae))
    (aQ bd rfl T.t.len cq (ac (pv 0) ae)) (aw _)) (af ao) au)
  (ad (aV (i:=2) wX.nd rfl (NB rfl) (wB (jV (aM (v:=.int 0) rfl m0 ⟨t0,rfl⟩) xE (jV (aM (v:=.int 1) rfl m1 ⟨t1,rfl⟩) xE wA)) rfl rfl (by decide) (by decide)))
  (ad (bE (aE WW hr rfl (az (E:=λ_ _ _ _=>False)) (ac (pv 0) (ac (pv 1) (ac (pv 2) ae)))))
  (af (aD (ar (tK hr.XH) (bC (pK rfl) rfl T.t.list ju (ac (pv 2) ae))
    (bC (gN rfl) rfl T.t.list ju (ac (bC kK rfl T.t.range pH (ac (aO bR (aM (v:=.int 2) rfl m2 ⟨t2,rfl⟩) (aQ bd rfl T.t.len cq (ac (pv 0) ae))) ae)) ae)) (aw _))
   (af ao) au)))),?_⟩
 refine⟨_,rfl,.ref l,rs.map enc,rfl,⟨l,xs,rfl,ql,fP pr⟩,by rw[NT];exact NH,λp bs ks Yl pb ndk mem=>?_⟩;have s1:aB H (upd H p (jY w p bs)):=ak Yl _;have hlen:=pr.length;have ndm:(rs.map enc).Nodup:=by
  unfold Xw;rw[Sx];exact nd.imp λh e=>h (jA e)
 have lb:bs.length=xs.length:=by
  have h1:=dE ks (rs.map enc) ndk λx hx=>(mem x).mp hx;have h2:=dE (rs.map enc) ks ndm λx hx=>(mem x).mpr hx;have h3:=pb.length;rw[NT] at h1 h2;lia
 refine⟨p,bs,rfl,al,?_⟩;refine⟨_,rfl,l,_,rfl,.inl (s1.Po ql),rfl,_,rfl,?_⟩;rw[lb,Nz rfl];refine aA ?_;intro wd hw0;refine⟨al,[(O5 0,V.bl true),(O5 1,V.bl true)],rfl,by decide,?_⟩;have SM:(upd (upd (upd H p (jY w p bs)) wd (HO.dK [])) wd (HO.dK (gD [] [(O5 0,V.bl true),(O5 1,V.bl true)]))) wd=some (.dK (RF [0,1])):=by rw[al];rfl
 have s3:aB H (upd (upd (upd H p (jY w p bs)) wd (HO.dK [])) wd (HO.dK (gD [] [(O5 0,V.bl true),(O5 1,V.bl true)]))):=λb o e=>by
  have nb:b≠wd:=av (s1 b o e) hw0;rw[aq nb,aq nb];exact s1 b o e
 refine⟨_,rfl,_,rfl,_,rfl,l,wd,xs,rs,k,[0,1],rfl,s3.Po ql,aX (λ_ _ z=>z.same s3) pr,wf,by lia,SM,⟨by decide,λx hx=>?_,by decide,by decide⟩,Ro,λH4 s4 h4=>?_⟩
 .rcases NG.mp hx with rfl|hx
  .omega
  .rw[Pl.mp hx];lia
 rw[wk] at h4;have wdH:H wd=none:=s1.free hw0;have s5:aB H H4:=λb o e=>s4 b o (av e wdH) (s3 b o e);have e1:(RF (bw (rs.length+2))).map (λkv=>kV kv.1)=(bw (rs.length+2)).map V.int:=by
  unfold RF;rw[VZ];rfl
 refine⟨_,rfl,wd,_,rfl,h4,λl1 Q7=>?_⟩;rw[e1];have s6:=s5.trans (ak Q7 (.lst ((bw (rs.length+2)).map V.int)));refine⟨_,rfl,l,_,rfl,.inl (s6.Po ql),2,_,rfl,rfl,_,rfl,λr1 Yp=>?_⟩;have s7:=s6.trans (ak Yp (.RB 0 (2+((xs.length:Nat):Int))));refine⟨r1,0,2+((xs.length:Nat):Int),rfl,al,by lia,by lia,by lia,by lia,by lia,λl2 OD=>?_⟩;have e2:gm 0 (2+((xs.length:Nat):Int)-0).toNat=(bw (rs.length+2)).map V.int:=by
  rw[fK,show(2+((xs.length:Nat):Int)-0).toNat=rs.length+2 by lia]
 rw[e2];have afJ:(upd (upd (upd H4 l1 (.lst ((bw (rs.length+2)).map V.int))) r1 (.RB 0 (2+((xs.length:Nat):Int)))) l2 (.lst ((bw (rs.length+2)).map V.int))) l1=some (.lst ((bw (rs.length+2)).map V.int)):=
  ak OD _ _ _ (ak Yp _ _ _ al)
 refine⟨l1,l2,_,_,rfl,rfl,.inl (.inl afJ),Nj.up,fJ _,fJ _,_,rfl,?_⟩;rw[kL,Nz rfl];exact aA (z _ (s7.trans (ak OD _)))
end
section
structure ZA (many:Nat)(rs)(first:Nat):Prop where
 m1:1<=many
 m8:many<=8
 rooms:adm many rs
 NH:rs.length<70
 nd:rs.Nodup
 fst:first=0\/(1<first/\first<rs.length+2/\Bk.O3 rs first=2 ^ many-1)
 fits:Bk.fe 8 rs first
 walk:Bk.walk 8 rs first [0,1]=bw (rs.length+2)
theorem QV.same (s:aB H H')(h:QV K H x many rs first):QV K H' x many rs first:=by
 obtain⟨b,l,xs,e,q,ql,pr⟩:=h.ex;exact⟨b,l,xs,e,s.NM q,s.Po ql,aX (λ_ _ z=>z.same s) pr⟩
def An (K:MZ):Sp:=λvs H Q _=>∃(x:V) (many:Nat) (rs:List Bk.MX) (first:Nat),vs=[x]/\QV K H x many rs first/\ZA many rs first/\∀H',aB H H'->Q .Nr H'
theorem li:N3 ["book","many","rooms","first","things"] ["book"] (am sI):=⟨rfl,rfl,rfl,by decide +kernel,rfl,by decide +kernel,by decide +kernel⟩
theorem EA (F:NE K "look_book" "look_book" sI f fd)(WP:Df P w K mg base Nb 3 "look_parts" ["book"] (wR K))(WF':Df P w K mg base Nb 4 "things_from" ["many","rooms"] (Al K))(WL:Df P w K mg base Nb 1 "look_first" ["many","things","first"] (wS K))(WT:Df P w K mg base Nb 10 "look_turn" ["rooms","first"] (wW K 8)):Nq P w K mg base Nb 11 f fd ["book"] (An K):=by
 refine F.ok li (λvs H Q E h=>?_) (λNo A outer s H vs Q E hr h=>?_)
 .obtain⟨x,many,rs,first,rfl,_⟩:=h;rfl
 obtain⟨x,many,rs,first,rfl,B,W,z⟩:=h;obtain⟨b,l,xs,rfl,q,ql,pr⟩:=id B.ex;have ix:Np (eO Nb P w K mg base ["book","many","rooms","first","things"] "look_book" (am sI) f No A outer s H E).QJ (aU K):=ax;refine⟨_,ad (bE (aE WP (hr.mono (by decide)) rfl (az (E:=λ_ _ _ _=>False)) (ac (pv 0) ae)))
  (ad (aV (i:=1) li.nd rfl (NB rfl) (ay ix (pv 0) ag (λ_ _=>rfl)))
  (ad (aV (i:=2) li.nd rfl (NB rfl) (ay ix (pv 0) ag (λ_ _=>rfl)))
  (ad (aV (i:=3) li.nd rfl (NB rfl) (ay ix (pv 0) ag (λ_ _=>rfl)))
  (ad (aV (i:=4) li.nd rfl (NB rfl) (aE WF' (hr.mono (by decide)) rfl (az (E:=λ_ _ _ _=>False)) (ac (pv 1) (ac (pv 2) ae))))
  (ad (bE (aE WL (hr.mono (by decide)) rfl (az (E:=λ_ _ _ _=>False)) (ac (pv 1) (ac (pv 4) (ac (pv 3) ae)))))
  (af (bE (aE WT hr rfl (az (E:=λ_ _ _ _=>False)) (ac (pv 2) (ac (pv 3) ae)))))))))),?_⟩
 have m1:=W.m1;have m8:=W.m8;refine⟨_,rfl,.ref b,many,rs,first,rfl,B,by lia,by lia,?_⟩;refine⟨_,rfl,b,_,0,.int many,rfl,rfl,q,bU,?_⟩;refine⟨_,rfl,b,_,1,.ref l,rfl,rfl,q,fW,?_⟩;refine⟨_,rfl,b,_,2,.int first,rfl,rfl,q,lc,?_⟩;refine⟨_,rfl,_,rfl,many,l,xs,rs,rfl,ql,pr,W.rooms,λt H1 s1 ht=>?_⟩;refine⟨_,rfl,_,rfl,_,rfl,many,first,t,Bk.cm rs,rfl,.inl (.inl ht),m8,?_,?_⟩
 .rw[Bk.fN];exact W.fst
 refine⟨_,rfl,_,rfl,l,xs,rs,first,rfl,s1.Po ql,aX (λ_ _ z=>z.same s1) pr,W.rooms.wf,W.NH,W.nd,W.fits,W.walk,λH2 s2=>?_⟩;exact z H2 (s1.trans s2)
end
end Ord
namespace L2
open PySem
theorem cr (h:Ni K H p (o.map V.int)):aK.rep K H (.ref p) o:=by
 refine⟨p,_,rfl,h,?_⟩;clear h
 induction o with
 | nil=>exact .nil
 | cons x o ih=>exact .cons rfl ih
theorem cu (h:aK.rep K H x o):∃p,x=.ref p/\Ni K H p (o.map V.int):=by
 obtain⟨p,xs,e,q,r⟩:=h;have:xs=o.map V.int:=by
  clear q e
  induction r with
  | nil=>rfl
  | cons h _ ih=>rw[ih,N7];cases h;rfl
 exact⟨p,e,this▸q⟩
end L2
namespace Bk
open Mx
def pR (m:Int)(rs:List MX):Prop:=∀r∈rs,∀d∈r,d.1<m
theorem Co (h:x∈(keep rs r).2):x∈rs\/x=r:=by
 rcases dF rs r with e|⟨_,e,_⟩
 .rw[e] at h;exact .inl h
 .rw[e] at h;rcases Ov.mp h with h|h
  .exact .inl h
  .exact .inr (Pl.mp h)
theorem rp (hf:∀t rs,pR m rs->pR m (f (rests t os) rs).2):
  ∀(ts:List Int) (rs:List MX),(∀t∈ts,t<m)->pR m rs->pR m (aY f os ts rs).2/\∀d∈(aY f os ts rs).1,d.1<m
 | [],rs,_,h=>⟨h,λd hd=>by cases hd⟩
 | t::ts,rs,ht,h=>by
  obtain⟨a1,a2⟩:=rp hf ts _ (λt' h'=>ht t' (NP _ h')) (hf t rs h);refine⟨a1,λd hd=>?_⟩;rcases NG.mp hd with rfl|hd
  .exact ht t Nu
  .exact a2 d hd
theorem uO:∀(n:Nat) (os:ap) (rs:List MX),(∀o∈os,∀x∈o,x<m)->pR m rs->pR m (lay n os rs).2
 | 0,_,_,_,h=>h
 | n+1,os,rs,ho,h=>by
  obtain⟨a1,a2⟩:=rp (m:=m) (f:=lay n) (os:=os) (λt rs h=>uO n (rests t os) rs (λo hr x hx=>ho _ (bt.mp hr) x (NP _ hx)) h) (heads os) rs (λt ht=>by
   obtain⟨_,r,hr⟩:=bJ.mp ht;exact ho _ hr t Nu) h
  intro r hr;rcases Co hr with hr|rfl
  .exact a1 r hr
  .exact a2
theorem uP (rs)(r):(keep rs r).2.length<=rs.length+1:=by
 rcases dF rs r with e|⟨_,e,_⟩
 .rw[e];lia
 .rw[e,Os];simp
def jZ:Nat->Nat
 | 0=>0
 | n+1=>1+(n+1)*jZ n
theorem uQ:∀(ts:List Int) (rs:List MX),(∀t∈ts,∀rs,(f (rests t os) rs).2.length<=rs.length+b)->(aY f os ts rs).2.length<=rs.length+ts.length*b
 | [],rs,_=>by show rs.length<=_;lia
 | t::ts,rs,hf=>by
  have h1:=uQ ts (f (rests t os) rs).2 λt' h'=>hf t' (NP _ h');have h2:=hf t Nu rs;show(aY f os ts (f (rests t os) rs).2).2.length<=_;rw[OB,ac2];lia
theorem Ao (h:fb n S os)(ne:os≠[]):(heads os).length<=n:=by
 obtain⟨o,ho⟩:=SY os ne;have so:=h o ho;have nd:(heads os).Nodup:=(cI os).imp λh e=>Nc h (by rw[e];lia);have:=L2.dE (heads os) o nd λt ht=>by
  obtain⟨_,r,hr⟩:=bJ.mp ht;exact(so.2.2.2 t).mpr (((h _ hr).2.2.2 t).mp Nu)
 rw[so.1] at this;exact this
theorem rq:∀(n:Nat) (S:Int->Prop) (os:ap) (rs:List MX),fb n S os->os≠[]->(lay n os rs).2.length<=rs.length+jZ n
 | 0,_,_,rs,_,_=>Nl _
 | n+1,S,os,rs,h,ne=>by
  have h1:=uQ (f:=lay n) (os:=os) (b:=jZ n) (heads os) rs λt ht rs=>by
   obtain⟨_,r,hr⟩:=bJ.mp ht;exact rq n _ (rests t os) rs (h.rests t) (λe=>by
    have:=bt.mpr hr;rw[e] at this;cases this)
  have h2:=Ao h ne;have h3:=uP (aY (lay n) os (heads os) rs).2 (aY (lay n) os (heads os) rs).1;have h4:(heads os).length*jZ n<=(n+1)*jZ n:=VH _ h2;show(keep _ _).2.length<=_;unfold jZ;lia
end Bk
namespace Ord
open PySem L2 Mx
abbrev yq (many:Nat):Int->Prop:=λx=>0<=x/\x<(many:Int)
theorem yr (m1:1<=many)(m8:many<=8):ZA many [] 0 where
 m1:=m1
 m8:=m8
 rooms:=⟨(λi r h=>by simp at h),(λi r h=>by simp at h),(λr h=>nomatch h),(by decide)⟩
 NH:=by decide
 nd:=VR
 fst:=.inl rfl
 fits:=.inl rfl
 walk:=by rw[show((0:Nat):Int)=0 from rfl,Bk.ma (by decide)];rfl
theorem Ap {os:Bk.ap}(m1:1<=many)(m8:many<=8)(h:Bk.fb many (yq many) os)(ne:os≠[])(NH:(Bk.lay many os []).2.length<70):ZA many (Bk.lay many os []).2 (Bk.lay many os []).1:=by
 have wf0:Bk.WF []:=λi r h=>by simp at h
 have mk0:Bk.Vr []:=λi r h=>by simp at h
 obtain⟨wf,pre,tells⟩:=Bk.dg many os [] h.plain ne wf0;obtain⟨mk,hs⟩:=Bk.uD many (yq many) os [] h ne wf0 mk0;have all:∀o∈Bk.Pd (Bk.lay many os []).2 (Bk.lay many os []).1,o.length=many:=λo ho=>(h o ((tells.mem o).mp ho)).1;have Ro:=Bk.wP wf many _ tells.lo tells.hi all;refine⟨m1,m8,⟨wf,mk,Bk.uO many os [] (λo ho x hx=>(((h o ho).2.2.2 x).mp hx).2) (λr h=>by cases h),by lia⟩,NH,Bk.qX many os [] VR,.inr ⟨?_,tells.hi,Bk.Cf hs⟩,Ro.le m8,?_⟩
 .have lo:=tells.lo;have n1:(Bk.lay many os []).1≠1:=λe=>by
   have:=all [] (by rw[e,Bk.jz];exact Nu);simp at this;lia
  lia
 .have:=Bk.uC many os [] (Bk.lay many os []).2 h.plain ne wf0 Qr 8 m8;exact this
theorem EB {os:Bk.ap}(h:Bk.fb many (yq many) os)(ne:os≠[]):Bk.cS (Bk.Pd (Bk.lay many os []).2 (Bk.lay many os []).1)/\Bk.fE (Bk.Pd (Bk.lay many os []).2 (Bk.lay many os []).1) os:=by
 obtain⟨wf,pre,tells⟩:=Bk.dg many os [] h.plain ne (λi r h=>by simp at h);exact⟨tells.rise,tells.mem⟩
end Ord
namespace L2
open PySem
def fF:HO->Prop
 | .tup _=>False
 | .Oq _ _=>False
 | _=>True
section
theorem Ni.soft (hd:H d=some o)(so:fF o)(h:Ni K H a xs):Ni K (upd H d u) a xs:=by
 rcases h with(h|⟨ob,h⟩)|h
 .refine .inl (.inl ?_);rw[aq (by rintro rfl;rw[hd] at h;cases h;exact so)];exact h
 .refine .inl (.inr ⟨ob,?_⟩);rw[aq (by rintro rfl;rw[hd] at h;cases h;exact so)];exact h
 .exact .inr h
theorem eT (hd:H d=some o)(so:fF o)(h:aK.rep K H x ks):aK.rep K (upd H d u) x ks:=by
 obtain⟨p,xs,e,q,r⟩:=h;exact⟨p,xs,e,q.soft hd so,aX (λ_ _ z=>z) r⟩
theorem j3 (hd:H d=some o)(so:fF o)(h:bS.rep K H x ks):bS.rep K (upd H d u) x ks:=by
 obtain⟨p,xs,e,q,r⟩:=h;exact⟨p,xs,e,q.soft hd so,aX (λ_ _ z=>eT hd so z) r⟩
end
theorem wY:∀{L:Q5}{rs:List Bk.MX}{k:Int},L.length=rs.length->(∀(i:Nat) (e:List (List Int)×A'×Int),L[i]?=some e->∃r,rs[i]?=some r/\e.1=enc r/\e.2.2=(i:Int)+k)->
  e9 L (enc r)=if r∈rs then some ((rs.idxOf r:Nat)+k) else none
 | [],[],_,_,_=>rfl
 | [],_::_,_,h,_=>by simp at h
 | _::_,[],_,h,_=>by simp at h
 | e::L,r0::rs,k,h,all=>by
  obtain⟨r1,h1,h2,h3⟩:=all 0 e rfl;simp at h1;subst h1;have ih:=wY (r:=r) (L:=L) (rs:=rs) (k:=k+1) (by simpa using h) λi e' he=>by
   obtain⟨r',g1,g2,g3⟩:=all (i+1) e' (by simpa using he);exact⟨r',by simpa using g1,g2,by rw[g3];lia⟩
  by_cases c:r0=r
  .subst c;rw[M6 Nu,List.idxOf_cons_self];unfold e9;rw[aet (by simpa using h2)];show some e.2.2=_;rw[h3]
  .have c':¬e.1=enc r:=λz=>c (jA (h2.symm.trans z));have e1:e9 (e::L) (enc r)=e9 L (enc r):=by
    unfold e9;rw[VG (by simpa using c')]
   rw[e1,ih]
   by_cases m:r∈rs
   .rw[M6 m,M6 (NP _ m),List.idxOf_cons,show(r0==r)=false from by simpa using c];simp;lia
   .rw[M0 m,M0 (λz=>by rcases NG.mp z with z|z;exact c z.symm;exact m z)]
end L2
namespace Ord
open PySem L2 Mx
abbrev Aq:M':=top 15
def wZ (s:M'):List M':=match s with
 | .ClassDef _ _ _ b _ _ _ _ _ _ _=>b
 | _=>[]
abbrev yt:M':=(wZ Aq).getD 0 (.Pass ⟨0,0,0,0⟩)
abbrev sK:M':=(wZ Aq).getD 1 (.Pass ⟨0,0,0,0⟩)
structure SN (K)(C):Prop where
 cls:SL K C
 rooms:gC K C "rooms"
 XF:gC K C "numbers"
def nu (L:Q5)(rs:List Bk.MX):Prop:=L.length=rs.length/\∀(i:Nat) (e:List (List Int)×A'×Int),L[i]?=some e->∃r,rs[i]?=some r/\e.1=enc r/\e.2.2=(i:Int)+2
structure P7 (K)(C)(H)(x lr dn)(rs):Prop where
 ex:∃dx xs L,H x=some (.ins C dx [("rooms",.ref lr),("numbers",.ref dn)])/\H lr=some (.lst xs)/\Nd (bD K H) xs rs/\H dn=some (fB dn L)/\jW K H L/\nu L rs
section
def oC (K:MZ)(C:A'):Sp:=λvs H Q _=>∃(x dx:A'),vs=[.ref x]/\H x=some (.ins C dx [])/\∀(lr dn:A') (H':Hp),H lr=none->H dn=none->(∀b o,b≠x->H b=some o->H' b=some o)->P7 K C H' x lr dn []->Q .Nr H'
theorem FR:N3 ["self"] ["self"] (am yt):=⟨rfl,rfl,rfl,by decide +kernel,rfl,by decide +kernel,by decide +kernel⟩
theorem w4 (F:NE K "__init__" "Shelf.__init__" yt f fd)(c:SN K C):Nq P w K mg base Nb 1 f fd ["self"] (oC K C):=by
 refine F.ok FR (λvs H Q E h=>?_) (λNo A outer s H vs Q E hr h=>?_)
 .obtain⟨x,dx,rfl,_⟩:=h;rfl
 obtain⟨x,dx,rfl,hx,z⟩:=h;refine⟨_,ad (zj (pv 0) (bW ae) rfl) (af (zj (pv 0) BJ rfl)),?_⟩;refine⟨by show 0<=Nh;decide,λlr Oi=>?_⟩;have n1:x≠lr:=av hx Oi;refine⟨_,rfl,x,C,dx,[],rfl,by rw[aq n1];exact hx,c.cls,c.rooms,by decide,?_⟩;intro dn OE;have n2:x≠dn:=av al OE;have n3:lr≠dn:=λe=>by
  subst e;rw[aq (N1 n1),al] at OE;cases OE
 have adD:H dn=none:=by
  rw[aq (N1 n2),aq (N1 n3)] at OE;exact OE
 refine⟨_,rfl,x,C,dx,[("rooms",.ref lr)],rfl,by rw[aq n2,al];rfl,c.cls,c.XF,by show 1<1000;decide,?_⟩;refine z lr dn _ Oi adD (λb o nb e=>?_) ⟨dx,[],[],?_,?_,.nil,?_,(λe h=>nomatch h),rfl,(λi e h=>nomatch h)⟩
 .rw[aq nb,aq (av e adD),aq nb,aq (av e Oi)];exact e
 .rw[al];rfl
 .rw[aq (N1 n1),aq n3,aq (N1 n1),al]
 .rw[aq (N1 n2),al]
theorem bD.soft (hd:H d=some o)(so:fF o)(h:bD K H x r):bD K (upd H d u) x r:=by
 obtain⟨a,xs,e,q,z⟩:=h;exact⟨a,xs,e,q.soft hd so,aX (λ_ _ ⟨p,e,q⟩=>⟨p,e,q.soft hd so⟩) z⟩
theorem nu.val (h:nu L rs)(r):e9 L (enc r)=if r∈rs then some (((rs.idxOf r:Nat):Int)+2) else none:=wY h.1 h.2
theorem nu.snoc (h:nu L rs)(r)(b):nu (L++[(enc r,b,(rs.length:Int)+2)]) (rs++[r]):=by
 refine⟨by rw[Os,Os,h.1];rfl,λi e he=>?_⟩
 by_cases hi:i<L.length
 .rw[SX hi] at he;obtain⟨r',g1,g2,g3⟩:=h.2 i e he;exact⟨r',by rw[SX (by rw[<-h.1];exact hi)];exact g1,g2,g3⟩
 .have hl:=(OA.mp he).1;rw[Os] at hl;have OW:i=L.length:=by simp at hl;lia
  subst OW;rw[UG (Nl _)] at he;simp at he;subst he;exact⟨r,by rw[h.1,UG (Nl _)];simp,rfl,by rw[h.1]⟩
def jB (K:MZ)(C:A'):Sp:=λvs H Q _=>∃(x lr dn:A') (rs:List Bk.MX) (y:V) (r:Bk.MX),vs=[.ref x,y]/\P7 K C H x lr dn rs/\bD K H y r/\rs.length<1000/\
 ∀H',(∀b o,b≠lr->b≠dn->H b=some o->H' b=some o)->P7 K C H' x lr dn (Bk.keep rs r).2->Q (.int ((Bk.keep rs r).1:Nat)) H'
theorem FS:N3 ["self","room"] ["self","room"] (am sK):=⟨rfl,rfl,rfl,by decide +kernel,rfl,by decide +kernel,by decide +kernel⟩
theorem w5 (F:NE K "keep" "Shelf.keep" sK f fd)(T:Oy K mg CO)(c:SN K C):Nq P w K mg base Nb 1 f fd ["self","room"] (jB K C):=by
 refine F.ok FS (λvs H Q E h=>?_) (λNo A outer s H vs Q E hr h=>?_)
 .obtain⟨x,lr,dn,rs,y,r,rfl,_⟩:=h;rfl
 obtain⟨x,lr,dn,rs,y,r,rfl,S,ra,NH,z⟩:=h;obtain⟨dx,xs,L,hx,Oi,pr,OE,hk,nl⟩:=S.ex;obtain⟨b,ys,rfl,qb,pb⟩:=id ra;obtain⟨t2,m2⟩:=T.low;have hu:(eO Nb P w K mg base ["self","room"] "Shelf.keep" (am sK) f No A outer s H E).QJ.A.units+2<ND:=by have:=hr.un;show(A.deeper _).units+2<ND;lia
 refine⟨_,ad (aD (ar (zK hu) (pv 1) (io (pv 0) rfl) rfl)
   (ad (Ee hu (io (pv 0) rfl) (pv 1) (aO bR (aQ bd rfl T.t.len cq (ac (io (pv 0) rfl) ae)) (aM (v:=.int 2) rfl m2 ⟨t2,rfl⟩)) rfl)
   (af (bE (gR UI VE VF eP (io (pv 0) rfl) (ac (pv 1) ae))))) au)
  (af (aH (Ed hu (io (pv 0) rfl) (pv 1) (λ_ _=>rfl)))),?_⟩
 have hlen:=pr.length;have n1:x≠lr:=iK hx Oi (λh=>nomatch h);have n2:x≠dn:=iK hx OE (λh=>nomatch h);have n3:lr≠dn:=iK Oi OE (λh=>nomatch h);refine⟨_,rfl,_,rfl,x,C,dx,_,.ref dn,rfl,hx,c.cls,c.XF,rfl,dn,L,b,enc r,rfl,rfl,OE,hk,ra.rep,_,rfl,?_⟩;rw[nl.val r]
 by_cases m:r∈rs
 .rw[M6 m];refine aA ?_;have ek:Bk.keep rs r=(rs.idxOf r+2,rs):=by unfold Bk.keep;rw[M6 m]
  rw[ek] at z;refine⟨_,rfl,x,C,dx,_,.ref dn,rfl,hx,c.cls,c.XF,rfl,_,rfl,dn,L,b,enc r,_,rfl,rfl,OE,hk,ra.rep,(nl.val r).trans (M6 m),?_⟩;exact z H (λb o _ _ e=>e) S
 .rw[M0 m];refine aZ ?_;have ek:Bk.keep rs r=(rs.length+2,rs++[r]):=by unfold Bk.keep;rw[M0 m]
  rw[ek] at z;refine⟨_,rfl,x,C,dx,_,.ref lr,rfl,hx,c.cls,c.rooms,rfl,lr,xs,rfl,.inl (.inl (.inl Oi)),_,2,rfl,rfl,_,rfl,x,C,dx,_,.ref dn,rfl,hx,c.cls,c.XF,rfl,_,rfl,dn,L,b,enc r,_,rfl,rfl,rfl,OE,hk,ra.rep,(nl.val r).trans (M0 m),by rw[nl.1,NU];lia,?_⟩;have sd:fF (fB dn L):=trivial;have ZP:∀u,upd H dn u lr=some (.lst xs):=λu=>by rw[aq n3];exact Oi
  have Vl:∀u,upd H dn u x=some (.ins C dx [("rooms",.ref lr),("numbers",.ref dn)]):=λu=>by rw[aq n2];exact hx
  have sl:fF (.lst xs):=trivial;refine⟨_,rfl,x,C,dx,_,.ref lr,rfl,Vl _,c.cls,c.rooms,rfl,.inl ⟨rfl,_,.inl (.inl (ZP _))⟩,_,rfl,lr,xs,.ref b,rfl,rfl,ZP _,by rw[NU];lia,?_⟩;have eL:(xs.length:Int)+2=(rs.length:Int)+2:=by lia
  have Wn:nu (L++[(enc r,b,(xs.length:Int)+2)]) (rs++[r]):=by rw[eL];exact nl.snoc r b
  have ι:∀{y:V}{r':Bk.MX}{u v:HO},bD K H y r'->bD K (upd (upd H dn u) lr v) y r':=λh=>(h.soft OE sd).soft (ZP _) sl;have kk:∀{u v:HO},jW K (upd (upd H dn u) lr v) (L++[(enc r,b,(xs.length:Int)+2)]):=λ{u v} e he=>by
   rcases Ov.mp he with h|h
   .exact j3 (ZP _) sl (j3 OE sd (hk e h))
   .rw[Pl.mp h];exact(ι ra).rep
  have Wg:∀u v,upd (upd H dn u) lr v x=some (.ins C dx [("rooms",.ref lr),("numbers",.ref dn)]):=λu v=>by rw[aq n1];exact Vl u
  have XT:∀u v,upd (upd H dn u) lr v dn=some u:=λu v=>by rw[aq (N1 n3),al]
  refine⟨_,rfl,x,C,dx,_,.ref dn,rfl,Wg _ _,c.cls,c.XF,rfl,_,rfl,dn,_,b,enc r,(xs.length:Int)+2,rfl,rfl,XT _ _,kk,(ι ra).rep,?_,?_⟩
  .have h1:=Wn.val r;rw[M6 (PM _ Nu)] at h1;rw[h1,acv,M0 m];simp;lia
  .have:=z _ (λb o h1 h2 e=>by rw[aq h1,aq h2];exact e) ⟨dx,_,_,Wg _ _,al,de (aX (λ_ _ h=>ι h) pr) (.cons (ι ra) .nil),XT _ _,kk,Wn⟩;rw[show((rs.length+2:Nat):Int)=(xs.length:Int)+2 by lia] at this;exact this
end
end Ord
namespace Bk
open Mx
def gJ (t:Int)(o:List Int):Bool:=match o with
 | x::_=>decide (x=t)
 | []=>false
theorem lj (h:t'≠t):∀os:ap,rests t' (os.filter λo=>!gJ t o)=rests t' os
 | []=>rfl
 | o::os=>by
  have ih:=lj h os;unfold rests at ih ⊢;cases o with
  | nil=>rw[Sw rfl,QP,QP,ih]
  | cons x o=>
   by_cases c:x=t
   .rw[UJ (by simp[gJ,c]),ih,QP];have:eY t' (x::o)=none:=M0 (by rw[c];exact N1 h);rw[this]
   .rw[Sw (by simp[gJ,c]),QP,QP,ih]
theorem mP (t:Int):∀os:ap,(rests t os).length+(os.filter λo=>!gJ t o).length<=os.length
 | []=>Nl _
 | o::os=>by
  have ih:=mP t os;unfold rests at ih ⊢;cases o with
  | nil=>
   rw[Sw rfl,QP];have:eY t []=none:=rfl;rw[this];simp only[OB];lia
  | cons x o=>
   by_cases c:x=t
   .rw[UJ (by simp[gJ,c]),QP];have:eY t (x::o)=some o:=M6 c;rw[this];simp only[OB];lia
   .rw[Sw (by simp[gJ,c]),QP];have:eY t (x::o)=none:=M0 c;rw[this];simp only[OB];lia
theorem iU:∀(ts:List Int) (os:ap),ts.Nodup->(ts.map λt=>(rests t os).length).sum<=os.length
 | [],os,_=>Ow _
 | t::ts,os,nd=>by
  rw[QE] at nd;have ih:=iU ts (os.filter λo=>!gJ t o) nd.2;have e:(ts.map λt'=>(rests t' (os.filter λo=>!gJ t o)).length)=ts.map λt'=>(rests t' os).length:=Y2 λt' h'=>by
   have ne:t'≠t:=by rintro rfl;exact nd.1 h'
   rw[lj ne]
  rw[e] at ih;have:=mP t os;rw[N7,VW];lia
theorem j4:∀(ts:List Int) (rs:List MX),(∀t∈ts,∀rs,(f (rests t os) rs).2.length<=rs.length+b t)->(aY f os ts rs).2.length<=rs.length+(ts.map b).sum
 | [],rs,_=>by show rs.length<=_;lia
 | t::ts,rs,hf=>by
  have h1:=j4 ts (f (rests t os) rs).2 λt' h'=>hf t' (NP _ h');have h2:=hf t Nu rs;show(aY f os ts (f (rests t os) rs).2).2.length<=_;rw[N7,VW];lia
theorem mh (n:Nat)(g:Int->Nat):∀ts:List Int,(ts.map λt=>g t*n).sum=(ts.map g).sum*n
 | []=>by simp
 | t::ts=>by rw[N7,N7,VW,VW,mh n g ts,Nat.add_mul]
theorem iV:∀(n:Nat) (os:ap) (rs:List MX),os≠[]->(lay n os rs).2.length<=rs.length+os.length*n
 | 0,_,rs,_=>by show rs.length<=_;lia
 | n+1,os,rs,ne=>by
  have h1:=j4 (f:=lay n) (os:=os) (b:=λt=>(rests t os).length*n) (heads os) rs λt ht rs=>by
   obtain⟨_,r,hr⟩:=bJ.mp ht;exact iV n (rests t os) rs λe=>by
    have:=bt.mpr hr;rw[e] at this;cases this
  rw[mh n (λt=>(rests t os).length)] at h1;have nd:(heads os).Nodup:=(cI os).imp λh e=>Nc h (by rw[e];lia);have h2:=VH n (iU (heads os) os nd);have h3:=uP (aY (lay n) os (heads os) rs).2 (aY (lay n) os (heads os) rs).1;have h4:0<os.length:=Xb.mpr ne;show(keep _ _).2.length<=_;rw[aaZ];lia
def N8 (p:Nat)(o:List Int):Int:=(o[p]?).getD 0
def lm (p:Nat)(g:List (Int×ap))(o:List Int):List (Int×ap):=
 if N8 p o∈g.map (·.1) then g.map (λe=>if e.1=N8 p o then (e.1,e.2++[o]) else e) else g++[(N8 p o,[o])]
structure Uu (p:Nat)(os:ap)(g:List (Int×ap)):Prop where
 nd:(g.map (·.1)).Nodup
 each:∀e∈g,e.2=os.filter λo=>decide (N8 p o=e.1)
 all:∀o∈os,N8 p o∈g.map (·.1)
 one:∀e∈g,e.2≠[]
theorem Uu.nil (p:Nat):Uu p [] []:=⟨VR,(λe h=>nomatch h),(λo h=>nomatch h),(λe h=>nomatch h)⟩
theorem Uu.add (G:Uu p os g)(o):Uu p (os++[o]) (lm p g o):=by
 unfold lm
 by_cases c:N8 p o∈g.map (·.1)
 .rw[M6 c];have keys:(g.map (λe=>if e.1=N8 p o then (e.1,e.2++[o]) else e)).map (·.1)=g.map (·.1):=by
   rw[VZ];refine Y2 λe _=>?_;show(if e.1=N8 p o then (e.1,e.2++[o]) else e).1=e.1
   split <;> rfl
  refine⟨by rw[keys];exact G.nd,λe he=>?_,λx hx=>?_,λe he=>?_⟩
  .obtain⟨e0,h0,rfl⟩:=NR.mp he;rw[UL]
   by_cases k:e0.1=N8 p o
   .rw[M6 k,G.each e0 h0];simp[k]
   .rw[M0 k,G.each e0 h0];simp[N1 k]
  .rw[keys];rcases Ov.mp hx with h|h
   .exact G.all x h
   .rw[Pl.mp h];exact c
  .obtain⟨e0,h0,rfl⟩:=NR.mp he
   by_cases k:e0.1=N8 p o
   .rw[M6 k];simp
   .rw[M0 k];exact G.one e0 h0
 .rw[M0 c];refine⟨?_,λe he=>?_,λx hx=>?_,λe he=>?_⟩
  .rw[QF,TZ];exact⟨G.nd,by simp,λx hx y hy=>by
    have:y=N8 p o:=by simpa using hy
    rw[this];rintro rfl;exact c hx⟩
  .rw[UL];rcases Ov.mp he with h|h
   .have k:¬N8 p o=e.1:=λk=>c (by rw[k];exact NR.mpr ⟨e,h,rfl⟩);rw[G.each e h];simp[k]
   .rw[Pl.mp h];have:os.filter (λx=>decide (N8 p x=N8 p o))=[]:=List.filter_eq_nil_iff.mpr λx hx hk=>c (by
     have:=G.all x hx;rw[TY hk] at this;exact this)
    rw[this];simp
  .rw[QF];rcases Ov.mp hx with h|h
   .exact R3 _ (G.all x h)
   .rw[Pl.mp h];exact PM _ (by simp)
  .rcases Ov.mp he with h|h
   .exact G.one e h
   .rw[Pl.mp h];simp
def bZ (p:Nat)(os:ap):List (Int×ap):=os.foldl (lm p) []
theorem fj (p:Nat)(os:ap)(o):bZ p (os++[o])=lm p (bZ p os) o:=by unfold bZ;rw[UO];rfl
theorem pS {α:Type}{P:List α->Prop}(h0:P [])(h1:∀l x,P l->P (l++[x]))(l:List α):P l:=by
 have:∀l:List α,P l.reverse:=λl=>by
  induction l with
  | nil=>exact h0
  | cons x l ih=>rw[List.reverse_cons];exact h1 _ _ ih
 have:=this l.reverse;rw[List.reverse_reverse] at this;exact this
theorem fQ (p:Nat)(os:ap):Uu p os (bZ p os):=
 pS (P:=λos=>Uu p os (bZ p os)) (Uu.nil p) (λl x ih=>by rw[fj];exact ih.add x) os
theorem v9 (p:Nat)(os:ap):(os.map (N8 p)).Pairwise (·<=·)->((bZ p os).map (·.1)).Pairwise (· < ·):=by
 refine pS (P:=λos=>(os.map (N8 p)).Pairwise (·<=·)->((bZ p os).map (·.1)).Pairwise (· < ·)) (λ_=>UM) (λl x ih h=>?_) os;rw[QF,aar] at h;obtain⟨h1,_,h3⟩:=h;rw[fj];unfold lm
 by_cases c:N8 p x∈(bZ p l).map (·.1)
 .rw[M6 c,VZ];have keys:((λe:Int×ap=>e.1)∘λe:Int×ap=>if e.1=N8 p x then (e.1,e.2++[x]) else e)=λe=>e.1:=by
   funext e
   show(if e.1=N8 p x then (e.1,e.2++[x]) else e).1=e.1
   split <;> rfl
  rw[keys];exact ih h1
 .rw[M0 c,QF,aar];refine⟨ih h1,by simp,λa ha b hb=>?_⟩;have eb:b=N8 p x:=by simpa using hb
  subst eb;obtain⟨e,he,rfl⟩:=NR.mp ha;have G:=fQ p l;obtain⟨o,ho⟩:=SY _ (G.one e he);rw[G.each e he] at ho;obtain⟨Ty,Tv⟩:=Pm.mp ho;have le:=h3 (N8 p o) (NR.mpr ⟨o,Ty,rfl⟩) (N8 p x) (by simp);rw[TY Tv] at le;have:e.1≠N8 p x:=λz=>c (z▸ha);lia
end Bk
namespace Ord
open PySem L2 Mx
section
def ff (K:MZ)(H0:Hp)(dP:A')(H:Hp)(kv:Key×V)(e:Int×Bk.ap):Prop:=∃a vs,kv=(O5 e.1,.ref a)/\H0 a=none/\a≠dP/\H a=some (.lst vs)/\Nd (aK.rep K H) vs e.2
structure U0 (K:MZ)(H0:Hp)(dP:A')(H:Hp)(kvs:List (Key×V))(g:List (Int×Bk.ap)):Prop where
 at_:H dP=some (.dK kvs)
 SO:Nd (ff K H0 dP H) kvs g
 nd:(kvs.map (·.2)).Nodup
theorem ff.soft (hd:H d=some o)(so:fF o)(ne:kv.2≠.ref d)(h:ff K H0 dP H kv e):ff K H0 dP (upd H d u) kv e:=by
 obtain⟨a,vs,rfl,h1,h2,h3,h4⟩:=h;exact⟨a,vs,rfl,h1,h2,by rw[aq (λz=>ne (by rw[z]))];exact h3,aX (λ_ _ z=>eT hd so z) h4⟩
theorem ff.same (s:aB H H')(h:ff K H0 dP H kv e):ff K H0 dP H' kv e:=by
 obtain⟨a,vs,rfl,h1,h2,h3,h4⟩:=h;exact⟨a,vs,rfl,h1,h2,s _ _ h3,aX (λ_ _ z=>aK.mono s z) h4⟩
theorem pT:∀{kvs:List (Key×V)}{g:List (Int×Bk.ap)},Nd (ff K H0 dP H) kvs g->(cz kvs (.inl k)=none/\k∉g.map (·.1))\/∃a vs,cz kvs (.inl k)=some (.ref a)/\k∈g.map (·.1)/\V.ref a∈kvs.map (·.2)/\H0 a=none/\a≠dP/\H a=some (.lst vs)/\∃e∈g,vs.length=e.2.length
 | _,_,.nil=>.inl ⟨rfl,(λh=>nomatch h)⟩
 | kv::kvs,e::g,.cons h t=>by
  obtain⟨a,vs,rfl,h1,h2,h3,h4⟩:=h
  by_cases c:e.1=k
  .subst c;exact .inr ⟨a,vs,dY rfl,NR.mpr ⟨e,Nu,rfl⟩,Nu,h1,h2,h3,e,Nu,h4.length⟩
  .rw[dZ (λz=>c (Xu z))];rcases pT (k:=k) t with⟨b1,b2⟩|⟨a',Ur,b1,b2,b3,b4,b5,b6,e',b7,b8⟩
   .exact .inl ⟨b1,λz=>by rcases NG.mp z with z|z;exact c z.symm;exact b2 z⟩
   .exact .inr ⟨a',Ur,b1,NP _ b2,NP _ b3,b4,b5,b6,e',NP _ b7,b8⟩
theorem uR (hy:aK.rep K H y o)(ha:H a=some (.lst vs)):∀{kvs:List (Key×V)}{g:List (Int×Bk.ap)},Nd (ff K H0 dP H) kvs g->(kvs.map (·.2)).Nodup->(g.map (·.1)).Nodup->cz kvs (.inl k)=some (.ref a)->
  Nd (ff K H0 dP (upd H a (.lst (vs++[y])))) kvs (g.map λe=>if e.1=k then (e.1,e.2++[o]) else e)
 | _,_,.nil,_,_,h=>nomatch h
 | kv::kvs,e::g,.cons h t,nd,nk,hv=>by
  rw[N7,QE] at nd nk;have hg:=h;obtain⟨a',Ur,rfl,h1,h2,h3,h4⟩:=h;rw[N7]
  by_cases c:e.1=k
  .subst c;rw[dY rfl] at hv;cases hv;rw[ha] at h3;cases h3;rw[M6 rfl];have rest:∀{kvs:List (Key×V)}{g:List (Int×Bk.ap)},Nd (ff K H0 dP H) kvs g->V.ref a∉kvs.map (·.2)->e.1∉g.map (·.1)->Nd (ff K H0 dP (upd H a (.lst (vs++[y])))) kvs (g.map λe'=>if e'.1=e.1 then (e'.1,e'.2++[o]) else e'):=by
    intro kvs g t
    induction t with
    | nil=>intro _ _;exact .nil
    | @cons kv0 e0 kvs g h _ ih=>
     intro n1 n2;rw[N7,NG,not_or] at n1 n2;rw[N7,M0 (N1 n2.1)];exact .cons (h.soft ha trivial (N1 n1.1)) (ih n1.2 n2.2)
   refine .cons ⟨a,vs++[y],rfl,h1,h2,al,de (aX (λ_ _ z=>eT ha trivial z) h4) (.cons (eT ha trivial hy) .nil)⟩ (rest t nd.1 nk.1)
  .rw[M0 c];rw[dZ (λz=>c (Xu z))] at hv;have na:V.ref a'≠V.ref a:=λz=>by
    have:∀{kvs:List (Key×V)},cz kvs (.inl k)=some (.ref a)->V.ref a∈kvs.map (·.2):=by
     intro kvs
     induction kvs with
     | nil=>intro h;cases h
     | cons kv kvs ih=>
      intro h
      by_cases c:kv.1=.inl k
      .rw[dY c] at h;exact NG.mpr (.inl (Rw h).symm)
      .rw[dZ c] at h;exact NP _ (ih h)
    exact nd.1 (z▸this hv)
   exact .cons (hg.soft ha trivial na) (uR hy ha t nd.2 nk.2 hv)
theorem oE (p:Nat)(os):(Bk.bZ p os).length<=os.length:=
 Bk.pS (P:=λos=>(Bk.bZ p os).length<=os.length) (Nl _) (λl x ih=>by
  rw[Bk.fj,Os];unfold Bk.lm
  split
  .rw[NT];simp;lia
  .rw[Os];simp;lia) os
theorem U0.more {os:Bk.ap}(h:U0 K H0 dP H kvs (Bk.bZ p os))(Px:H e0=none)(hy:aK.rep K H y o)(hv:cz kvs (.inl (Bk.N8 p o))=some (.ref a))(hk:Bk.N8 p o∈(Bk.bZ p os).map (·.1))(ha:H a=some (.lst vs))(nd:a≠dP):U0 K H0 dP (upd (upd H e0 (.lst [])) a (.lst (vs++[y]))) kvs (Bk.bZ p (os++[o])):=by
 have s1:aB H (upd H e0 (.lst [])):=ak Px _;rw[Bk.fj];unfold Bk.lm;rw[M6 hk];refine⟨?_,uR (aK.mono s1 hy) (s1 _ _ ha) (aX (λ_ _ z=>z.same s1) h.SO) h.nd (Bk.fQ p os).nd hv,h.nd⟩;rw[aq (N1 nd)];exact s1 _ _ h.at_
theorem U0.fresh {os:Bk.ap}(h:U0 K H0 dP H kvs (Bk.bZ p os))(Px:H e0=none)(h0:H0 e0=none)(hy:aK.rep K H y o)(hv:cz kvs (.inl (Bk.N8 p o))=none)(hk:Bk.N8 p o∉(Bk.bZ p os).map (·.1)):
  U0 K H0 dP (upd (upd (upd H e0 (.lst [])) dP (.dK (dy kvs (.inl (Bk.N8 p o)) (.ref e0)))) e0 (.lst ([]++[y]))) (kvs++[(.inl (Bk.N8 p o),.ref e0)]) (Bk.bZ p (os++[o])):=by
 have s1:aB H (upd H e0 (.lst [])):=ak Px _;have Yq:dP≠e0:=av h.at_ Px;have ep:dy kvs (.inl (Bk.N8 p o)) (.ref e0)=kvs++[(.inl (Bk.N8 p o),.ref e0)]:=by
  unfold dy;rw[jT,hv,M0 (by decide)]
 have TH:(upd H e0 (.lst [])) dP=some (.dK kvs):=s1 _ _ h.at_;have Vs:∀u,(upd (upd H e0 (.lst [])) dP u) e0=some (.lst []):=λu=>by rw[aq (N1 Yq),al]
 have far:∀{kvs:List (Key×V)}{g:List (Int×Bk.ap)},Nd (ff K H0 dP H) kvs g->∀kv∈kvs,kv.2≠.ref dP/\kv.2≠.ref e0:=by
  intro kvs g t kv Uv;obtain⟨e,_,a,vs,rfl,_,h2,h3,_⟩:=fA t kv Uv;exact⟨λz=>h2 (V.ref.inj z),λz=>by
   have:a=e0:=V.ref.inj z;rw[this,Px] at h3;cases h3⟩
 have old:∀{kvs:List (Key×V)}{g:List (Int×Bk.ap)}{u v:HO},Nd (ff K H0 dP H) kvs g->(∀kv∈kvs,kv.2≠.ref dP/\kv.2≠.ref e0)->Nd (ff K H0 dP (upd (upd (upd H e0 (.lst [])) dP u) e0 v)) kvs g:=by
  intro kvs g u v t
  induction t with
  | nil=>intro _;exact .nil
  | cons h _ ih=>
   intro f;obtain⟨f1,f2⟩:=f _ Nu;exact .cons (((h.same s1).soft TH trivial f1).soft (Vs u) trivial f2) (ih λkv Uv=>f kv (NP _ Uv))
 rw[Bk.fj];unfold Bk.lm;rw[M0 hk];refine⟨by rw[aq Yq,al,ep],de (old h.SO (far h.SO)) (.cons ⟨e0,[]++[y],rfl,h0,N1 Yq,al,.cons (eT (Vs _) trivial (eT TH trivial (aK.mono s1 hy))) .nil⟩ .nil),?_⟩;rw[QF,TZ];refine⟨h.nd,by simp,λx hx y' Yc=>?_⟩;obtain⟨kv,Uv,rfl⟩:=NR.mp hx;have:y'=V.ref e0:=by simpa using Yc
 rw[this];exact(far h.SO kv Uv).2
end
end Ord
namespace Bk
open Mx
theorem iW:∀(ts:List Int) (rs:List MX),aY f os (ts++[t]) rs=((aY f os ts rs).1++[(t,((f (rests t os) (aY f os ts rs).2).1:Int))],(f (rests t os) (aY f os ts rs).2).2)
 | [],rs=>rfl
 | t'::ts,rs=>by
  show((t',_)::(aY f os (ts++[t]) _).1,(aY f os (ts++[t]) _).2)=_;rw[iW ts];rfl
theorem gr (h:p<o.length):o.drop p=N8 p o::o.drop (p+1):=by
 rw[aec h];unfold N8;rw[Ou h];rfl
theorem mQ:∀{os:ap},(∀o∈os,p<o.length)->(os.filter λo=>decide (N8 p o=t)).map (Qd (p+1))=rests t (os.map (Qd p))
 | [],_=>rfl
 | o::os,h=>by
  have ih:=mQ (t:=t) (os:=os) λo' h'=>h o' (NP _ h');have ho:=h o Nu;unfold rests at ih ⊢;rw[N7,QP,gr ho]
  by_cases c:N8 p o=t
  .rw[Sw (by simpa using c),N7,ih];have:eY t (N8 p o::o.drop (p+1))=some (o.drop (p+1)):=M6 c;rw[this]
  .rw[UJ (by simpa using c),ih];have:eY t (N8 p o::o.drop (p+1))=none:=M0 c;rw[this]
theorem pU:∀{a b:List Int},a.Pairwise (· < ·)->b.Pairwise (· < ·)->(∀x,x∈a↔x∈b)->a=b
 | [],[],_,_,_=>rfl
 | [],y::b,_,_,h=>Nc ((h y).mpr Nu) (λz=>nomatch z)
 | x::a,[],_,_,h=>Nc ((h x).mp Nu) (λz=>nomatch z)
 | x::a,y::b,ha,hb,h=>by
  rw[Xf] at ha hb;have e:x=y:=by
   have h1:=(h x).mp Nu;have h2:=(h y).mpr Nu;rcases NG.mp h1 with h1|h1
   .exact h1
   rcases NG.mp h2 with h2|h2
   .exact h2.symm
   have:=hb.1 x h1;have:=ha.1 y h2;lia
  subst e;rw[pU ha.2 hb.2 λz=>⟨λhz=>by
   rcases NG.mp ((h z).mp (NP _ hz)) with e|e
   .have:=ha.1 z hz;lia
   .exact e,λhz=>by
   rcases NG.mp ((h z).mpr (NP _ hz)) with e|e
   .have:=hb.1 z hz;lia
   .exact e⟩]
structure Uc (p n:Nat)(os:ap):Prop where
 ne:os≠[]
 len:∀o∈os,o.length=p+n
 things:∀o∈os,∀x∈o,0<=x/\x<8
 rise:os.Pairwise λa b=>¬lt (b.drop p) (a.drop p)
section
theorem Uc.afm (ok:Uc p (n+1) os):(os.map (N8 p)).Pairwise (·<=·):=by
 rw[Sx];refine ok.rise.imp_of_mem λ{a b} ha hb h=>?_;have la:=ok.len a ha;have lb:=ok.len b hb;rw[gr (show p<a.length by lia),gr (show p<b.length by lia)] at h;refine Int.not_lt.mp λz=>h ?_;exact .inl z
theorem Uc.keys (ok:Uc p (n+1) os):(bZ p os).map (·.1)=heads (os.map (Qd p)):=by
 refine pU (v9 p os ok.afm) (cI _) λt=>?_;have G:=fQ p os;rw[bJ];constructor
 .intro h;obtain⟨e,he,rfl⟩:=NR.mp h;obtain⟨o,ho⟩:=SY _ (G.one e he);rw[G.each e he] at ho;obtain⟨h1,h2⟩:=Pm.mp ho;have lo:=ok.len o h1;have e1:=gr (show p<o.length by lia);have e2:N8 p o=e.1:=TY h2;rw[e2] at e1;have mem:e.1∈o:=List.mem_of_mem_drop (i:=p) (by rw[e1];exact Nu);exact⟨ok.things o h1 _ mem,o.drop (p+1),NR.mpr ⟨o,h1,e1⟩⟩
 .rintro⟨_,r,hr⟩;obtain⟨o,ho,e⟩:=NR.mp hr;have lo:=ok.len o ho;rw[gr (show p<o.length by lia)] at e;have e2:N8 p o=t:=(ae4 e).1;rw[<-e2];exact G.all o ho
theorem Uc.group (ok:Uc p (n+1) os)(he:e∈bZ p os):Uc (p+1) n e.2/\e.2.map (Qd (p+1))=rests e.1 (os.map (Qd p))/\e.2.length<=os.length:=by
 have G:=fQ p os;have ee:=G.each e he;have sub:∀o∈e.2,o∈os/\N8 p o=e.1:=λo ho=>by
  rw[ee] at ho;obtain⟨h1,h2⟩:=Pm.mp ho;exact⟨h1,TY h2⟩
 refine⟨⟨G.one e he,λo ho=>by have:=ok.len o (sub o ho).1;lia,λo ho=>ok.things o (sub o ho).1,?_⟩,?_,?_⟩
 .have r1:e.2.Pairwise λa b=>¬lt (b.drop p) (a.drop p):=by rw[ee];exact ok.rise.sublist (VL)
  refine r1.imp_of_mem λ{a b} ha hb h=>?_;have la:=ok.len a (sub a ha).1;have lb:=ok.len b (sub b hb).1;rw[gr (show p<a.length by lia),gr (show p<b.length by lia),(sub a ha).2,(sub b hb).2] at h;exact λz=>h (.inr ⟨rfl,z⟩)
 .rw[ee];exact mQ λo ho=>by have:=ok.len o ho;lia
 .rw[ee];exact R0 _ _
end
theorem mR (b:Int->Nat):∀(ts:List Int) (i:Nat),((ts.take i).map b).sum<=(ts.map b).sum
 | [],i=>by simp
 | t::ts,0=>Ow _
 | t::ts,i+1=>by
  have:=mR b ts i;rw[aeL,N7,N7,VW,VW];lia
theorem oG (h:(heads os)[i]?=some t):
  (aY (lay n) os ((heads os).take i) rs).2.length+(rests t os).length*n<=rs.length+os.length*n/\(aY (lay n) os ((heads os).take i) rs).2.length<=rs.length+os.length*n:=by
 have nd:(heads os).Nodup:=(cI os).imp λh e=>Nc h (by rw[e];lia);have h1:=j4 (f:=lay n) (os:=os) (b:=λt=>(rests t os).length*n) ((heads os).take i) rs λt ht rs=>by
  obtain⟨_,r,hr⟩:=bJ.mp (ack ht);exact iV n (rests t os) rs λe=>by
   have:=bt.mpr hr;rw[e] at this;cases this
 have h2:=mR (λt=>(rests t os).length*n) (heads os) (i+1);rw[Ta,h,Xg,QF,List.sum_append] at h2;simp only[N7,Zo,VW,List.sum_nil] at h2;have h3:((heads os).map λt=>(rests t os).length*n).sum<=os.length*n:=by
  rw[mh n (λt=>(rests t os).length)];exact VH n (iU (heads os) os nd)
 lia
theorem mS:(aY (lay n) os (heads os) rs).2.length<=rs.length+os.length*n:=by
 have nd:(heads os).Nodup:=(cI os).imp λh e=>Nc h (by rw[e];lia);have h1:=j4 (f:=lay n) (os:=os) (b:=λt=>(rests t os).length*n) (heads os) rs λt ht rs=>by
  obtain⟨_,r,hr⟩:=bJ.mp ht;exact iV n (rests t os) rs λe=>by
   have:=bt.mpr hr;rw[e] at this;cases this
 have h3:((heads os).map λt=>(rests t os).length*n).sum<=os.length*n:=by
  rw[mh n (λt=>(rests t os).length)];exact VH n (iU (heads os) os nd)
 lia
end Bk
namespace L2
open PySem
theorem FT:∀{i:Nat}{kv:Key×V},(kvs.map (·.1)).Nodup->kvs[i]?=some kv->cz kvs kv.1=some kv.2:=by
 induction kvs with
 | nil=>intro i kv _ h;simp at h
 | cons k0 kvs ih=>
  intro i kv nd h;rw[N7,QE] at nd;cases i with
  | zero=>simp at h;subst h;exact dY rfl
  | succ i=>
   have h':kvs[i]?=some kv:=by simpa using h
   rw[dZ (λz=>nd.1 (by rw[z];exact NR.mpr ⟨kv,Oo h',rfl⟩))];exact ih nd.2 h'
end L2
namespace Ord
open PySem L2 Mx
section
def dG (lr dn:A')(H H':Hp):Prop:=∀b o,b≠lr->b≠dn->H b=some o->H' b=some o
theorem dG.refl:dG lr dn H H:=λ_ _ _ _ e=>e
theorem dG.trans (s:dG lr dn H H')(s':dG lr dn H' TF):dG lr dn H TF:=λb o h1 h2 e=>s' b o h1 h2 (s b o h1 h2 e)
theorem dG.of (s:aB H H'):dG lr dn H H':=λb o _ _ e=>s b o e
theorem dG.NM (s:dG lr dn H H')(Oi:H lr=some (.lst rx))(OE:H dn=some (fB dn L))(h:Ni K H a xs):Ni K H' a xs:=by
 rcases h with(h|⟨o,h⟩)|h
 .exact .inl (.inl (s _ _ (by rintro rfl;rw[Oi] at h;cases h) (by rintro rfl;rw[OE] at h;cases h) h))
 .exact .inl (.inr ⟨o,s _ _ (by rintro rfl;rw[Oi] at h;cases h) (by rintro rfl;rw[OE] at h;cases h) h⟩)
 .exact .inr h
theorem cV.afn (s:dG lr dn H H')(Oi:H lr=some (.lst rx))(OE:H dn=some (fB dn L))(h:cV K H y d):cV K H' y d:=by
 obtain⟨p,e,q⟩:=h;exact⟨p,e,s.NM Oi OE q⟩
theorem yu (s:dG lr dn H H')(Oi:H lr=some (.lst rx))(OE:H dn=some (fB dn L))(h:aK.rep K H y o):aK.rep K H' y o:=by
 obtain⟨p,rfl,q⟩:=cu h;exact cr (s.NM Oi OE q)
theorem P7.same (s:aB H H')(h:P7 K C H x lr dn rs):P7 K C H' x lr dn rs:=by
 obtain⟨dx,xs,L,h1,h2,h3,h4,h5,h6⟩:=h.ex;exact⟨dx,xs,L,s _ _ h1,s _ _ h2,aX (λ_ _ z=>z.same s) h3,s _ _ h4,λe he=>bS.mono s (h5 e he),h6⟩
theorem P7.upd (hd:H d=some o)(so:fF o)(n1:x≠d)(n2:lr≠d)(n3:dn≠d)(h:P7 K C H x lr dn rs):P7 K C (L2.upd H d u) x lr dn rs:=by
 obtain⟨dx,xs,L,h1,h2,h3,h4,h5,h6⟩:=h.ex;exact⟨dx,xs,L,by rw[aq n1];exact h1,by rw[aq n2];exact h2,aX (λ_ _ z=>z.soft hd so) h3,by rw[aq n3];exact h4,λe he=>j3 hd so (h5 e he),h6⟩
end
end Ord
namespace L2
open PySem PySem.Spec PyProof.Rows
def fY (base h:M4)(as:List A'):M4:=Zt h ((Oe h.objs.size).filter λb=>(base.get? b).isNone&&!as.contains b)
theorem nv (e:(fY base h as).get? b=some o):h.get? b=some o/\((base.get? b).isSome=true\/b∈as):=by
 have e1:=aaT _ e;refine⟨e1,RJ λhn=>?_⟩;have:(fY base h as).get? b=none:=acN _ (Pm.mpr ⟨Pn.mpr (NC e1),by
  cases q:base.get? b with
  | some o'=>exact Nc (.inl (by rw[q];rfl)) hn
  | none=>
   have:b∉as:=λz=>hn (.inr z);simp[this]⟩)
 rw[this] at e;cases e
theorem lq (e:h.get? b=some o)(hb:(base.get? b).isSome=true\/b∈as):(fY base h as).get? b=some o:=Zk _ e λm=>by
 have:=(Pm.mp m).2;rcases hb with q|q
 .cases z:base.get? b with
  | none=>rw[z] at q;cases q
  | some o'=>rw[z] at this;cases this
 .simp[q] at this
theorem Mod.more {K:MZ}(M:Mod K mg base)(k:∀b o,base.get? b=some o->h.get? b=some o):Mod K mg (fY base h as):=by
 have k':∀b o,base.get? b=some o->(fY base h as).get? b=some o:=λb o e=>lq (k b o e) (.inl (by rw[e];rfl));obtain⟨mb,b1,b2⟩:=M.blt;exact⟨M.Uf.keeps k',M.glob.keeps k',⟨mb,b1.keeps k',b2⟩,M.nolimit.keeps k'⟩
theorem mT {base h:M4}:∀{l:List OV},h.FunFrames base l->(∀b∈O2 l,b∉as)->h.FunFrames (fY base h as) l
 | [],_,_=>trivial
 | env::r,⟨hk,⟨L,o,hf,hn,ho,hd⟩,hr⟩,η=>⟨hk,⟨L,o,hf,by
   cases q:(fY base h as).get? L with
   | none=>rfl
   | some o'=>
    rcases(nv q).2 with z|z
    .rw[hn] at z;cases z
    .exact Nc z (η L (by unfold O2;rw[QP,hf];exact Nu)),ho,hd⟩,mT hr λb hb=>η b (by
   unfold O2 at hb ⊢;rw[QP]
   split
   .exact hb
   .exact NP _ hb)⟩
theorem SG.more {K:MZ}(e:SG P w K mg base A outer s H)(hn:∀b∈as,H b=none)(hf:∀b∈O2 outer,b∉as):
  SG P w K mg (fY base s.heap as) A outer s H:=
 ⟨e.frames,e.mod.more λb o q=>(e.bs b o q).1,λb o q=>⟨(nv q).1,(nv q).2.elim (λz=>by
  obtain⟨o',z⟩:=SZ.mp z;exact(e.bs b o' z).2) (hn b)⟩,VX (W.hideAll_size _ _),mT e.QW hf,e.Tt,e.Nf,e.bare⟩
structure Vt (base:M4)(f:A')(fd:Nt)(x:MV)(ys:List MV)(Og:List V)(qual:MV)(params:V3)(body:Nn)(scope:PX)(cl:List (MV×A'))(c:A'):Prop where
 fn:∃pm Qy,base.get? f=some (Zu "<lambda>" qual params body scope cl pm c Qy)/\fd=W.kla_fn "<lambda>" qual params body scope cl pm (.ref c) Qy
 kind:scope.kind=.function
 co:scope.isCoroutine=false
 gen:scope.isGenerator=false
 ZB:∀y∈scope.names,y.2≠.cell
 par:scope.names.lookup x=some .local
 inj:∀y z a,cl.lookup y=some a->cl.lookup z=some a->y=z
 has:∀y,scope.names.lookup y=some .free->∃a,cl.lookup y=some a
 cell:∀y a,cl.lookup y=some a->∃v,base.IsCell a v
 vals:Nd (λy v=>scope.names.lookup y=some .free/\∃a u,cl.lookup y=some a/\base.IsCell a (some u)/\aI v u) ys Og
def Yr (CX:PU)(P:Ng)(w:M7)(K:MZ)(mg:MV->Option D')(base:M4)(N:List MV)(env:OV)(A:Nv)(outer:List OV)(s:J')(H:Hp)(E:XK):Cx where
 prog:=P
 w:=w
 K:=K
 mg:=mg
 base:=base
 A:=A.deeper env
 N:=N
 OU:=s
 U1:=H
 env:=env
 outer:=outer
 stack:=env::outer
 ex:=[]
 calm:=true
 fn:=λ_=>false
 pn:=[]
 xe:=λe s'=>M3 (M8 P w) (A.deeper env) (leaving env e) (λ_ Vd=>CX outer H s E e Vd) (λe' Vd=>CX outer H s E e' Vd) s'
theorem uS {h h':M4}(k:∀b o,h.get? b=some o->h'.get? b=some o)(p:h.IsCell a v):h'.IsCell a v:=let ⟨o,e,d⟩:=p;⟨o,k _ _ e,d⟩
theorem Ar {K:MZ}(L:Vt base f fd x ys Og qual params body scope cl c)(hxy:x∉ys)(len:∀vs H Q E,sp vs H Q E->vs.length=1)(code:∀vs H Q E,sp vs H Q E->H c=some (.Oq oc (.own 0)))(SE:∃vs t,oc.data=.fields vs/\vs[1]?=some (.str qual t))(Tm:∀(A:Nv) (outer:List OV) (s:J') (H:Hp) (v:V) (Q:VK) (E:XK),MX k (A.deeper (W.envX qual scope s.heap.objs.size f (.ref c) cl))->sp [v] H Q E->
   ∃t,PE (Yr CX P w K mg base (x::ys) (W.envX qual scope s.heap.objs.size f (.ref c) cl) A outer s H E) body t/\t (some v::Og.map some) H Q):
  Nq P w K mg base CX (k+1) f fd [x] sp:=by
 refine⟨len,λA outer s H args us vs Q E hr e0 hb r NW=>?_⟩;obtain⟨v,rfl⟩:∃v,vs=[v]:=by
  have:=len _ _ _ _ NW
  match vs,this with
  | [v],_=>exact⟨v,rfl⟩
 obtain⟨u,rfl,ru⟩:=dm r;obtain⟨pm,Qy,hf,rfl⟩:=L.fn;have lim:s.heap.NoLimit:=e0.mod.nolimit.keeps λb o e=>(e0.bs b o e).1;have Pq:s.heap.CodeRec (.ref c) qual:=by
  obtain⟨ws,t,d1,d2⟩:=SE;have q:=e0.Nf c _ (code _ _ _ _ NW);exact⟨c,oc,ws,t,rfl,q.1,d1,d2⟩
 refine W.kla_callFunE hr.depth (e0.bs _ _ hf).1 rfl L.co L.gen rfl Pq (hb _ _ _ _ ?_);refine acg L.ZB (λy hy=>?_) (λP5 Rm Q2=>?_) L.kind
 .obtain rfl:y=(x,u):=by simpa using hy
  exact L.par
 have ZE:∀b o,s.heap.get? b=some o->P5.get? b=some o:=λb o e=>Q2.extBut b o (N0 (NC e)) (NK _ e);refine⟨lim.keeps ZE,?_⟩;show codeAny _ _ (.expr body (W.envX qual scope s.heap.objs.size f (.ref c) cl)) _ _;obtain⟨t,ht,hq⟩:=Tm A outer s H v Q E (hr.deeper _) NW;refine W.kla_codeExpr ?_;have adn:∀y a,cl.lookup y=some a->∀v,base.IsCell a v->P5.IsCell a v:=λy a _ v p=>uS (λb o e=>ZE b o (e0.bs b o e).1) p;have Ve:∀b:A',b∉(Yr CX P w K mg base (x::ys) (W.envX qual scope s.heap.objs.size f (.ref c) cl) A outer s H E).ex:=λb z=>Nc (show b∈([]:List A') from z) (by simp);have I:Inv (Yr CX P w K mg base (x::ys) (W.envX qual scope s.heap.objs.size f (.ref c) cl) A outer s H E) [] (some v::Og.map some) H { s with heap:=P5,toks:=s.toks+([x].zip [u]).length }:=by
  refine⟨⟨e0.mod,L.kind,rfl,rfl,Nl _,L.inj,λy hy=>?_,λy a z _=>(by cases z),λ_=>hr.hd,aeC e0.frames,.inr ⟨rfl,rfl⟩,λb z=>Nc z (Ve b),e0.bs,e0.Ts,λb _ _=>Ve b,λb z=>Nc z (Ve b),e0.QW,e0.Tt⟩,
   rfl,e0.bare,Un.kept ZE,⟨_,Rm,λi y v' h1 h2 h3=>?_⟩,λy a e=>?_,e0.Nf.fresh (Nl _),λy a e=>?_,λp hp=>Nc (show p∈([]:List (A'×G')) from hp) (by simp),e0.Nf.kept ZE,?_⟩
  .have hy:scope.names.lookup y=some .cell\/scope.names.lookup y=some .free:=hy;rcases hy with hy|hy
   .exact Nc rfl (L.ZB _ (Ra hy))
   .exact L.has y hy
  .cases i with
   | zero=>
    simp only[ab5,Option.some.injEq] at h2;have h1:x=y:=by simpa [Yr] using h1
    subst h1 h2;exact⟨u,ru,.inl ⟨L.par,by simp⟩⟩
   | succ i=>
    have h1:ys[i]?=some y:=by simpa [Yr] using h1
    have h2:(Og.map some)[i]?=some (some v'):=by simpa using h2
    rw[Pa] at h2;obtain⟨w',e1,e2⟩:=TV.mp h2;cases e2;obtain⟨b,e3,k,a,u',l1,l2,l3⟩:=cy L.vals h1;rw[e1] at e3;cases e3;exact⟨u',l3,.inr ⟨.inr k,a,l1,adn y a l1 _ l2⟩⟩
  .obtain⟨z,p⟩:=L.cell y a e;exact⟨z,adn y a e _ p⟩
  .obtain⟨z,o,p,_⟩:=L.cell y a e;exact(e0.bs a o p).2
  .have:=L.vals.length;show(some v::Og.map some).length=(x::ys).length;simp[this]
 exact RO (ht [] _ _ H _ I hq) (λu' s' ⟨v',H',J,rv,q⟩=>⟨v',H',J.os,J.bare,J.base,J.Nf,rv,q⟩) λe s' hs=>hs
theorem Cp {k i:Nat}(F:Nq X.prog X.w X.K X.mg X.base CX k f fd ps sp)(hr:MX k X.A)(ho:X.base.get? f=some o)(Uw:o.data=.func fd)(hN:X.N[i]?=some x)(hv:ZW X.env.scope x)(hb:∀us:List D',us.length=ps.length->bindArgs fd ⟨us,[]⟩=pure (ps.zip us))(hx:fI CX X E)(ha:PA X (e::es) t)(Q1:(x==("__debug__":MV))=false:=by decide)(Pq:(x==("__classdict__":MV))=false:=by decide)(he:Ob (e::es) X.env=(false,eval e X.env)::Ob es X.env:=by rfl)(Qo:(backTo pos (Ob es X.env)).any (·.1)=false:=by rfl):
  PE X (.Call (.Name x p) (e::es) [] pos) (λσ H Q=>σ[i]?=some (some (.ref f))/\t σ H λvs H1=>sp vs H1 Q (E σ)):=by
 intro aa s σ H Q I ⟨h0,h⟩;refine Xd (Nk (y7 hN hv Q1 Pq aa s σ H (λv H'=>v=.ref f/\t σ H' λvs H1=>sp vs H1 Q (E σ)) I ⟨_,h0,rfl,h⟩) λu s1 ⟨v,H1,I1,rv,ev,q1⟩=>?_);subst ev;cases rv;show M3 _ _ (callWith pos (.ref f) [] (backTo pos (Ob (e::es) X.env)) []) _ _ _;rw[he];refine W.callWith_of (P:=λh=>h.get? f=some o) (by show((false||(backTo pos (Ob es X.env)).any (·.1))||false)=false;rw[Qo];rfl) (λh hq=>⟨.frame,.inl rfl,?_⟩) (ad9 ?_)
 .obtain⟨oc,od,dd,sl⟩:=o;dsimp only at Uw;subst Uw;exact(W.Looks.ld (part:=none) hq).andThen .now
 .have ha':=ha pos aa s1 σ H1 _ I1 q1;rw[he] at ha';refine Nk ha' λus s2 ⟨vs,H2,I2,r,q2⟩=>⟨I2.bk f o ho,?_⟩
  have q2':sp (vs++[]) H2 Q (E σ):=by rw[QD];exact q2
  exact wy (Pk:=[]) (ds:=[]) F hr (bH.all hb) .nil hx I2 r q2'
structure VKd (prog)(w)(κ:Type)[DecidableEq κ]where
 is:M4->κ->D'->Prop
 hash:κ->Int
 draws:κ->Nat
 room:Nv->Prop
 one:∀{h:M4}{v:D'}{k k':κ},is h k v->is h k' v->k=k'
 ZQ:∀{h:M4}{v:D'}{k:κ},is h k v->(∃i t,v=.int i t)\/∃a,v=.ref a
 keeps:∀{h h':M4}{k:κ}{v:D'}{d:A'}{o:G'}{es ep},is h k v->h.get? d=some o->o.data=.dict es ep->R6 d h h'->is h' k v
 hashes:∀{A:Nv}{E:D'->J'->Prop}{s:J'}{k:κ}{v:D'}{Q:Int->J'->Prop},room A->is s.heap k v->Q (hash k) { s with toks:=s.toks+draws k }->M3 (M8 prog w) A (pyHash v) Q E s
 Wo:∀{A:Nv}{E:D'->J'->Prop}{s:J'}{k k':κ}{u v:D'}{Q:Bool->J'->Prop},room A->is s.heap k u->is s.heap k' v->Q (decide (k=k')) s->M3 (M8 prog w) A (eqBool u v) Q E s
 quiet:∀{A:Nv}{E:D'->J'->Prop}{s:J'}{k:κ}{v:D'}{Q:Bool->J'->Prop},is s.heap k v->Q true s->M3 (M8 prog w) A (eqIsQuiet 8 v) Q E s
section
variable {prog:Ng}{w:M7}{κ:Type} [DecidableEq κ] (kd:VKd prog w κ)
def iy (x:κ×D'×D'):O4:=⟨kd.hash x.1,x.2.1,x.2.2⟩
structure SF (h:M4)(es:Array O4)(xs:List (κ×D'×D')):Prop where
 all:es.toList=xs.map (iy kd)
 keys:∀x∈xs,kd.is h x.1 x.2.1
 nd:(xs.map (·.1)).Nodup
def Qz (xs:List (κ×D'×D'))(k:κ):Option D':=(xs.find? λx=>decide (x.1=k)).map (·.2.2)
variable {kd}{A:Nv}{E:D'->J'->Prop}{s:J'}
theorem SF.get (e:SF kd h es xs)(i:Nat):es[i]?=(xs[i]?).map (iy kd):=by rw[<-S7,e.all,Pa]
theorem SF.size (e:SF kd h es xs):es.size=xs.length:=by rw[<-Pe,e.all,NT]
theorem SF.uniq (e:SF kd h es xs){i j:Nat}(hi:xs[i]?=some x)(hj:xs[j]?=some y)(q:x.1=y.1):i=j:=by
 have a:(xs.map (·.1))[i]?=some x.1:=by rw[Pa,hi];rfl
 have b:(xs.map (·.1))[j]?=some x.1:=by rw[Pa,hj,q];rfl
 exact(acw (OA.mp a).1 e.nd).mp (a.trans b.symm)
def jC (xs:List (κ×D'×D'))(k:κ)(l:List Nat):Prop:=∀i∈l,∀x,xs[i]?=some x->x.1≠k
theorem oH (hu:kd.room A)(PH:kd.is s.heap k v)(ho:s.heap.get? d=some o)(hd:o.data=.dict es ep)(en:SF kd s.heap es xs)(q0:(∀x∈xs,x.1≠k)->Q none s)(q1:∀j x,xs[j]?=some x->x.1=k->Q (some j) s):M3 (M8 prog w) A (dictFind d v (kd.hash k)) Q E s:=by
 have at_:=en.get;have sz:=en.size;have adE:∀{j x},xs[j]?=some x->x.1=k->j∈placesWithHash es.size (λi=>es[i]?.map (·.hash)) (kd.hash k):=λ{j x} hj e=>by
  unfold placesWithHash;refine Pm.mpr ⟨Pn.mpr (by rw[sz];exact(OA.mp hj).1),?_⟩;dsimp only;rw[at_ j,hj];simp[iy,e]
 have V7:∀{j},j∈placesWithHash es.size (λi=>es[i]?.map (·.hash)) (kd.hash k)->∃x,xs[j]?=some x/\kd.hash x.1=kd.hash k:=λ{j} hj=>by
  unfold placesWithHash at hj;obtain⟨h1,h2⟩:=Pm.mp hj;have hl:j<xs.length:=by rw[<-sz];exact Pn.mp h1
  refine⟨xs[j],Ou hl,?_⟩;dsimp only at h2;rw[at_ j,Ou hl] at h2;simpa [iy] using h2
 have keyed:∀x∈es,∃k',kd.is s.heap k' x.key/\x.hash=kd.hash k':=λx hx=>by
  have:x∈xs.map (iy kd):=en.all▸aam.mpr hx;obtain⟨y,hy,rfl⟩:=NR.mp this;exact⟨y.1,en.keys y hy,rfl⟩
 have stored:∀u∈(placesWithHash es.size (λi=>es[i]?.map (·.hash)) (kd.hash k)).filterMap (λi=>es[i]?.map (·.key)),∃k',kd.is s.heap k' u:=λu hu=>by
  obtain⟨i,_,e⟩:=Rv.mp hu;obtain⟨x,hx,rfl⟩:=TV.mp e;obtain⟨k',h,_⟩:=keyed x (Array.mem_of_getElem? hx);exact⟨k',h⟩
 have same:∀e∈es,¬(e.key==v&&e.hash != kd.hash k)=true:=λe he h=>by
  obtain⟨k',h1,h2⟩:=keyed e he;simp only[Rc,beq_iff_eq,bne_iff_ne,ne_eq] at h;rw[h.1] at h1;exact h.2 (by rw[h2,kd.one h1 PH])
 generalize Qo:placesWithHash es.size (λi=>es[i]?.map (·.hash)) (kd.hash k)=pl at adE V7 stored;have XU:jC xs k pl->∀x∈xs,x.1≠k:=λh x hx hk=>by
  obtain⟨j,hj⟩:=UK.mp hx;exact h j (adE hj hk) x hj hk
 have plain:M3 (M8 prog w) A (dictWalkPlain d v (kd.hash k) es pl) Q E s:=by
  unfold dictWalkPlain;refine MW ?_;refine Re _ (λrest b s'=>s'=s/\b=(none,())/\∃done,pl=done++rest/\jC xs k done) _ ?_ ?_ _ _ ⟨rfl,rfl,[],rfl,λi hi=>nomatch hi⟩
  .rintro i rest b s' ⟨rfl,rfl,done,NW,Vg⟩;obtain⟨x,hx,hh⟩:=V7 (j:=i) (by rw[NW];simp);rw[at_ i,hx];simp only[Zf,iy];rw[M6 (by rw[hh];simp)];refine MW (SC ho hd (MW (kd.Wo hu (en.keys x (Oo hx)) PH (MW (SC ho hd ?_)))));rw[M0 (by simp)]
   by_cases z:x.1=k
   .rw[Nz z];simp only[if_true]
    first
     | exact MW (Qt (M1 (M1 (q1 i x hx z))))
     | exact MW (M1 (MW (Qt (M1 (M1 (q1 i x hx z))))))
   .rw[Ny z];simp only[OI,if_false]
    first
     | exact MW (Qt (M1 ⟨rfl,rfl,done++[i],by rw[NW];simp,λj hj y hy=>(Ov.mp hj).elim (λh=>Vg j h y hy) λh=>by
       obtain rfl:j=i:=by simpa using h
       rw[hx] at hy;cases hy;exact z⟩))
     | skip
  .rintro b s' ⟨rfl,rfl,done,NW,Vg⟩;rw[QD] at NW;exact M1 (q0 (XU (by rw[NW];exact Vg)))
 have tell:∀{l:List D'}{Q:Bool->J'->Prop},(∀u∈l,∃k',kd.is s.heap k' u)->Q false s->M3 (M8 prog w) A (tableMayTell v l) Q E s:=λ{l Q} hl hq=>by
  unfold tableMayTell
  split
  .exact M1 hq
  .refine MW (kd.quiet PH ?_);simp only[Rx,OI,if_false];refine MW (Re _ (λrest r s'=>s'=s/\r=(none,())/\∀u∈rest,∃k',kd.is s.heap k' u) _ ?_ ?_ _ _ ⟨rfl,rfl,hl⟩)
   .rintro u rest r s' ⟨rfl,rfl,hr⟩;obtain⟨k',RT⟩:=hr u Nu;refine MW (kd.quiet RT ?_);simp only[Rx,OI,if_false];exact M1 ⟨rfl,rfl,λz hz=>hr z (NP _ hz)⟩
   .rintro r s' ⟨rfl,rfl,_⟩;exact M1 hq
 have afK:¬(es.any λe=>e.key==v&&e.hash != kd.hash k)=true:=λh=>by
  obtain⟨i,hi,h⟩:=Array.any_eq_true.mp h;exact same es[i] (aeY hi) h
 have Ux:pl.Nodup:=by
  rw[<-Qo];exact(aaB (n:=es.size)).sublist VL
 rcases kd.ZQ PH with⟨i0,t0,rfl⟩|⟨a0,rfl⟩
 .unfold dictFind
  try with_reducible refine PN ?_
  refine MW (Za ho hd ?_);dsimp only;rw[Qo]
  by_cases Qu:((O0 i0 t0::pl.filterMap λi=>es[i]?.map (·.key)).all carriedByValue)=true
  .rw[M6 Qu];exact plain
  rw[M0 Qu]
  by_cases XV:((pl.filterMap λi=>es[i]?.map (·.key))==[O0 i0 t0])=true
  .rw[M6 XV];refine MW (M1 ?_);rw[M0 (by simp)];refine MW (Re _ (λrest b s'=>s'=s/\∃hit done,b=(none,hit)/\pl=done++rest/\((hit=none/\jC xs k done)\/∃j x,hit=some j/\j∈done/\xs[j]?=some x/\x.1=k)) _ ?_ ?_ _ _ ⟨rfl,none,[],rfl,rfl,.inl ⟨rfl,λi hi=>nomatch hi⟩⟩)
   .rintro i rest b s' ⟨rfl,hit,done,rfl,NW,hH⟩;obtain⟨x,hx,hh⟩:=V7 (j:=i) (by rw[NW];simp);rw[at_ i,hx];simp only[Zf,iy];rw[M6 (by rw[hh];simp)];refine MW (SC ho hd (MW (kd.Wo hu (en.keys x (Oo hx)) PH (MW (SC ho hd ?_)))));rw[M0 (by simp)]
    by_cases z:x.1=k
    .rw[Nz z,M6 rfl];rcases hH with⟨rfl,_⟩|⟨j,y,_,hj,hy,Q8⟩
     .rw[M0 (by simp)];refine MW (Qt ?_)
      split
      .exact M1 (M1 (q1 i x hx z))
      .exact M1 ⟨rfl,some i,done++[i],rfl,by rw[NW];simp,.inr ⟨i,x,rfl,by simp,hx,z⟩⟩
     .have e:=en.uniq hy hx (by rw[Q8,z]);subst e;rw[NW] at Ux;exact Nc rfl ((TZ.mp Ux).2.2 j hj j Nu)
    .rw[Ny z,M0 (by simp)];refine MW (Qt ?_);rw[M0 (by simp)];refine M1 ⟨rfl,hit,done++[i],rfl,by rw[NW];simp,hH.imp (λh=>⟨h.1,λj hj y hy=>(Ov.mp hj).elim (λm=>h.2 j m y hy) λm=>?_⟩) λ⟨j,y,h1,h2,h3⟩=>⟨j,y,h1,R3 _ h2,h3⟩⟩;obtain rfl:j=i:=by simpa using m
     rw[hx] at hy;cases hy;exact z
   .rintro b s' ⟨rfl,hit,done,rfl,NW,hH⟩;rw[QD] at NW;rcases hH with⟨rfl,h⟩|⟨j,y,rfl,_,hy,Q8⟩
    .exact M1 (q0 (XU (by rw[NW];exact h)))
    .exact M1 (q1 j y hy Q8)
  .rw[M0 XV];refine MW (tell stored ?_);rw[M0 (by simp)];refine MW (Re _ (λrest b s'=>s'=s/\∃hit done,b=(none,hit)/\pl=done++rest/\((hit=none/\jC xs k done)\/∃j x,hit=some j/\j∈done/\xs[j]?=some x/\x.1=k)) _ ?_ ?_ _ _ ⟨rfl,none,[],rfl,rfl,.inl ⟨rfl,λi hi=>nomatch hi⟩⟩)
   .rintro i rest b s' ⟨rfl,hit,done,rfl,NW,hH⟩;obtain⟨x,hx,hh⟩:=V7 (j:=i) (by rw[NW];simp);rw[at_ i,hx];simp only[Zf,iy];rw[M6 (by rw[hh];simp)];refine MW (SC ho hd (MW (kd.Wo hu (en.keys x (Oo hx)) PH (MW (SC ho hd ?_)))));rw[M0 (by simp)]
    by_cases z:x.1=k
    .rw[Nz z,M6 rfl];rcases hH with⟨rfl,_⟩|⟨j,y,_,hj,hy,Q8⟩
     .rw[M0 (by simp)];refine MW (Qt ?_)
      split
      .exact M1 (M1 (q1 i x hx z))
      .exact M1 ⟨rfl,some i,done++[i],rfl,by rw[NW];simp,.inr ⟨i,x,rfl,by simp,hx,z⟩⟩
     .have e:=en.uniq hy hx (by rw[Q8,z]);subst e;rw[NW] at Ux;exact Nc rfl ((TZ.mp Ux).2.2 j hj j Nu)
    .rw[Ny z,M0 (by simp)];refine MW (Qt ?_);rw[M0 (by simp)];refine M1 ⟨rfl,hit,done++[i],rfl,by rw[NW];simp,hH.imp (λh=>⟨h.1,λj hj y hy=>(Ov.mp hj).elim (λm=>h.2 j m y hy) λm=>?_⟩) λ⟨j,y,h1,h2,h3⟩=>⟨j,y,h1,R3 _ h2,h3⟩⟩;obtain rfl:j=i:=by simpa using m
     rw[hx] at hy;cases hy;exact z
   .rintro b s' ⟨rfl,hit,done,rfl,NW,hH⟩;rw[QD] at NW;rcases hH with⟨rfl,h⟩|⟨j,y,rfl,_,hy,Q8⟩
    .exact M1 (q0 (XU (by rw[NW];exact h)))
    .exact M1 (q1 j y hy Q8)
 .unfold dictFind
  try with_reducible refine PN ?_
  refine MW (Za ho hd ?_);dsimp only;rw[Qo]
  by_cases Qu:((NQ a0::pl.filterMap λi=>es[i]?.map (·.key)).all carriedByValue)=true
  .rw[M6 Qu];exact plain
  rw[M0 Qu];rw[M0 afK]
  by_cases XV:((pl.filterMap λi=>es[i]?.map (·.key))==[NQ a0])=true
  .rw[M6 XV];refine MW (M1 ?_);rw[M0 (by simp)];refine MW (Re _ (λrest b s'=>s'=s/\∃hit done,b=(none,hit)/\pl=done++rest/\((hit=none/\jC xs k done)\/∃j x,hit=some j/\j∈done/\xs[j]?=some x/\x.1=k)) _ ?_ ?_ _ _ ⟨rfl,none,[],rfl,rfl,.inl ⟨rfl,λi hi=>nomatch hi⟩⟩)
   .rintro i rest b s' ⟨rfl,hit,done,rfl,NW,hH⟩;obtain⟨x,hx,hh⟩:=V7 (j:=i) (by rw[NW];simp);rw[at_ i,hx];simp only[Zf,iy];rw[M6 (by rw[hh];simp)];refine MW (SC ho hd (MW (kd.Wo hu (en.keys x (Oo hx)) PH (MW (SC ho hd ?_)))));rw[M0 (by simp)]
    by_cases z:x.1=k
    .rw[Nz z,M6 rfl];rcases hH with⟨rfl,_⟩|⟨j,y,_,hj,hy,Q8⟩
     .rw[M0 (by simp)];refine MW (Qt ?_)
      split
      .exact M1 (M1 (q1 i x hx z))
      .exact M1 ⟨rfl,some i,done++[i],rfl,by rw[NW];simp,.inr ⟨i,x,rfl,by simp,hx,z⟩⟩
     .have e:=en.uniq hy hx (by rw[Q8,z]);subst e;rw[NW] at Ux;exact Nc rfl ((TZ.mp Ux).2.2 j hj j Nu)
    .rw[Ny z,M0 (by simp)];refine MW (Qt ?_);rw[M0 (by simp)];refine M1 ⟨rfl,hit,done++[i],rfl,by rw[NW];simp,hH.imp (λh=>⟨h.1,λj hj y hy=>(Ov.mp hj).elim (λm=>h.2 j m y hy) λm=>?_⟩) λ⟨j,y,h1,h2,h3⟩=>⟨j,y,h1,R3 _ h2,h3⟩⟩;obtain rfl:j=i:=by simpa using m
     rw[hx] at hy;cases hy;exact z
   .rintro b s' ⟨rfl,hit,done,rfl,NW,hH⟩;rw[QD] at NW;rcases hH with⟨rfl,h⟩|⟨j,y,rfl,_,hy,Q8⟩
    .exact M1 (q0 (XU (by rw[NW];exact h)))
    .exact M1 (q1 j y hy Q8)
  .rw[M0 XV];refine MW (tell stored ?_);rw[M0 (by simp)];refine MW (Re _ (λrest b s'=>s'=s/\∃hit done,b=(none,hit)/\pl=done++rest/\((hit=none/\jC xs k done)\/∃j x,hit=some j/\j∈done/\xs[j]?=some x/\x.1=k)) _ ?_ ?_ _ _ ⟨rfl,none,[],rfl,rfl,.inl ⟨rfl,λi hi=>nomatch hi⟩⟩)
   .rintro i rest b s' ⟨rfl,hit,done,rfl,NW,hH⟩;obtain⟨x,hx,hh⟩:=V7 (j:=i) (by rw[NW];simp);rw[at_ i,hx];simp only[Zf,iy];rw[M6 (by rw[hh];simp)];refine MW (SC ho hd (MW (kd.Wo hu (en.keys x (Oo hx)) PH (MW (SC ho hd ?_)))));rw[M0 (by simp)]
    by_cases z:x.1=k
    .rw[Nz z,M6 rfl];rcases hH with⟨rfl,_⟩|⟨j,y,_,hj,hy,Q8⟩
     .rw[M0 (by simp)];refine MW (Qt ?_)
      split
      .exact M1 (M1 (q1 i x hx z))
      .exact M1 ⟨rfl,some i,done++[i],rfl,by rw[NW];simp,.inr ⟨i,x,rfl,by simp,hx,z⟩⟩
     .have e:=en.uniq hy hx (by rw[Q8,z]);subst e;rw[NW] at Ux;exact Nc rfl ((TZ.mp Ux).2.2 j hj j Nu)
    .rw[Ny z,M0 (by simp)];refine MW (Qt ?_);rw[M0 (by simp)];refine M1 ⟨rfl,hit,done++[i],rfl,by rw[NW];simp,hH.imp (λh=>⟨h.1,λj hj y hy=>(Ov.mp hj).elim (λm=>h.2 j m y hy) λm=>?_⟩) λ⟨j,y,h1,h2,h3⟩=>⟨j,y,h1,R3 _ h2,h3⟩⟩;obtain rfl:j=i:=by simpa using m
     rw[hx] at hy;cases hy;exact z
   .rintro b s' ⟨rfl,hit,done,rfl,NW,hH⟩;rw[QD] at NW;rcases hH with⟨rfl,h⟩|⟨j,y,rfl,_,hy,Q8⟩
    .exact M1 (q0 (XU (by rw[NW];exact h)))
    .exact M1 (q1 j y hy Q8)
theorem Cq {xs:List (κ×D'×D')}(h:∀x∈xs,x.1≠k):Qz xs k=none:=by
 unfold Qz;rw[Y5.mpr λx hx=>by simpa using h x hx];rfl
theorem SF.Qz (e:SF kd h es xs){j:Nat}(hj:xs[j]?=some x):L2.Qz xs x.1=some x.2.2:=by
 unfold L2.Qz;cases q:xs.find? λy=>decide (y.1=x.1) with
 | none=>exact Nc (Y5.mp q x (Oo hj)) (by simp)
 | some y=>
  obtain⟨i,hi⟩:=UK.mp (aeb q);have hy:y.1=x.1:=by simpa using List.find?_some q
  have:=e.uniq hi hj hy;subst this;rw[hi] at hj;cases hj;rfl
def iX (kd:VKd prog w κ)(h:M4)(d:A')(xs:List (κ×D'×D')):Prop:=∃o es ep,h.get? d=some o/\o.ExactDict/\o.data=.dict es ep/\SF kd h es xs
theorem iX.type (m:iX kd s.heap d xs):s.TypeIs (.ref d) "dict":=let ⟨o,_,_,ho,hc,_⟩:=m;⟨o,ho,hc.1⟩
theorem rA (hu:kd.room A)(PH:kd.is s.heap k v)(m:iX kd s.heap d xs)(h:Q (Qz xs k) { s with toks:=s.toks+kd.draws k }):
  M3 (M8 prog w) A (dictGet d v) Q E s:=by
 obtain⟨o,es,ep,ho,_,hd,en⟩:=m;unfold dictGet
 try with_reducible refine PN ?_
 refine MW (kd.hashes hu PH (MW (oH (s:={ s with toks:=s.toks+kd.draws k }) hu PH ho hd en (λq=>?_) λj x hj hk=>?_)))
 .rw[Cq q] at h;exact M1 h
 .subst hk;rw[en.Qz hj] at h;refine MW (Za (s:={ s with toks:=s.toks+kd.draws x.1 }) ho hd ?_);rw[en.get j,hj];exact M1 h
theorem EC (hu:kd.room A.in1)(PH:kd.is s.heap k v)(hd:(d==Pr)=false)(m:iX kd s.heap d xs)(h:Q (.bool (!(Qz xs k).isSome)) { s with toks:=s.toks+kd.draws k }):M3 (M8 prog w) A (Ps .NotIn v (.ref d)) Q E s:=by
 show M3 _ _ (contains (.ref d) v >>= λb=>pure (RN (!b))) Q E s;refine MW ?_;unfold contains
 try with_reducible refine PN ?_
 refine MW (VQ m.type acp.lookup ?_);rw[show(some (VU "dict.__contains__")==some T7)=false from rfl];refine MW (wpAny_callSpecialUnlessNone?_slot (name:=R7 "__contains__") m.type acp (RK acp m.type entry_dict_contains ?_ (args_dict_contains _ _)));refine MW (m:=dictGet d v) (rA hu PH m ?_);cases hf:Qz xs k with
 | some p=>
  rw[hf] at h;exact M1 ⟨.bool true,rfl,Rb (M1 h)⟩
 | none=>
  rw[hf] at h;exact MW (m:=P4.Dict.pendingKey? d v) (wpAny_pendingKey_other hd (M1 ⟨.bool false,rfl,Rb (M1 h)⟩))
theorem As (hu:kd.room A.in1)(PH:kd.is s.heap k v)(m:iX kd s.heap d xs)(hp:Qz xs k=some u)(h:Q u { s with toks:=s.toks+kd.draws k }):
  M3 (M8 prog w) A (getItem (.ref d) v) Q E s:=by
 unfold getItem
 try with_reducible refine PN ?_
 refine MW (acs m.type (by decide) (MW (YX (name:=R7 "__getitem__") m.type slot_dict_getitem (RK slot_dict_getitem m.type entry_dict_getitem ?_ (args_dict_getitem _ _)))));refine MW (m:=dictGet d v) (rA hu PH m ?_);rw[hp];exact M1 ⟨u,rfl,M1 h⟩
theorem Au (hu:kd.room A.in1)(PH:kd.is s.heap k v)(m:iX kd s.heap d xs)(new:∀x∈xs,x.1≠k)(hsz:xs.length<=Nh)(hQ:∀h',iX kd h' d (xs++[(k,v,u)])->R6 d s.heap h'->Q () { s with heap:=h',toks:=s.toks+kd.draws k }):M3 (M8 prog w) A (setItem (.ref d) v u) Q E s:=by
 have ty:=m.type;obtain⟨o,es,ep,ho,hc,hd,en⟩:=m;have sz:=en.size;unfold setItem
 try with_reducible refine PN ?_
 refine MW (acs ty (by decide) (MW (YX (name:=R7 "__setitem__") ty slot_dict_setitem (RK slot_dict_setitem ty entry_dict_setitem ?_ (args_dict_setitem _ _ _)))));refine MW (m:=P4.Dict.notOrdered "__setitem__" ⟨[.ref d,v,u],[]⟩) (wpAny_notOrdered_dict ty ?_);refine MW (m:=dictSet d v u) ?_;unfold dictSet
 try with_reducible refine PN ?_
 refine MW (kd.hashes hu PH ?_);unfold dictSetHashed
 try with_reducible refine PN ?_
 refine MW (oH (s:={ s with toks:=s.toks+kd.draws k }) hu PH ho hd en (λ_=>?_) λj x hj hk=>Nc hk (new x (Oo hj)));refine MW (Qt (wpAny_updateDictKeys (hz:=by lia) (s:={ s with toks:=s.toks+kd.draws k }) ho hd (M1 ⟨.none,rfl,M1 (hQ _ ⟨_,_,ep+1,aak _ ho (G'.isFreed_of_dict (aeF hd _)),hc.mapDictKeys _,aeF hd _,?_,?_,?_⟩ (Xa ..))⟩)))
 .simp[en.all,iy]
 .intro x hx;rcases Ov.mp hx with hx|hx
  .exact kd.keeps (en.keys x hx) ho hd (Xa ..)
  .obtain rfl:x=(k,v,u):=by simpa using hx
   exact kd.keeps PH ho hd (Xa ..)
 .rw[QF,TZ];refine⟨en.nd,by simp,λa ha b hb e=>?_⟩;obtain⟨x,hx,rfl⟩:=NR.mp ha;obtain rfl:b=k:=by simpa using hb
  exact new x hx e
end
abbrev SK:=Sum Int (List Int)
def QL (h:M4):SK->D'->Prop
 | .inl i,v=>∃t,v=O0 i t
 | .inr l,v=>∃a,v=NQ a/\bT h l a
def mj:SK->Int
 | .inl i=>hashInt i
 | .inr l=>gE l
def Dw:SK->Nat
 | .inl _=>1
 | .inr l=>l.length+1
theorem QL.keeps {es ep}(ho:h.get? d=some o)(hd:o.data=.dict es ep)(hs:R6 d h h'):∀{k:SK}{v:D'},QL h k v->QL h' k v
 | .inl _,_,p=>p
 | .inr _,_,⟨a,e,q⟩=>⟨a,e,q.keeps ho hd hs⟩
theorem QL.one:∀{k k':SK},QL h k v->QL h k' v->k=k'
 | .inl _,.inl _,⟨_,e⟩,⟨_,e'⟩=>by subst e;cases e';rfl
 | .inl _,.inr _,⟨_,e⟩,⟨_,e',_⟩=>by subst e;cases e'
 | .inr _,.inl _,⟨_,e,_⟩,⟨_,e'⟩=>by subst e;cases e'
 | .inr _,.inr _,⟨_,e,p⟩,⟨_,e',p'⟩=>by subst e;cases e';rw[p.inj p']
theorem QL.ZQ:∀{k:SK},QL h k v->(∃i t,v=.int i t)\/∃a,v=.ref a
 | .inl i,⟨t,e⟩=>.inl ⟨i,t,e⟩
 | .inr _,⟨a,e,_⟩=>.inr ⟨a,e⟩
section
theorem eqK (hu:A.units<ND):∀{k k':SK},QL s.heap k u->QL s.heap k' v->RP A s u v (decide (k=k'))
 | .inl i,.inl j,⟨_,e⟩,⟨_,e'⟩=>by
  subst e e';have z:decide ((O5 i:SK)=O5 j)=(i==j):=by
   rw[hW]
   by_cases h:i=j
   .subst h;simp
   .simp[h]
  rw[z];exact aas _ _ _ _
 | .inl i,.inr l,⟨t,e⟩,⟨a,e',p⟩=>by
  subst e e';obtain⟨MY,tp,_⟩:=p;exact RP.int_tuple i t tp hu
 | .inr l,.inl i,⟨a,e',p⟩,⟨t,e⟩=>by
  subst e e';obtain⟨MY,tp,_⟩:=p;exact RP.tuple_int i t tp hu
 | .inr l,.inr m,⟨a,e,p⟩,⟨b,e',q⟩=>by
  subst e e';have z:decide ((SD l:SK)=SD m)=decide (l=m):=by
   by_cases h:l=m
   .subst h;simp
   .simp[h]
  rw[z];exact Dq hu p q
theorem Cr (hu:A.units<ND):∀{k:SK},QL s.heap k v->Q (mj k) { s with toks:=s.toks+Dw k }->M3 (M8 prog w) A (pyHash v) Q E s
 | .inl _,⟨_,e⟩,h=>by subst e;exact wpAny_pyHash_int h
 | .inr _,⟨_,e,p⟩,h=>by subst e;exact qK hu p h
theorem Jr (h:Q true s):∀{k:SK},QL s.heap k v->M3 (M8 prog w) A (eqIsQuiet 8 v) Q E s
 | .inl _,⟨_,e⟩=>by subst e;rw[eqIsQuiet_byValue 8 rfl];exact M1 h
 | .inr _,⟨_,e,p⟩=>by subst e;exact ug 7 p h
end
def oI (prog)(w):VKd prog w SK where
 is:=QL
 hash:=mj
 draws:=Dw
 room:=λA=>A.units<ND
 one:=QL.one
 ZQ:=QL.ZQ
 keeps:=λp ho hd hs=>p.keeps ho hd hs
 hashes:=λhu p h=>Cr hu p h
 Wo:=λhu p q h=>eqK hu p q _ _ _ _ h
 quiet:=λp h=>Jr h p
def cC (K:MZ)(H:Hp)(x:V):SK->Prop
 | .inl i=>x=.int i
 | .inr l=>aK.rep K H x l
theorem cC.mono {K:MZ}(h:aB H H'):∀{k:SK},cC K H x k->cC K H' x k
 | .inl _,p=>p
 | .inr _,p=>aK.mono h p
abbrev KL:=List (SK×V×Int)
def Ys (L:KL)(xs:List (SK×D'×D')):Prop:=Nd (λ(p:SK×V×Int) (q:SK×D'×D')=>p.1=q.1/\aI p.2.1 q.2.1/\∃t,q.2.2=O0 p.2.2 t) L xs
def FU (d:A')(L:KL)(h:M4):Prop:=(d==Pr)=false/\∃xs,Ys L xs/\∃o es ep,h.get? d=some o/\o.ExactDict/\o.data=.dict es ep/\es.toList=xs.map (λx=>(⟨mj x.1,x.2.1,x.2.2⟩:O4))/\(xs.map (·.1)).Nodup
def PK (d:A')(L:KL):HO:=.ext (FU d L)
theorem Av (x:FU d L h):bz P w H h d (PK d L):=by
 refine⟨x,?_,λh1 h2 ⟨y,xs,p,o,es,ep,e,r⟩ k=>⟨y,xs,p,o,es,ep,k _ e,r⟩⟩;obtain⟨_,_,_,o,_,_,e,_⟩:=x;exact⟨o,e⟩
def fG (L:KL)(k:SK):Option Int:=(L.find? λe=>decide (e.1=k)).map (·.2.2)
theorem oJ:∀{L:KL}{xs:List (SK×D'×D')},Ys L xs->(fG L k=none/\Qz xs k=none)\/∃n t,fG L k=some n/\Qz xs k=some (.int n t)
 | _,_,.nil=>.inl ⟨rfl,rfl⟩
 | e::L,x::xs,.cons r t=>by
  obtain⟨k1,a1,n1⟩:=e;obtain⟨k2,a2,v2⟩:=x;obtain⟨h1,h2,tk,h3⟩:=r;dsimp only at h1 h2 h3;subst h1 h3
  by_cases z:k1=k
  .subst z;exact .inr ⟨n1,tk,by simp[fG],by simp[Qz]⟩
  .have ih:=oJ (k:=k) t;have e1:fG ((k1,a1,n1)::L) k=fG L k:=by simp[fG,z]
   have e2:Qz ((k1,a2,O0 n1 tk)::xs) k=Qz xs k:=by simp[Qz,z]
   rw[e1,e2];exact ih
def iY (K:MZ)(H:Hp)(L:KL):Prop:=∀e∈L,cC K H e.2.1 e.1
section
variable {σ:St} in
theorem oK (I:Inv X aa σ H s)(r:aI x u):∀{k:SK},cC X.K H x k->QL s.heap k u
 | .inl _,p=>by
  have p:x=_:=p;subst p;exact r
 | .inr _,p=>by
  obtain⟨a,xs,e,q⟩:=id p;subst e;cases r;exact⟨a,rfl,yd I p⟩
variable {σ:St} in
theorem yw (I:Inv X aa σ H s)(e:H d=some (PK d L))(hk:iY X.K H L):(d==Pr)=false/\∃xs,Ys L xs/\iX (oI X.prog X.w) s.heap d xs:=by
 obtain⟨⟨y,xs,p,o,es,ep,e1,e2,e3,e4,e5⟩,_⟩:=(show bz X.prog X.w H s.heap d (PK d L) from I.Nf d _ e)
 refine⟨y,xs,p,o,es,ep,e1,e2,e3,e4,?_,e5⟩;intro x hx;obtain⟨j,hj⟩:=UK.mp hx;obtain⟨l,hl,r1,r2,_⟩:=fU (F:=λ(p:SK×V×Int) (q:SK×D'×D')=>p.1=q.1/\aI p.2.1 q.2.1/\∃t,q.2.2=O0 p.2.2 t) p hj;have:=oK I r2 (hk l (Oo hl));rw[r1] at this;exact this
def pV (K:MZ):R2:=λx y H Q=>∃d L k,y=.ref d/\H d=some (PK d L)/\iY K H L/\cC K H x k/\Q (.bl (!(fG L k).isSome)) H
theorem rB (hu:X.A.units+1<ND):N4 X (Ps .NotIn) (pV X.K):=by
 intro aa s σ H x y v u Q I rx ry h;obtain⟨d,L,k,rfl,e,hk,hb,q⟩:=h;cases ry;obtain⟨hd,xs,p,dd⟩:=yw I e hk;refine EC (kd:=oI X.prog X.w) (by show X.A.units+1<ND;lia) (oK I rx hb) hd dd ⟨.bl (!(fG L k).isSome),H,I.tok _,?_,q⟩;show _=RN _;rcases oJ (k:=k) p with⟨z1,z2⟩|⟨n,t,z1,z2⟩
 .rw[z1,z2];rfl
 .rw[z1,z2];rfl
def Js (K:MZ)(td ty:TE):TE:=λσ H Q=>td σ H λx H1=>ty σ H1 λy H2=>∃d L k n,x=.ref d/\H2 d=some (PK d L)/\iY K H2 L/\cC K H2 y k/\fG L k=some n/\Q (.int n) H2
theorem w6 (hu:X.A.units+1<ND)(ho:PE X o td)(hi:PE X i ty)(hs:tZ i):PE X (.Subscript o i pos) (Js X.K td ty):=by
 intro aa s σ H Q I h;refine lV aae.lookup hs (Nk (ho aa s σ H _ I h) λu s1 ⟨x,H1,I1,rx,q1⟩=>Nk (hi aa s1 σ H1 _ I1 q1) λiv s2 ⟨y,H2,I2,ry,d,L,k,n,ex,e,hk,hb,hn,q2⟩=>?_);subst ex;cases rx;obtain⟨hd,xs,p,dd⟩:=yw I2 e hk;refine⟨dd.type,?_⟩;rcases oJ (k:=k) p with⟨z1,z2⟩|⟨n',t,z1,z2⟩
 .rw[z1] at hn;cases hn
 .rw[z1] at hn;cases hn;exact As (kd:=oI X.prog X.w) (by show X.A.units+1<ND;lia) (oK I2 ry hb) dd z2 ⟨.int n,H2,I2.tok _,⟨t,rfl⟩,q2⟩
def Jt (K:MZ)(td ty tv:TE):TS:=λD σ H=>tv σ H λv H1=>td σ H1 λx H2=>ty σ H2 λy H3=>∃d L k n,v=.int n/\x=.ref d/\H3 d=some (PK d L)/\iY K H3 L/\cC K H3 y k/\fG L k=none/\L.length<Nh/\
 D.nx σ (upd H3 d (PK d (L++[(k,y,n)])))
theorem ED (hu:X.A.units+1<ND)(ho:PE X o td)(hi:PE X i ty)(hv:PE X value tv)(hs:swapsWith value (some (.Subscript o i pos')) pos.line X.env=pure false):
  PS X (.Assign [.Subscript o i pos'] value pos) (Jt X.K td ty tv):=by
 intro aa s σ H D I h;refine ab8 (Nk (hv aa s σ H _ I h) λr s1 ⟨v,H1,I1,rv,q1⟩=>Nk (ho aa s1 σ H1 _ I1 q1) λu s2 ⟨x,H2,I2,rx,q2⟩=>Nk (hi aa s2 σ H2 _ I2 q2) λiv s3 ⟨y,H3,I3,ry,d,L,k,n,ev,ex,e,hk,hb,hn,hl,q3⟩=>?_) hs;subst ev ex;obtain⟨t,rfl⟩:=rv;cases rx;obtain⟨hd,xs,p,dd⟩:=yw I3 e hk;have new:∀x∈xs,x.1≠k:=λx hx z=>by
  obtain⟨j,hj⟩:=UK.mp hx;obtain⟨_,_,_,_,_,_,en⟩:=dd;have z2:=en.Qz hj;rw[z] at z2;rcases oJ (k:=k) p with⟨_,z3⟩|⟨n',t',z1,_⟩
  .rw[z3] at z2;cases z2
  .rw[z1] at hn;cases hn
 refine Au (kd:=oI X.prog X.w) (by show X.A.units+1<ND;lia) (oK I3 ry hb) dd new (by rw[<-VS p];lia) λh' Q4 Q2=>⟨σ,_,?_,q3⟩
 obtain⟨o',es,ep,e1,e2,e3,e4,_,e5⟩:=Q4;refine I3.write (x:=d) (e:=d) (by rw[e];exact Qs) (.inl rfl) (λb q hb z=>(Q2.2 b hb).trans z) ⟨_,e1⟩ (Av ⟨hd,_,de p (.cons ⟨rfl,ry,t,rfl⟩ .nil),o',es,ep,e1,e2,e3,e4,e5⟩)
end
end L2
namespace Bk
open Mx
theorem gu (rs)(r):rs <+: (keep rs r).2:=let ⟨_,_,_,_,h⟩:=fL rs r;h
theorem xa {a b:List MX}(h:a <+: b)(hr:r∈a):b.idxOf r=a.idxOf r:=by
 obtain⟨c,rfl⟩:=h;rw[acv,M6 hr]
theorem yx (h:(keep rs r).2 <+: M9):keep M9 r=((keep rs r).1,M9):=by
 unfold keep at h ⊢
 by_cases m:r∈rs
 .rw[M6 m] at h ⊢;have m2:r∈M9:=h.subset m;rw[M6 m2,xa h m]
 .rw[M0 m] at h ⊢;have m1:r∈rs++[r]:=by simp
  have m2:r∈M9:=h.subset m1;rw[M6 m2,xa h m1,acv,M0 m];simp
theorem ny (hf:∀os rs,rs <+: (f os rs).2):∀ts rs,rs <+: (aY f os ts rs).2
 | [],_=>Qr
 | t::ts,rs=>(hf _ rs).trans (ny hf ts _)
theorem xb:∀(n:Nat) (os:ap) (rs:List MX),rs <+: (lay n os rs).2
 | 0,_,_=>Qr
 | n+1,os,rs=>(ny (xb n) (heads os) rs).trans (gu _ _)
theorem oM (hp:∀os rs,rs <+: (f os rs).2)(hf:∀os rs M9,(f os rs).2 <+: M9->f os M9=((f os rs).1,M9)):
  ∀ts rs M9,(aY f os ts rs).2 <+: M9->aY f os ts M9=((aY f os ts rs).1,M9)
 | [],_,_,_=>rfl
 | t::ts,rs,M9,h=>by
  have h1:(aY f os ts (f (rests t os) rs).2).2 <+: M9:=h;have e1:=hf (rests t os) rs M9 ((ny hp ts _).trans h1);have e2:=oM hp hf ts _ _ h1;unfold aY;rw[e1];dsimp only;rw[e2]
theorem ls:∀(n:Nat) (os:ap) (rs M9:List MX),(lay n os rs).2 <+: M9->lay n os M9=((lay n os rs).1,M9)
 | 0,_,_,_,_=>rfl
 | n+1,os,rs,M9,h=>by
  have h1:(keep (aY (lay n) os (heads os) rs).2 (aY (lay n) os (heads os) rs).1).2 <+: M9:=h;have e:=oM (xb n) (ls n) (heads os) rs M9 ((gu _ _).trans h1);unfold lay;rw[e];exact yx h1
theorem EF:∀(n:Nat) (os:ap) (rs:List MX),1<=(lay n os rs).1
 | 0,_,_=>Nl _
 | n+1,os,rs=>by
  obtain⟨i,h,_⟩:=fL (aY (lay n) os (heads os) rs).2 (aY (lay n) os (heads os) rs).1;show 1<=(keep _ _).1;lia
section
variable {S:Type} [DecidableEq S]
def cB (kn:List (S×Nat))(s:S):Option Nat:=(kn.find? λe=>decide (e.1=s)).map (·.2)
theorem Cs {a b:List (S×Nat)}(h:a <+: b)(e:cB a s=some k):cB b s=some k:=by
 obtain⟨c,rfl⟩:=h;unfold cB at e ⊢;rw[aaz];cases q:a.find? λe=>decide (e.1=s) with
 | none=>rw[q] at e;cases e
 | some x=>rw[q] at e;exact e
theorem Aw {a:List (S×Nat)}(e:cB (a++[(s,k)]) s'=some k'):cB a s'=some k'\/(cB a s'=none/\s'=s/\k'=k):=by
 unfold cB at e ⊢;rw[aaz] at e;cases q:a.find? λe=>decide (e.1=s') with
 | some x=>rw[q] at e;exact .inl e
 | none=>
  rw[q] at e
  by_cases z:s=s'
  .subst z;simp at e;exact .inr ⟨rfl,rfl,e.symm⟩
  .simp[z] at e
theorem nz {a:List (S×Nat)}(h:cB a s=none):cB (a++[(s,k)]) s=some k:=by
 unfold cB at h ⊢;rw[aaz];cases q:a.find? λe=>decide (e.1=s) with
 | some x=>rw[q] at h;cases h
 | none=>simp
theorem rC {a b:List (S×Nat)}(h:cB a s=none)(hb:∀e∈b,e.1≠s):cB (a++b) s=none:=by
 unfold cB at h ⊢;rw[aaz];cases q:a.find? λe=>decide (e.1=s) with
 | some x=>rw[q] at h;cases h
 | none=>
  have:b.find? (λe=>decide (e.1=s))=none:=Y5.mpr λe he=>by simpa using hb e he
  rw[this];rfl
abbrev GP (S:Type):=List MX×List (S×Nat)
def aG (g:S->GP S->Nat×GP S):List (Int×S)->GP S->MX×GP S
 | [],p=>([],p)
 | d::ds,p=>(if (g d.2 p).1=0 then (aG g ds (g d.2 p).2).1 else (d.1,((g d.2 p).1:Int))::(aG g ds (g d.2 p).2).1,(aG g ds (g d.2 p).2).2)
def aW (M5:S->List (Int×S)):Nat->S->GP S->Nat×GP S
 | 0,s,p=>((cB p.2 s).getD 0,p)
 | n+1,s,p=>match cB p.2 s with
  | some k=>(k,p)
  | none=>if (aG (aW M5 n) (M5 s) p).1=[] then (0,((aG (aW M5 n) (M5 s) p).2.1,(aG (aW M5 n) (M5 s) p).2.2++[(s,0)]))
   else ((keep (aG (aW M5 n) (M5 s) p).2.1 (aG (aW M5 n) (M5 s) p).1).1,
    ((keep (aG (aW M5 n) (M5 s) p).2.1 (aG (aW M5 n) (M5 s) p).1).2,(aG (aW M5 n) (M5 s) p).2.2++[(s,(keep (aG (aW M5 n) (M5 s) p).2.1 (aG (aW M5 n) (M5 s) p).1).1)]))
structure Way (M5:S->List (Int×S))(os:S->ap)(Oa:S->Nat)(tm good:S->Prop):Prop where
 pos:∀s,good s->¬tm s->1<=Oa s
 len:∀s,good s->¬tm s->∀o∈os s,o.length=Oa s
 down:∀s,good s->¬tm s->∀d∈M5 s,good d.2/\(tm d.2\/Oa d.2+1=Oa s)
 rise:∀s,good s->¬tm s->((M5 s).map (·.1)).Pairwise (· < ·)
 μ:∀s,good s->¬tm s->∀d∈M5 s,0<=d.1/\d.1<8
 rest:∀s,good s->¬tm s->∀d∈M5 s,fE (rests d.1 (os s)) (os d.2)
 all:∀s,good s->¬tm s->∀t r,t::r∈os s->∃s',(t,s')∈M5 s
structure RA (os:S->ap)(tm good:S->Prop)(rs)(kn):Prop where
 ends:∀s,good s->tm s->(cB kn s).isSome=true
 so:∀s k,cB kn s=some k->(os s=[]/\k=0)\/(os s≠[]/\∀n,(∀o∈os s,o.length=n)->lay n (os s) rs=(k,rs))
theorem RA.more {os:S->ap}(M:RA os tm good rs kn)(h:rs <+: M9):RA os tm good M9 kn:=
 ⟨M.ends,λs k e=>(M.so s k e).imp id λ⟨h1,h2⟩=>⟨h1,λn hn=>by
  have:=h2 n hn;have q:=ls n (os s) rs M9 (by rw[this];exact h);rw[q,this]⟩⟩
structure ZF (os:S->ap)(Oa:S->Nat)(tm good:S->Prop)(top:Nat)(p:GP S)(q:GP S):Prop where
 pre:p.1 <+: q.1
 memo:RA os tm good q.1 q.2
 add:∃more,q.2=p.2++more/\∀e∈more,¬tm e.1/\Oa e.1<=top/\good e.1
structure abf (os:S->ap)(s:S)(p:GP S)(r:Nat×GP S):Prop where
 val:cB r.2.2 s=some r.1
 Nr:os s=[]->r.1=0/\r.2.1=p.1
 some:os s≠[]->∀n,(∀o∈os s,o.length=n)->lay n (os s) p.1=(r.1,r.2.1)
theorem uT (h:fE a b):a=[]↔b=[]:=by
 constructor
 .intro e;subst e;exact aaa.mpr λo ho=>Nc ((h o).mpr ho) (by simp)
 .intro e;subst e;exact aaa.mpr λo ho=>Nc ((h o).mp ho) (by simp)
theorem nA (W:Way M5 os Oa tm good)(hs:good s)(ht:¬tm s)(hm:Oa s=m+1)(hg:∀d∈M5 s,∀p:GP S,RA os tm good p.1 p.2->ZF os Oa tm good m p (g d.2 p).2/\abf os d.2 p (g d.2 p)):
  ∀(ds:List (Int×S)) (p:GP S),(∀d∈ds,d∈M5 s)->RA os tm good p.1 p.2->ZF os Oa tm good m p (aG g ds p).2/\
   ((aG g ds p).1,(aG g ds p).2.1)=aY (lay m) (os s) ((ds.filter λd=>!(os d.2).isEmpty).map (·.1)) p.1
 | [],p,_,M=>⟨⟨Qr,M,[],by simp[aG],λe he=>nomatch he⟩,rfl⟩
 | d::ds,p,hd,M=>by
  obtain⟨G1,A1⟩:=hg d (hd d Nu) p M;obtain⟨G2,e2⟩:=nA W hs ht hm hg ds (g d.2 p).2 (λd' h'=>hd d' (NP _ h')) G1.memo;have Tq:=W.rest s hs ht d (hd d Nu);refine⟨⟨G1.pre.trans G2.pre,G2.memo,?_⟩,?_⟩
  .obtain⟨m1,a1,b1⟩:=G1.add;obtain⟨m2,a2,b2⟩:=G2.add;refine⟨m1++m2,?_,λe he=>(Ov.mp he).elim (b1 e) (b2 e)⟩;show(aG g ds (g d.2 p).2).2.2=_;rw[a2,a1,VM]
  .unfold aG
   by_cases z:os d.2=[]
   .obtain⟨k0,r0⟩:=A1.Nr z;have f:(d::ds).filter (λd=>!(os d.2).isEmpty)=ds.filter λd=>!(os d.2).isEmpty:=by
     rw[aaE,M0 (by simp[z])]
    rw[f,M6 k0];dsimp only;rw[e2,r0]
   .have f:(d::ds).filter (λd=>!(os d.2).isEmpty)=d::ds.filter λd=>!(os d.2).isEmpty:=by
     rw[aaE,M6 (by simp[z])]
    have ln:∀o∈os d.2,o.length=m:=λo ho=>by
     have:=W.len s hs ht _ (bt.mp ((Tq o).mpr ho));rw[hm,OB] at this;lia
    have L:=A1.some z m ln;have L':lay m (rests d.1 (os s)) p.1=((g d.2 p).1,(g d.2 p).2.1):=by rw[iw m p.1 Tq];exact L
    have pos:=EF m (os d.2) p.1;rw[L] at pos;have pos:1<=(g d.2 p).1:=pos;rw[f,M0 (by lia),N7];unfold aY;rw[L'];dsimp only;rw[<-e2]
variable {M5:S->List (Int×S)} in
theorem Ax (W:Way M5 os Oa tm good)(hs:good s)(ht:¬tm s):heads (os s)=((M5 s).filter λd=>!(os d.2).isEmpty).map (·.1):=by
 have rise:∀{a b:List Int},a.Pairwise (· < ·)->b.Pairwise (· < ·)->(∀x,x∈a↔x∈b)->a=b:=by
  intro a b ha hb h;have nd:∀{l:List Int},l.Pairwise (· < ·)->l.Nodup:=λh=>h.imp λh e=>by lia
  have p:a.Perm b:=(aac (nd ha) (nd hb)).mpr h;exact p.eq_of_pairwise (le:=(· < ·)) (λx y _ _ h1 h2=>by lia) ha hb
 refine rise (cI _) ?_ λt=>?_
 .exact(W.rise s hs ht).sublist (VL.map _)
 .rw[bJ,NR];constructor
  .rintro⟨hb,r,hr⟩;obtain⟨s',h'⟩:=W.all s hs ht t r hr;refine⟨(t,s'),Pm.mpr ⟨h',?_⟩,rfl⟩;have:=(W.rest s hs ht _ h' r).mp (bt.mpr hr);cases e:os s' with
   | nil=>rw[e] at this;cases this
   | cons a b=>simp[e]
  .rintro⟨d,hd,rfl⟩;obtain⟨hd,ne⟩:=Pm.mp hd;refine⟨W.μ s hs ht d hd,?_⟩;cases e:os d.2 with
   | nil=>rw[e] at ne;cases ne
   | cons r l=>exact⟨r,bt.mp ((W.rest s hs ht d hd r).mpr (by rw[e];exact Nu))⟩
theorem xc (W:Way M5 os Oa tm good):∀(n:Nat) (s:S) (p:GP S) (top:Nat),good s->(tm s\/Oa s<=n)->(tm s\/Oa s<=top)->RA os tm good p.1 p.2->ZF os Oa tm good top p (aW M5 n s p).2/\abf os s p (aW M5 n s p):=by
 have known:∀{s:S}{p:GP S}{k:Nat}{n:Nat},RA os tm good p.1 p.2->cB p.2 s=some k->ZF os Oa tm good n p p/\abf os s p (k,p):=λ{s p k n} M e=>
  ⟨⟨Qr,M,[],by simp,λe he=>nomatch he⟩,⟨e,λz=>⟨((M.so s k e).resolve_right λq=>q.1 z).2,rfl⟩,λz n hn=>((M.so s k e).resolve_left λq=>z q.1).2 n hn⟩⟩
 intro n
 induction n with
 | zero=>
  intro s p top hs hl _ M;have ht:tm s:=hl.elim id λh=>RJ λht=>by have:=W.pos s hs ht;lia
  obtain⟨k,e⟩:=SZ.mp (M.ends s hs ht);have r:=known (n:=top) M e;unfold aW;rw[e];exact r
 | succ n ih=>
  intro s p top hs hl OD M;unfold aW;cases e:cB p.2 s with
  | some k=>exact known M e
  | none=>
   have ht:¬tm s:=λht=>by
    have:=M.ends s hs ht;rw[e] at this;cases this
   have hle:Oa s<=n+1:=hl.resolve_left ht;have afL:Oa s<=top:=OD.resolve_left ht;have U5:=W.pos s hs ht;obtain⟨m,hm⟩:∃m,Oa s=m+1:=⟨Oa s-1,by lia⟩
   obtain⟨G,eD⟩:=nA W hs ht hm (g:=aW M5 n) (λd hd p M=>by
    obtain⟨g',l'⟩:=W.down s hs ht d hd;exact ih d.2 p m g' (l'.imp id λh=>by lia) (l'.imp id λh=>by lia) M) (M5 s) p (λd hd=>hd) M
   rw[<-Ax W hs ht] at eD;dsimp only;generalize aG (aW M5 n) (M5 s) p=q at G eD ⊢;obtain⟨ds,Na,kn1⟩:=q;dsimp only at G eD ⊢;have ν:ds=(aY (lay m) (os s) (heads (os s)) p.1).1:=congrArg (·.1) eD;have Yp:Na=(aY (lay m) (os s) (heads (os s)) p.1).2:=congrArg (·.2) eD;obtain⟨more,ha,hb⟩:=G.add;dsimp only at ha;have kn:cB kn1 s=none:=by
    rw[ha];exact rC e λx hx z=>by
     have:=(hb x hx).2.1;rw[z] at this;lia
   have adF:∀k,∃mo,kn1++[(s,k)]=p.2++mo/\∀x∈mo,¬tm x.1/\Oa x.1<=top/\good x.1:=λk=>
    ⟨more++[(s,k)],by rw[ha,VM],λx hx=>(Ov.mp hx).elim (λh=>⟨(hb x h).1,by have:=(hb x h).2.1;lia,(hb x h).2.2⟩) λh=>by
     obtain rfl:x=(s,k):=by simpa using h
     exact⟨ht,afL,hs⟩⟩
   have ado:∀(k:Nat) (M9:List MX),Na <+: M9->((os s=[]/\k=0)\/(os s≠[]/\∀n,(∀o∈os s,o.length=n)->lay n (os s) M9=(k,M9)))->RA os tm good M9 (kn1++[(s,k)]):=λk M9 hp so=>by
    have M2:=G.memo.more hp;refine⟨λx hx tx=>?_,λx kx ex=>?_⟩
    .obtain⟨k',e'⟩:=SZ.mp (M2.ends x hx tx);rw[Cs (Xh _ _) e'];rfl
    .rcases Aw ex with h|⟨_,rfl,rfl⟩
     .exact M2.so x kx h
     .exact so
   have adG:ds=[]↔os s=[]:=by
    have Q7:ds.length=(heads (os s)).length:=by
     rw[ν];generalize heads (os s)=ts;generalize p.1=rs
     induction ts generalizing rs with
     | nil=>rfl
     | cons t ts ih=>unfold aY;simp[ih]
    constructor
    .intro z;rw[z] at Q7;have hh:heads (os s)=[]:=S0.mp Q7.symm;refine aaa.mpr λo ho=>?_;have Yb:=W.len s hs ht o ho
     match o,ho,Yb with
     | [],_,Yb=>rw[hm] at Yb;simp at Yb
     | t::r,ho,_=>
      obtain⟨s',h'⟩:=W.all s hs ht t r ho;have:t∈heads (os s):=bJ.mpr ⟨W.μ s hs ht _ h',r,ho⟩;rw[hh] at this;cases this
    .intro z;have hh:heads (os s)=[]:=aaa.mpr λt TD=>by
      obtain⟨_,r,hr⟩:=bJ.mp TD;rw[z] at hr;cases hr
     rw[hh] at Q7;exact S0.mp Q7
   by_cases z:ds=[]
   .have zo:=adG.mp z;have hr:Na=p.1:=by
     have hh:heads (os s)=[]:=by rw[zo];decide
     rw[Yp,hh];rfl
    rw[M6 z];exact⟨⟨G.pre,ado 0 Na Qr (.inl ⟨zo,rfl⟩),adF 0⟩,⟨nz kn,λ_=>⟨rfl,hr⟩,λh=>Nc zo h⟩⟩
   .have zo:os s≠[]:=λh=>z (adG.mpr h);rw[M0 z];have L:∀k,(∀o∈os s,o.length=k)->lay k (os s) p.1=keep Na ds:=λk hk=>by
     obtain⟨o,l,eo⟩:=abU zo;have h1:=hk o (by rw[eo];exact Nu);have h2:=W.len s hs ht o (by rw[eo];exact Nu);obtain rfl:k=m+1:=by lia
     unfold lay;rw[<-ν,<-Yp]
    refine⟨⟨G.pre.trans (gu _ _),ado _ _ (gu _ _) (.inr ⟨zo,λk hk=>?_⟩),adF _⟩,⟨nz kn,λh=>Nc h zo,λ_ k hk=>L k hk⟩⟩;have q:=ls k (os s) p.1 (keep Na ds).2 (by rw[L k hk];exact Qr);rw[q,L k hk]
end
abbrev Sk:=Sum Int (List Int)
abbrev Cl:=List (Int×Int)
def bQ (rs:List MX)(k:Int):ap:=Pd rs k.toNat
def bv (rs:List MX)(k:Int):MX:=if k=0 then [] else bj rs k
def eE (cl:Cl)(a b:Int):Sk:=if (a<=1\/b<=1)/\(min a 1,min b 1)∉cl then .inl 0 else if a<=1/\b<=1 then .inl 1 else .inr [a,b]
def gB (r1 r2:MX):List Int:=(bw 8).filter λt=>(r1.map (·.1)).contains t||(r2.map (·.1)).contains t
def fZ (cl:Cl)(Na M9:List MX)(a b:Int):List (Int×Sk):=(gB (bv Na a) (bv M9 b)).map λt=>(t,eE cl (ck (bv Na a) t) (ck (bv M9 b) t))
def bit (rs:List MX)(k:Int)(o:List Int):Int:=if o∈bQ rs k then 1 else 0
def Yt (cl:Cl)(Na M9:List MX)(a b:Int):ap:=(bQ Na a++bQ M9 b).filter λo=>decide ((bit Na a o,bit M9 b o)∈cl)
def gv (cl:Cl)(Na M9:List MX):Sk->List (Int×Sk)
 | .inr [a,b]=>fZ cl Na M9 a b
 | _=>[]
def osJ (cl:Cl)(Na M9:List MX):Sk->ap
 | .inl k=>if k=1 then [[]] else []
 | .inr [a,b]=>Yt cl Na M9 a b
 | _=>[]
def uU (Na M9:List MX):Sk->Nat
 | .inr [a,b]=>((bQ Na a++bQ M9 b).headD []).length
 | _=>0
def P8:Sk->Prop
 | .inl _=>True
 | _=>False
def Rn (rs:List MX)(k:Int):Prop:=k=0\/(1<=k/\k<(rs.length:Int)+2)
structure Pg (Na M9)(a b:Int)(n:Nat):Prop where
 ra:Rn Na a
 rb:Rn M9 b
 la:∀o∈bQ Na a,o.length=n
 lb:∀o∈bQ M9 b,o.length=n
def mn (Na M9:List MX):Sk->Prop
 | .inl k=>k=0\/k=1
 | .inr [a,b]=>a≠1/\b≠1/\¬(a=0/\b=0)/\∃n,Pg Na M9 a b (n+1)
 | _=>False
section
theorem eU (rs):bQ rs 0=[]:=uA rs
theorem j5 (rs):bQ rs 1=[[]]:=jz rs
theorem jD (wf:WF rs)(h:1<=k)(hk:k<(rs.length:Int)+2):bQ rs k≠[]:=uE wf k.toNat k.toNat (Nl _) (by lia) (by lia)
theorem yz (t:Int):ck [] t=0:=rfl
theorem mq (wf:WF rs)(h:2<=k)(hk:k<(rs.length:Int)+2):MX.Ok (k.toNat-2) (bj rs k)/\bQ rs k=(bj rs k).flatMap λd=>(bQ rs d.2).map (d.1::·):=by
 obtain⟨r,e,ok,es⟩:=oz wf (k:=k.toNat) (by lia) (by lia);have hr:bj rs k=r:=by
  have:=rh e (by lia);rwa[show((k.toNat:Nat):Int)=k by lia] at this
 rw[hr];exact⟨ok,es⟩
theorem j6 (ok:((bj rs k).map (·.1)).Pairwise (· < ·)):(ck (bj rs k) t=m/\(∃d∈bj rs k,d.1=t))↔(t,m)∈bj rs k:=by
 constructor
 .rintro⟨h,d,hd,rfl⟩;unfold ck at h;rw[kZ ok hd] at h;dsimp only at h;subst h;exact hd
 .intro h;refine⟨?_,_,h,rfl⟩;unfold ck;rw[kZ ok h]
theorem jc (h:∀d∈r,d.1≠t):ck r t=0:=by
 unfold ck;rw[Y5.mpr λd hd=>by simpa using h d hd]
theorem iz (wf:WF rs)(hk:Rn rs k)(h1:k≠1):t::r∈bQ rs k↔r∈bQ rs (ck (bv rs k) t):=by
 unfold bv;rcases hk with rfl|⟨h0,hk⟩
 .rw[M6 rfl,yz,eU];simp
 .rw[M0 (by lia)];obtain⟨ok,es⟩:=mq wf (k:=k) (by lia) hk;rw[es,Rg]
  by_cases hd:∃d∈bj rs k,d.1=t
  .obtain⟨d,hd,rfl⟩:=hd;have hb:=((j6 ok.rise).mpr hd).1;rw[hb];constructor
   .rintro⟨d',QZ,hm⟩;obtain⟨r',RU,e⟩:=NR.mp hm;injection e with e1 e2
    subst e2;have:=((j6 ok.rise).mpr (show(d.1,d'.2)∈_ by rw[<-e1];exact QZ)).1;rw[hb] at this;rw[this];exact RU
   .intro hr;exact⟨d,hd,NR.mpr ⟨r,hr,rfl⟩⟩
  .rw[jc (λd h e=>hd ⟨d,h,e⟩),eU];constructor
   .rintro⟨d',QZ,hm⟩;obtain⟨r',RU,e⟩:=NR.mp hm;injection e with e1 e2
    exact Nc ⟨d',QZ,e1⟩ hd
   .intro h;cases h
theorem rD (wf:WF rs)(hk:Rn rs k)(h1:k≠1):Rn rs (ck (bv rs k) t):=by
 unfold bv;rcases hk with rfl|⟨h0,hk⟩
 .exact .inl rfl
 .rw[M0 (by lia)];obtain⟨ok,_⟩:=mq wf (k:=k) (by lia) hk
  by_cases hd:∃d∈bj rs k,d.1=t
  .obtain⟨d,hd,rfl⟩:=hd;rw[((j6 ok.rise).mpr hd).1];have:=ok.ahead d hd;exact .inr ⟨this.1,by lia⟩
  .exact .inl (jc λd h e=>hd ⟨d,h,e⟩)
theorem h7 (c0:(0,0)∉cl):o∈Yt cl Na M9 a b↔(bit Na a o,bit M9 b o)∈cl:=by
 unfold Yt;rw[Pm,Ov];constructor
 .intro h;simpa using h.2
 .intro h;refine⟨?_,by simpa using h⟩
  by_cases h1:o∈bQ Na a
  .exact .inl h1
  .by_cases h2:o∈bQ M9 b
   .exact .inr h2
   .unfold bit at h;rw[M0 h1,M0 h2] at h;exact Nc h c0
theorem j7 (w:WF M9)(hb:Rn M9 b)(h:∀o∈bQ M9 b,o.length=0):b=0\/b=1:=by
 rcases hb with h0|⟨h1,h2⟩
 .exact .inl h0
 .by_cases hb:b=1
  .exact .inr hb
  .exfalso;obtain⟨ok,es⟩:=mq w (k:=b) (by lia) h2;obtain⟨o,ho⟩:=SY _ (jD w h1 h2);have:=h o ho;rw[es] at ho;obtain⟨d,_,hm⟩:=Rg.mp ho;obtain⟨r,_,e⟩:=NR.mp hm;rw[<-e] at this;simp at this
theorem Pg.ends (w1:WF Na)(w2:WF M9)(P:Pg Na M9 a b n)(h:a=1\/b=1):n=0/\(a=0\/a=1)/\(b=0\/b=1):=by
 have hn:n=0:=by
  rcases h with rfl|rfl
  .exact(P.la [] (by rw[j5];simp)).symm
  .exact(P.lb [] (by rw[j5];simp)).symm
 subst hn;exact⟨rfl,j7 w1 P.ra P.la,j7 w2 P.rb P.lb⟩
theorem mv (w1:WF Na)(w2:WF M9)(c0:(0,0)∉cl)(P:Pg Na M9 a b n):
  mn Na M9 (eE cl a b)/\fE (Yt cl Na M9 a b) (osJ cl Na M9 (eE cl a b))/\(P8 (eE cl a b)\/uU Na M9 (eE cl a b)=n):=by
 by_cases both:a<=1/\b<=1
 .have ha:a=0\/a=1:=by rcases P.ra with h|h <;> lia
  have hb:b=0\/b=1:=by rcases P.rb with h|h <;> lia
  have ba:∀o,bit Na a o=if a=1/\o=[] then 1 else 0:=λo=>by
   unfold bit;rcases ha with rfl|rfl
   .rw[eU];simp
   .rw[j5];simp
  have bb:∀o,bit M9 b o=if b=1/\o=[] then 1 else 0:=λo=>by
   unfold bit;rcases hb with rfl|rfl
   .rw[eU];simp
   .rw[j5];simp
  have mm:(min a 1,min b 1)=(a,b):=by rw[acL both.1,acL both.2]
  have b0:∀o,(bit Na a o,bit M9 b o)=if o=[] then (a,b) else (0,0):=λo=>by
   rw[ba,bb]
   by_cases ho:o=[]
   .subst ho;rcases ha with rfl|rfl <;> rcases hb with rfl|rfl <;> rfl
   .simp[ho]
  unfold eE;rw[mm]
  by_cases hc:(a,b)∈cl
  .rw[M0 (λh=>h.2 hc),M6 both];refine⟨.inr rfl,λo=>?_,.inl trivial⟩;rw[h7 c0,b0];show _↔o∈[[]]
   by_cases ho:o=[]
   .simp[ho,hc]
   .simp[ho,c0]
  .rw[M6 ⟨.inl both.1,hc⟩];refine⟨.inl rfl,λo=>?_,.inl trivial⟩;rw[h7 c0,b0];show _↔o∈[]
   by_cases ho:o=[]
   .simp[ho,hc]
   .simp[ho,c0]
 .have a1:a≠1:=λh=>both (by obtain⟨_,h1,h2⟩:=P.ends w1 w2 (.inl h);lia);have b1:b≠1:=λh=>both (by obtain⟨_,h1,h2⟩:=P.ends w1 w2 (.inr h);lia);have a0:0<=a:=by rcases P.ra with h|h <;> lia
  have b0:0<=b:=by rcases P.rb with h|h <;> lia
  have nn:∃m,n=m+1:=by
   cases n with
   | succ m=>exact⟨m,rfl⟩
   | zero=>
    have h1:=j7 w1 P.ra P.la;have h2:=j7 w2 P.rb P.lb;exact Nc ⟨by lia,by lia⟩ both
  obtain⟨m,rfl⟩:=nn;unfold eE
  by_cases hc:(a<=1\/b<=1)/\(min a 1,min b 1)∉cl
  .rw[M6 hc];refine⟨.inl rfl,λo=>?_,.inl trivial⟩;rw[h7 c0];show _↔o∈[];refine⟨λh=>?_,λh=>by cases h⟩;exfalso;have key:∀x y:Int,(bit Na a o,bit M9 b o)=(x,y)->(x,y)∈cl:=λx y e=>by rw[<-e];exact h
   rcases hc.1 with ha|hb
   .have ha:a=0:=by lia
    subst ha;have e1:bit Na 0 o=0:=by unfold bit;rw[eU];simp
    have e2:min b 1=1:=acC (by lia);have e3:min (0:Int) 1=0:=rfl;rw[e2,e3] at hc
    by_cases ho:o∈bQ M9 b
    .exact hc.2 (key 0 1 (by rw[e1];unfold bit;rw[M6 ho]))
    .exact c0 (key 0 0 (by rw[e1];unfold bit;rw[M0 ho]))
   .have hb:b=0:=by lia
    subst hb;have e1:bit M9 0 o=0:=by unfold bit;rw[eU];simp
    have e2:min a 1=1:=acC (by lia);have e3:min (0:Int) 1=0:=rfl;rw[e2,e3] at hc
    by_cases ho:o∈bQ Na a
    .exact hc.2 (key 1 0 (by rw[e1];unfold bit;rw[M6 ho]))
    .exact c0 (key 0 0 (by rw[e1];unfold bit;rw[M0 ho]))
  .rw[M0 hc,M0 both];refine⟨⟨a1,b1,λh=>both (by lia),m,P⟩,λo=>Iff.rfl,.inr ?_⟩;show((bQ Na a++bQ M9 b).headD []).length=m+1;have ne:bQ Na a++bQ M9 b≠[]:=λe=>by
    obtain⟨h1,h2⟩:=aeu.mp e;have z1:a=0:=RJ λz=>jD w1 (k:=a) (by lia) (P.ra.resolve_left z).2 h1;have z2:b=0:=RJ λz=>jD w2 (k:=b) (by lia) (P.rb.resolve_left z).2 h2;exact both (by lia)
   obtain⟨o,l,e⟩:=abU ne;have ho:o∈bQ Na a++bQ M9 b:=by rw[e];exact Nu
   rw[e];exact(Ov.mp ho).elim (P.la o) (P.lb o)
theorem lu:t∈gB r1 r2↔(0<=t/\t<8)/\((∃d∈r1,d.1=t)\/(∃d∈r2,d.1=t)):=by
 unfold gB;rw[Pm,dc];simp
theorem oO (r1 r2):(gB r1 r2).Pairwise (· < ·):=by
 have:(bw 8).Pairwise (· < ·):=by decide
 exact this.sublist VL
def oP (rs:List MX):Prop:=∀r∈rs,∀d∈r,0<=d.1/\d.1<8
theorem uV (h:oP rs)(hd:d∈bv rs k):0<=d.1/\d.1<8:=by
 unfold bv at hd
 split at hd
 .cases hd
 .unfold bj at hd;cases e:rs[(k-2).toNat]? with
  | none=>rw[e] at hd;cases hd
  | some r=>rw[e] at hd;exact h r (Oo e) d hd
theorem oQ (wf:WF rs)(hk:Rn rs k)(h1:k≠1)(h:t::r∈bQ rs k):∃d∈bv rs k,d.1=t:=by
 rw[iz wf hk h1] at h;refine RJ λhn=>?_;rw[jc (λd hd e=>hn ⟨d,hd,e⟩),eU] at h;cases h
theorem j8 (w1:WF Na)(w2:WF M9)(s1:oP Na)(s2:oP M9)(c0:(0,0)∉cl):Way (gv cl Na M9) (osJ cl Na M9) (uU Na M9) P8 (mn Na M9):=by
 have cases:∀s,mn Na M9 s->¬P8 s->∃a b n,s=.inr [a,b]/\a≠1/\b≠1/\¬(a=0/\b=0)/\Pg Na M9 a b (n+1):=by
  intro s hg ht
  match s,hg,ht with
  | .inl k,_,ht=>exact Nc trivial ht
  | .inr [a,b],⟨h1,h2,h3,n,P⟩,_=>exact⟨a,b,n,rfl,h1,h2,h3,P⟩
 have lv:∀{a b:Int}{n:Nat},¬(a=0/\b=0)->Pg Na M9 a b (n+1)->uU Na M9 (.inr [a,b])=n+1:=by
  intro a b n h3 P;show((bQ Na a++bQ M9 b).headD []).length=n+1;have ne:bQ Na a++bQ M9 b≠[]:=λe=>by
   obtain⟨h1,h2⟩:=aeu.mp e;have z1:a=0:=RJ λz=>jD w1 (k:=a) (by have:=P.ra.resolve_left z;lia) (P.ra.resolve_left z).2 h1;have z2:b=0:=RJ λz=>jD w2 (k:=b) (by have:=P.rb.resolve_left z;lia) (P.rb.resolve_left z).2 h2;exact h3 ⟨z1,z2⟩
  obtain⟨o,l,e⟩:=abU ne;have ho:o∈bQ Na a++bQ M9 b:=by rw[e];exact Nu
  rw[e];exact(Ov.mp ho).elim (P.la o) (P.lb o)
 have next:∀{a b:Int}{n:Nat}(t:Int),a≠1->b≠1->Pg Na M9 a b (n+1)->Pg Na M9 (ck (bv Na a) t) (ck (bv M9 b) t) n:=λ{a b n} t h1 h2 P=>
  ⟨rD w1 P.ra h1,rD w2 P.rb h2,λo ho=>by have:=P.la _ ((iz w1 P.ra h1).mpr ho);simpa using this,λo ho=>by have:=P.lb _ ((iz w2 P.rb h2).mpr ho);simpa using this⟩
 refine⟨λs hg ht=>?_,λs hg ht o ho=>?_,λs hg ht d hd=>?_,λs hg ht=>?_,λs hg ht d hd=>?_,λs hg ht d hd=>?_,λs hg ht t r hr=>?_⟩
 .obtain⟨a,b,n,rfl,h1,h2,h3,P⟩:=cases s hg ht;rw[lv h3 P];lia
 .obtain⟨a,b,n,rfl,h1,h2,h3,P⟩:=cases s hg ht;rw[lv h3 P];exact(Ov.mp (Pm.mp ho).1).elim (P.la o) (P.lb o)
 .obtain⟨a,b,n,rfl,h1,h2,h3,P⟩:=cases s hg ht;obtain⟨t,_,rfl⟩:=NR.mp hd;obtain⟨g,_,l⟩:=mv w1 w2 c0 (next t h1 h2 P);exact⟨g,l.imp id λe=>by rw[lv h3 P,e]⟩
 .obtain⟨a,b,n,rfl,h1,h2,h3,P⟩:=cases s hg ht;show((fZ cl Na M9 a b).map (·.1)).Pairwise (· < ·);unfold fZ;rw[VZ];have:((λx:Int×Sk=>x.1)∘λt=>(t,eE cl (ck (bv Na a) t) (ck (bv M9 b) t)))=id:=rfl;rw[this,List.map_id];exact oO _ _
 .obtain⟨a,b,n,rfl,h1,h2,h3,P⟩:=cases s hg ht;obtain⟨t,ht,rfl⟩:=NR.mp hd;exact(lu.mp ht).1
 .obtain⟨a,b,n,rfl,h1,h2,h3,P⟩:=cases s hg ht;obtain⟨t,ht,rfl⟩:=NR.mp hd;obtain⟨_,l,_⟩:=mv w1 w2 c0 (next t h1 h2 P);intro r;rw[<-l r,bt];show t::r∈Yt cl Na M9 a b↔_;rw[h7 c0,h7 c0];have e1:bit Na a (t::r)=bit Na (ck (bv Na a) t) r:=by unfold bit;simp only[iz w1 P.ra h1]
  have e2:bit M9 b (t::r)=bit M9 (ck (bv M9 b) t) r:=by unfold bit;simp only[iz w2 P.rb h2]
  rw[e1,e2]
 .obtain⟨a,b,n,rfl,h1,h2,h3,P⟩:=cases s hg ht;have key:t∈gB (bv Na a) (bv M9 b):=by
   rw[lu];rcases Ov.mp ((Pm.mp hr).1) with h|h
   .have k:=oQ w1 P.ra h1 h;obtain⟨d,hd,rfl⟩:=k;exact⟨uV s1 hd,.inl ⟨d,hd,rfl⟩⟩
   .have k:=oQ w2 P.rb h2 h;obtain⟨d,hd,rfl⟩:=k;exact⟨uV s2 hd,.inr ⟨d,hd,rfl⟩⟩
  exact⟨_,NR.mpr ⟨t,key,rfl⟩⟩
end
section
variable {S:Type} [DecidableEq S] {M5:S->List (Int×S)}
theorem iZ {g:S->GP S->Nat×GP S}(hg:∀s p,p.1 <+: (g s p).2.1/\p.2 <+: (g s p).2.2):∀ds p,p.1 <+: (aG g ds p).2.1/\p.2 <+: (aG g ds p).2.2
 | [],_=>⟨Qr,Qr⟩
 | d::ds,p=>⟨(hg d.2 p).1.trans (iZ hg ds _).1,(hg d.2 p).2.trans (iZ hg ds _).2⟩
theorem uW:∀(n:Nat) (s:S) (p:GP S),p.1 <+: (aW M5 n s p).2.1/\p.2 <+: (aW M5 n s p).2.2
 | 0,_,_=>⟨Qr,Qr⟩
 | n+1,s,p=>by
  have h:=iZ (uW n) (M5 s) p;unfold aW
  split
  .exact⟨Qr,Qr⟩
  .split
   .exact⟨h.1,h.2.trans (Xh _ _)⟩
   .exact⟨h.1.trans (gu _ _),h.2.trans (Xh _ _)⟩
theorem Ct (rs)(r):(keep rs r).2.length<=rs.length+1:=by
 rcases dF rs r with e|⟨_,e,_⟩
 .rw[e];lia
 .rw[e];simp
theorem rE {g:S->GP S->Nat×GP S}(hg:∀s p,(g s p).2.1.length<=p.1.length+b/\(g s p).2.2.length<=p.2.length+b):∀ds p,(aG g ds p).2.1.length<=p.1.length+ds.length*b/\(aG g ds p).2.2.length<=p.2.length+ds.length*b
 | [],p=>⟨by show p.1.length<=_;lia,by show p.2.length<=_;lia⟩
 | d::ds,p=>by
  have h1:=hg d.2 p;have h2:=rE hg ds (g d.2 p).2;have e:(d::ds).length*b=ds.length*b+b:=by rw[OB,Nat.add_mul];lia
  rw[e];exact⟨by show(aG g ds (g d.2 p).2).2.1.length<=_;lia,by show(aG g ds (g d.2 p).2).2.2.length<=_;lia⟩
theorem uX (hd:∀s,(M5 s).length<=8):∀(n:Nat) (s:S) (p:GP S),(aW M5 n s p).2.1.length<=p.1.length+9 ^ n/\(aW M5 n s p).2.2.length<=p.2.length+9 ^ n
 | 0,_,p=>⟨by show p.1.length<=_;lia,by show p.2.length<=_;lia⟩
 | n+1,s,p=>by
  have h:=rE (uX hd n) (M5 s) p;have h8:=hd s;have hm:(M5 s).length*9 ^ n<=8*9 ^ n:=VH _ h8;have hp:9 ^ (n+1)=9*9 ^ n:=by rw[Nat.pow_succ,Nat.mul_comm]
  have h1:1<=9 ^ n:=Nat.one_le_pow _ _ (by lia);unfold aW
  split
  .exact⟨by show p.1.length<=_;lia,by show p.2.length<=_;lia⟩
  .split
   .refine⟨by dsimp only;lia,?_⟩;dsimp only;rw[Os];simp only[OB,T2];lia
   .have k:=Ct (aG (aW M5 n) (M5 s) p).2.1 (aG (aW M5 n) (M5 s) p).1;refine⟨by dsimp only;lia,?_⟩;dsimp only;rw[Os];simp only[OB,T2];lia
end
theorem Ay (cl)(Na M9)(a b:Int):(fZ cl Na M9 a b).length<=8:=by
 unfold fZ gB;rw[NT];exact Ph (R0 _ _) (by decide)
theorem Cu (cl)(Na M9):∀s,(gv cl Na M9 s).length<=8
 | .inr [a,b]=>Ay cl Na M9 a b
 | .inl _=>by simp[gv]
 | .inr []=>by simp[gv]
 | .inr [_]=>by simp[gv]
 | .inr (_::_::_::_)=>by simp[gv]
def SQ:List (Sk×Nat):=[(.inl 0,0),(.inl 1,1)]
theorem Dx (h0:os (.inl 0)=[])(h1:os (.inl 1)=[[]])(hg:∀k,good (.inl k)->k=0\/k=1):RA os P8 good [] SQ where
 ends:=λs hs ht=>by
  match s,hs,ht with
  | .inl k,hs,_=>
   rcases hg k hs with rfl|rfl <;> rfl
 so:=λs k e=>by
  unfold cB SQ at e
  by_cases z0:s=.inl 0
  .subst z0;simp at e;exact .inl ⟨h0,e.symm⟩
  .by_cases z1:s=.inl 1
   .subst z1;simp at e;subst e;rw[h1];refine .inr ⟨by simp,λn hn=>?_⟩;have:n=0:=(hn [] (by simp)).symm;subst this;rfl
   .have n0:decide ((O5 0:Sk)=s)=false:=Ny λh=>z0 h.symm;have n1:decide ((O5 1:Sk)=s)=false:=Ny λh=>z1 h.symm;rw[VG (by simp[n0]),VG (by simp[n1])] at e;cases e
def eZ (M5:Sk->List (Int×Sk))(n:Nat)(s:Sk):List MX×Nat:=((aW M5 n s ([],SQ)).2.1,(aW M5 n s ([],SQ)).1)
theorem rF (W:Way M5 os Oa P8 good)(h0:os (.inl 0)=[])(h1:os (.inl 1)=[[]])(hg:∀k,good (.inl k)->k=0\/k=1)(hs:good s)(hl:P8 s\/Oa s<=n)(Tq:fE (os s) os')(len:∀o∈os',o.length=many):eZ M5 n s=if os'=[] then ([],0) else ((lay many os' []).2,(lay many os' []).1):=by
 obtain⟨_,A⟩:=xc W n s ([],SQ) n hs hl hl (Dx h0 h1 hg);unfold eZ
 by_cases z:os'=[]
 .obtain⟨e1,e2⟩:=A.Nr ((uT Tq).mpr z);rw[M6 z,e1,e2]
 .have e:=A.some (λq=>z ((uT Tq).mp q)) many λo ho=>len o ((Tq o).mp ho);have e:lay many (os s) []=_:=e;rw[M0 z,<-iw many [] Tq,e]
end Bk
namespace Bk
theorem oS {S:Type}[DecidableEq S]{g:S->GP S->Nat×GP S}{d:Int×S}:∀(ds:List (Int×S)) (p:GP S),aG g (ds++[d]) p=(if (g d.2 (aG g ds p).2).1=0 then (aG g ds p).1 else (aG g ds p).1++[(d.1,((g d.2 (aG g ds p).2).1:Int))],(g d.2 (aG g ds p).2).2)
 | [],p=>by
  show aG g [d] p=_;unfold aG aG;dsimp only
  by_cases h:(g d.2 p).1=0
  .rw[M6 h];simp[aG,h]
  .rw[M0 h];simp[aG,h]
 | e::ds,p=>by
  rw[List.cons_append];unfold aG;rw[oS ds];dsimp only
  by_cases h:(g d.2 (aG g ds (g e.2 p).2).2).1=0 <;> by_cases h2:(g e.2 p).1=0 <;> simp[h,h2]
theorem rG {S:Type}[DecidableEq S]{g:S->GP S->Nat×GP S}:∀(a b:List (Int×S)) (p:GP S),(aG g (a++b) p).2=(aG g b (aG g a p).2).2
 | [],_,_=>rfl
 | d::a,b,p=>rG a b (g d.2 p).2
theorem yA {S:Type}[DecidableEq S]{M5:S->List (Int×S)}{n:Nat}{ds:List (Int×S)}{p:GP S}(i:Nat):(aG (aW M5 n) (ds.take i) p).2.1.length<=(aG (aW M5 n) ds p).2.1.length/\(aG (aW M5 n) (ds.take i) p).2.2.length<=(aG (aW M5 n) ds p).2.2.length:=by
 have e:=rG (g:=aW M5 n) (ds.take i) (ds.drop i) p;rw[TW] at e;rw[e];have h:=iZ (uW (M5:=M5) n) (ds.drop i) (aG (aW M5 n) (ds.take i) p).2;exact⟨h.1.length_le,h.2.length_le⟩
theorem rH {S:Type}[DecidableEq S]{g:S->GP S->Nat×GP S}:∀(ds:List (Int×S)) (p:GP S),(aG g ds p).1.length<=ds.length
 | [],_=>Nl _
 | d::ds,p=>by
  have:=rH (g:=g) ds (g d.2 p).2;unfold aG;dsimp only
  split
  .simp;lia
  .simp;lia
end Bk
namespace Ord
open PySem L2 Mx
abbrev mw:M':=top 29
abbrev oU:M':=top 28
def bp (as:List A')(H H':Hp):Prop:=∀b o,b∉as->H b=some o->H' b=some o
def dh (H:Hp)(as:List A'):Prop:=∀a∈as,∃o,H a=some o/\fF o
section
theorem bp.refl:bp as H H:=λ_ _ _ e=>e
theorem bp.trans (s:bp as H H')(s':bp as H' TF):bp as H TF:=λb o h e=>s' b o h (s b o h e)
theorem bp.wide (s:bp as H H')(h:∀a∈as,a∈bs):bp bs H H':=λb o n e=>s b o (λz=>n (h b z)) e
theorem bp.ofS (s:dG lr dn H H'):bp [lr,dn] H H':=λb o n e=>s b o (λz=>n (by simp[z])) (λz=>n (by simp[z])) e
theorem bp.Pb (s:bp as H H')(so:dh H as)(h:Ni K H a xs):Ni K H' a xs:=by
 rcases h with(h|⟨o,h⟩)|h
 .exact .inl (.inl (s _ _ (λz=>by obtain⟨u,e,f⟩:=so _ z;rw[h] at e;cases e;exact f) h))
 .exact .inl (.inr ⟨o,s _ _ (λz=>by obtain⟨u,e,f⟩:=so _ z;rw[h] at e;cases e;exact f) h⟩)
 .exact .inr h
theorem bp.sk (s:bp as H H')(so:dh H as):∀{k:SK},cC K H y k->cC K H' y k
 | .inl _,h=>h
 | .inr _,h=>by
  obtain⟨p,rfl,q⟩:=cu h;exact cr (s.Pb so q)
theorem bp.door (s:bp as H H')(so:dh H as)(h:cV K H y d):cV K H' y d:=let ⟨p,e,q⟩:=h;⟨p,e,s.Pb so q⟩
theorem bp.base (s:bp as H H')(s0:aB H0 H)(h:∀a∈as,H0 a=none):aB H0 H':=λb o e=>s b o (λz=>by rw[h b z] at e;cases e) (s0 b o e)
structure Rr (K)(H)(dk)(kn):Prop where
 ex:∃L:KL,H dk=some (PK dk L)/\iY K H L/\Nd (λ(e:SK×V×Int) (p:SK×Nat)=>e.1=p.1/\e.2.2=(p.2:Int)) L kn
theorem lw:∀{L:KL}{kn:List (SK×Nat)},Nd (λ(e:SK×V×Int) (p:SK×Nat)=>e.1=p.1/\e.2.2=(p.2:Int)) L kn->fG L s=(Bk.cB kn s).map λn=>(n:Int)
 | _,_,.nil=>rfl
 | e::L,p::kn,.cons r t=>by
  obtain⟨k1,v1,n1⟩:=e;obtain⟨k2,n2⟩:=p;obtain⟨h1,h2⟩:=r;dsimp only at h1 h2;subst h1 h2
  by_cases z:k1=s
  .subst z;simp[fG,Bk.cB]
  .have ih:=lw (s:=s) t;simp only[fG,Bk.cB] at ih ⊢;rw[VG (by simpa using z),VG (by simpa using z)];exact ih
def gK (K:MZ)(H:Hp)(y:V)(d:Int×SK):Prop:=∃p lv,y=.ref p/\Ni K H p [.int d.1,lv]/\cC K H lv d.2
theorem gK.same (s:aB H H')(h:gK K H y d):gK K H' y d:=let ⟨p,lv,e,q,r⟩:=h;⟨p,lv,e,s.NM q,r.mono s⟩
theorem Rr.same (s:aB H H')(h:Rr K H dk kn):Rr K H' dk kn:=let ⟨L,e,k,p⟩:=h.ex;⟨L,s _ _ e,λx hx=>(k x hx).mono s,p⟩
theorem Rr.adp (s:bp as H H')(so:dh H as)(n:dk∉as)(h:Rr K H dk kn):Rr K H' dk kn:=let ⟨L,e,k,p⟩:=h.ex;⟨L,s _ _ n e,λx hx=>s.sk so (k x hx),p⟩
theorem P7.abo (h:P7 K C H x lr dn rs):dh H [lr,dn]:=by
 obtain⟨dx,xs,L,h1,h2,h3,h4,h5,h6⟩:=h.ex;intro a ha;rcases NG.mp ha with rfl|ha
 .exact⟨_,h2,trivial⟩
 .obtain rfl:a=dn:=by simpa using ha
  exact⟨_,h4,trivial⟩
theorem Rr.afo (h:Rr K H dk kn):∃o,H dk=some o/\fF o:=let ⟨_,e,_⟩:=h.ex;⟨_,e,trivial⟩
end
section
def jE (K:MZ)(H0:Hp)(M5:SK->List (Int×SK))(good:SK->Prop):Sp:=λvs H Q _=>∃(v:V) (s:SK),vs=[v]/\aB H0 H/\cC K H v s/\good s/\¬Bk.P8 s/\∀(l:A') (ys:List V) (H':Hp),aB H H'->H l=none->H' l=some (.lst ys)->Nd (gK K H') ys (M5 s)->Q (.ref l) H'
def oV (K:MZ)(C:A')(H0:Hp)(fl:A')(M5:SK->List (Int×SK))(os:SK->Bk.ap)(Oa:SK->Nat)(good:SK->Prop)(n:Nat):Sp:=λvs H Q _=>∃(x lr dn dk:A') (v:V) (s:SK) (rs:List Bk.MX) (kn:List (SK×Nat)),
 vs=[.ref x,v,.ref fl,.ref dk]/\P7 K C H x lr dn rs/\Rr K H dk kn/\cC K H v s/\aB H0 H/\H0 lr=none/\H0 dn=none/\H0 dk=none/\dk≠dn/\good s/\(Bk.P8 s\/Oa s<=n)/\Bk.RA os Bk.P8 good rs kn/\
 (Bk.aW M5 n s (rs,kn)).2.1.length<1000/\(Bk.aW M5 n s (rs,kn)).2.2.length<100000/\
 ∀H',bp [lr,dn,dk] H H'->P7 K C H' x lr dn (Bk.aW M5 n s (rs,kn)).2.1->Rr K H' dk (Bk.aW M5 n s (rs,kn)).2.2->Q (.int ((Bk.aW M5 n s (rs,kn)).1:Nat)) H'
abbrev Dy:List MV:=["shelf","state","doors_from","known","doors","thing","later","number"]
theorem lx:N3 Dy ["shelf","state","doors_from","known"] (am mw):=⟨rfl,rfl,rfl,by decide +kernel,rfl,by decide +kernel,by decide +kernel⟩
variable {os:SK->Bk.ap} in
theorem rJ (W:Bk.Way M5 os Oa Bk.P8 good)(hs:good s)(ht:¬Bk.P8 s)(hl:Oa s<=n+1)(M:Bk.RA os Bk.P8 good p.1 p.2)(ds:List (Int×SK))(hd:∀d∈ds,d∈M5 s):
  Bk.RA os Bk.P8 good (Bk.aG (Bk.aW M5 n) ds p).2.1 (Bk.aG (Bk.aW M5 n) ds p).2.2/\(Bk.cB p.2 s=none->Bk.cB (Bk.aG (Bk.aW M5 n) ds p).2.2 s=none):=by
 have U5:=W.pos s hs ht;obtain⟨m,hm⟩:∃m,Oa s=m+1:=⟨Oa s-1,by lia⟩
 obtain⟨G,_⟩:=Bk.nA W hs ht hm (g:=Bk.aW M5 n) (λd hd p M=>by
  obtain⟨g',l'⟩:=W.down s hs ht d hd;exact Bk.xc W n d.2 p m g' (l'.imp id λh=>by lia) (l'.imp id λh=>by lia) M) ds p hd M
 refine⟨G.memo,λe=>?_⟩;obtain⟨more,ha,hb⟩:=G.add;rw[ha];exact Bk.rC e λx hx z=>by
  have:=(hb x hx).2.1;rw[z] at this;lia
variable {P:Ng}{w:M7}{K:MZ}{mg:MV->Option D'}{base:M4}{CO:A'}{C:A'}{M5:SK->List (Int×SK)}{os:SK->Bk.ap}{Oa:SK->Nat}{good:SK->Prop} in
theorem uY {f fk fl:A'}{fd Rs RV:Nt}{ol:G'}{H0:Hp}{kl:Nat}{xl:MV}(W:Bk.Way M5 os Oa Bk.P8 good)(SI:∀s,(M5 s).length<=8)(F:NE K "grow" "grow" mw f fd)(T:Oy K mg CO)(c:SN K C)(mk:Ue K C "keep" fk)(Fk:Nq P w K mg base Nb 1 fk Rs ["self","room"] (jB K C))(bk:bH K Rs ["self","room"] [])(FL:Nq P w K mg base Nb kl fl RV [xl] (jE K H0 M5 good))(Ut:base.get? fl=some ol)(Uw:ol.data=.func RV)(bl:∀us:List D',us.length=[xl].length->bindArgs RV ⟨us,[]⟩=pure ([xl].zip us))(n:Nat)(WS:∀m,n=m+1->Df P w K mg base Nb (m+kl+2) "grow" ["shelf","state","doors_from","known"] (oV K C H0 fl M5 os Oa good m)):Nq P w K mg base Nb (n+kl+2) f fd ["shelf","state","doors_from","known"] (oV K C H0 fl M5 os Oa good n):=by
 refine F.ok lx (λvs H Q E h=>?_) (λNo A outer s H vs Q E hr h=>?_)
 .obtain⟨x,lr,dn,dk,v,st,rs,kn,rfl,_⟩:=h;rfl
 obtain⟨x,lr,dn,dk,v,st,rs,kn,rfl,S,KA,rv,s0,f1,f2,f3,kdn,gd,lv,M,XW,U7,z⟩:=h;obtain⟨t0,m0⟩:=T.no;obtain⟨L,Q9,Wp,pk⟩:=KA.ex;have vk:=lw (s:=st) pk;have hu:(eO Nb P w K mg base Dy "grow" (am mw) f No A outer s H E).QJ.A.units+1<ND:=by have:=hr.un;show(A.deeper _).units+1<ND;lia
 cases ek:Bk.cB kn st with
 | some k=>
  have eg:Bk.aW M5 n st (rs,kn)=(k,(rs,kn)):=by
   cases n with
   | zero=>unfold Bk.aW;dsimp only;rw[ek];rfl
   | succ n=>unfold Bk.aW;dsimp only;rw[ek]
  rw[eg] at z;refine⟨_,ad (aD (ar (show N4 _ _ (pV K) from rB hu) (pv 1) (pv 3) rfl) (ad ao (ad ao (af ao))) au) (af (aH (w6 hu (pv 3) (pv 1) (λ_ _=>rfl)))),?_⟩;refine⟨_,rfl,_,rfl,dk,L,st,rfl,Q9,Wp,rv,_,rfl,?_⟩;rw[vk,ek];exact aA ⟨_,rfl,_,rfl,dk,L,st,_,rfl,Q9,Wp,rv,by rw[vk,ek];rfl,z H bp.refl S KA⟩
 | none=>
  have ht:¬Bk.P8 st:=λt=>by
   have:=M.ends st gd t;rw[ek] at this;cases this
  have hle:=lv.resolve_left ht;have U5:=W.pos st gd ht;cases n with
  | zero=>lia
  | succ n=>
  have D:=WS n rfl;have eg:Bk.aW M5 (n+1) st (rs,kn)=if (Bk.aG (Bk.aW M5 n) (M5 st) (rs,kn)).1=[] then (0,((Bk.aG (Bk.aW M5 n) (M5 st) (rs,kn)).2.1,(Bk.aG (Bk.aW M5 n) (M5 st) (rs,kn)).2.2++[(st,0)]))
    else ((Bk.keep (Bk.aG (Bk.aW M5 n) (M5 st) (rs,kn)).2.1 (Bk.aG (Bk.aW M5 n) (M5 st) (rs,kn)).1).1,((Bk.keep (Bk.aG (Bk.aW M5 n) (M5 st) (rs,kn)).2.1 (Bk.aG (Bk.aW M5 n) (M5 st) (rs,kn)).1).2,(Bk.aG (Bk.aW M5 n) (M5 st) (rs,kn)).2.2++[(st,(Bk.keep (Bk.aG (Bk.aW M5 n) (M5 st) (rs,kn)).2.1 (Bk.aG (Bk.aW M5 n) (M5 st) (rs,kn)).1).1)])):=by
   rw[Bk.aW];dsimp only;rw[ek]
  have b12:(Bk.aG (Bk.aW M5 n) (M5 st) (rs,kn)).2.1.length<1000/\(Bk.aG (Bk.aW M5 n) (M5 st) (rs,kn)).2.2.length<100000:=by
   rw[eg] at XW U7
   split at XW
   .rename_i hz;rw[M6 hz] at U7;dsimp only at XW U7;rw[Os] at U7;exact⟨XW,by lia⟩
   .rename_i hz;rw[M0 hz] at U7;dsimp only at XW U7;rw[Os] at U7;have:=(Bk.gu (Bk.aG (Bk.aW M5 n) (M5 st) (rs,kn)).2.1 (Bk.aG (Bk.aW M5 n) (M5 st) (rs,kn)).1).length_le;exact⟨by lia,by lia⟩
  refine⟨_,ad (aD (ar (show N4 _ _ (pV K) from rB hu) (pv 1) (pv 3) rfl)
   (ad (aV (i:=4) lx.nd rfl (by first|exact NB rfl|exact N' rfl) (bW ae))
   (ad (dQ RL rfl (cX (Cp (i:=2) FL (hr.mono (by lia)) Ut Uw rfl (by first|exact NB rfl|exact N' (NB rfl)) bl (az (E:=λ_ _ _ _=>False)) (ac (pv 1) ae)))
     (Fa rfl (sX (cJ (i:=5) lx.nd rfl (by first|exact NB rfl|exact N' rfl)) (sX (cJ (i:=6) lx.nd rfl (by first|exact NB rfl|exact N' rfl)) DQ)))
    (ad (aV (i:=7) lx.nd rfl (by first|exact NB rfl|exact N' rfl) (aE D (hr.mono (by lia)) rfl (az (E:=λ_ _ _ _=>False)) (ac (pv 0) (ac (pv 6) (ac (pv 2) (ac (pv 3) ae))))))
    (af (aD (ar fS (pv 7) (aM (v:=.int 0) rfl m0 ⟨t0,rfl⟩) (aw _))
     (af (bE (gR UI VE VF eP (pv 4) (ac (bI (ac (pv 5) (ac (pv 7) ae))) ae)))) au))))
   (af (ED hu (pv 3) (pv 1) (eK (ar iO (aQ bd rfl T.t.len cq (ac (pv 4) ae)) ag (aw _))
    (wl (pv 0) c.cls mk Fk (hr.mono (by lia)) bk .nil lH (ac (bC dA rfl T.t.tuple dB (ac (pv 4) ae)) ae)) (aM (v:=.int 0) rfl m0 ⟨t0,rfl⟩)) rfl)))) au)
   (af (aH (w6 hu (pv 3) (pv 1) (λ_ _=>rfl)))),?_⟩
  refine⟨_,rfl,_,rfl,dk,L,st,rfl,Q9,Wp,rv,_,rfl,?_⟩;rw[vk,ek];refine aZ ⟨by show 0<=Nh;decide,λg hg=>?_⟩;have s1:=ak hg (.lst []);refine⟨rfl,_,rfl,v,st,rfl,s0.trans s1,rv.mono s1,gd,ht,λl ys Hd sd hl hly pd=>?_⟩;have Sr:=s1.trans sd;obtain⟨dx,rx,NL,hx,Oi,ξ,OE,agp,nl⟩:=S.ex;have ng:∀a o,H a=some o->a≠g:=λa o e=>av e hg;have Wn:∀a o,H a=some o->a≠l:=λa o e=>av (s1 _ _ e) hl;have gl:g≠l:=av al hl;have Yu:Hd g=some (.lst []):=sd _ _ al;have dl:=pd.length;have d8:=SI st;refine⟨l,rfl,⟨_,Nj.of hly⟩,fu (K:=K) (a:=l) (xs:=ys) (λi σ H2=>∃v5 v6 v7 ds,σ=[some (.ref x),some v,some (.ref fl),some (.ref dk),some (.ref g),v5,v6,v7]/\bp [lr,dn,dk,g] Hd H2/\H2 g=some (.lst ds)/\Nd (cV K H2) ds (Bk.aG (Bk.aW M5 n) ((M5 st).take i) (rs,kn)).1/\
   P7 K C H2 x lr dn (Bk.aG (Bk.aW M5 n) ((M5 st).take i) (rs,kn)).2.1/\Rr K H2 dk (Bk.aG (Bk.aW M5 n) ((M5 st).take i) (rs,kn)).2.2) ⟨none,none,none,[],rfl,bp.refl,Yu,.nil,S.same Sr,KA.same Sr⟩ ?_ ?_ ?_⟩
  .rintro i σ H2 _ ⟨v5,v6,v7,ds,rfl,s2,_⟩;refine Nj.of (s2 _ _ ?_ hly);intro z;simp only[NG,Pf,or_false] at z;rcases z with z|z|z|z
   .exact Wn lr _ Oi z.symm
   .exact Wn dn _ OE z.symm
   .exact Wn dk _ Q9 z.symm
   .exact gl z.symm
  .rintro i y σ H2 hy ⟨v5,v6,v7,ds,rfl,s2,ο,Wq,S2,K2⟩;obtain⟨⟨t,s'⟩,hd,p,lvv,rfl,qd,rl⟩:=cy pd hy;have mem:=Oo hd;obtain⟨g',l'⟩:=W.down st gd ht _ mem;have ZR:dh Hd [lr,dn,dk,g]:=λa ha=>by
    simp only[NG,Pf,or_false] at ha;rcases ha with rfl|rfl|rfl|rfl
    .exact⟨_,Sr _ _ Oi,trivial⟩
    .exact⟨_,Sr _ _ OE,trivial⟩
    .exact⟨_,Sr _ _ Q9,trivial⟩
    .exact⟨_,Yu,trivial⟩
   have qd2:Ni K H2 p [.int t,lvv]:=s2.Pb ZR qd;have rl2:cC K H2 lvv s':=s2.sk ZR rl;obtain⟨M2,_⟩:=rJ W (n:=n) (p:=(rs,kn)) gd ht hle M ((M5 st).take i) (λd hd=>ack hd);have sn:=Bk.oS (g:=Bk.aW M5 n) (d:=(t,s')) ((M5 st).take i) (rs,kn);rw[<-cx hd] at sn;have tk:=Bk.yA (M5:=M5) (n:=n) (ds:=M5 st) (p:=(rs,kn)) (i+1);rw[sn] at tk;dsimp only at tk;have π:aB H0 H2:=s2.base (s0.trans Sr) λa ha=>by
    simp only[NG,Pf,or_false] at ha;rcases ha with rfl|rfl|rfl|rfl
    .exact f1
    .exact f2
    .exact f3
    .exact s0.free hg
   refine⟨p,_,rfl,qd2,rfl,_,_,rfl,_,_,rfl,rfl,?_⟩;refine⟨_,rfl,_,rfl,_,rfl,_,rfl,x,lr,dn,dk,lvv,s',_,_,rfl,S2,K2,rl2,π,f1,f2,f3,kdn,g',l'.imp id (λh=>by dsimp only at h;lia),M2,(show(Bk.aW M5 n s' (Bk.aG (Bk.aW M5 n) ((M5 st).take i) (rs,kn)).2).2.1.length<1000 by lia),(show(Bk.aW M5 n s' (Bk.aG (Bk.aW M5 n) ((M5 st).take i) (rs,kn)).2).2.2.length<100000 by lia),λH5 s5 S5 K5=>?_⟩;have so2:dh H2 [lr,dn,dk]:=λa ha=>by
    simp only[NG,Pf,or_false] at ha;rcases ha with rfl|rfl|rfl
    .exact S2.abo _ (by simp)
    .exact S2.abo _ (by simp)
    .exact K2.afo
   have ngs:g∉[lr,dn,dk]:=λz=>by
    simp only[NG,Pf,or_false] at z;rcases z with z|z|z
    .exact ng lr _ Oi z.symm
    .exact ng dn _ OE z.symm
    .exact ng dk _ Q9 z.symm
   have Wr:H5 g=some (.lst ds):=s5 _ _ ngs ο;have adH:=aX (λ_ _ z=>s5.door so2 z) Wq;refine⟨_,rfl,rfl,_,rfl,?_⟩
   by_cases zr:(Bk.aW M5 n s' (Bk.aG (Bk.aW M5 n) ((M5 st).take i) (rs,kn)).2).1=0
   .rw[zr];refine aA ⟨_,_,_,ds,rfl,s2.trans (s5.wide (by simp)),Wr,?_,?_,?_⟩
    .rw[sn,M6 zr];exact adH
    .rw[sn];exact S5
    .rw[sn];exact K5
   .rw[Ny (λh=>zr (by have e:((Bk.aW M5 n s' (Bk.aG (Bk.aW M5 n) ((M5 st).take i) (rs,kn)).2).1:Int)=0:=V.int.inj h;lia))];refine aZ ⟨_,rfl,.inl ⟨rfl,_,.inl (.inl Wr)⟩,_,rfl,_,rfl,by show 2<=Nh;decide,λtq SR=>?_⟩;have s6:=ak SR (.tup [V.int t,V.int ((Bk.aW M5 n s' (Bk.aG (Bk.aW M5 n) ((M5 st).take i) (rs,kn)).2).1:Nat)]);have lds:ds.length<=8:=by
     have h1:=Wq.length;have h2:=Bk.rH (g:=Bk.aW M5 n) ((M5 st).take i) (rs,kn);rw[Qb] at h2;lia
    refine⟨g,ds,.ref tq,rfl,rfl,s6 _ _ Wr,by rw[NU];lia,_,_,_,ds++[.ref tq],rfl,?_,al,?_,?_,?_⟩
    .intro b o hb e;rw[aq (λz=>hb (by simp[z]))];exact s6 _ _ (s5 _ _ (λz=>hb (by simp only[NG] at z ⊢;rcases z with z|z|z|z <;> simp_all)) (s2 b o hb e))
    .have s7:bp [g] (upd H5 tq (.tup [V.int t,V.int ((Bk.aW M5 n s' (Bk.aG (Bk.aW M5 n) ((M5 st).take i) (rs,kn)).2).1:Nat)])) (upd (upd H5 tq (.tup [V.int t,V.int ((Bk.aW M5 n s' (Bk.aG (Bk.aW M5 n) ((M5 st).take i) (rs,kn)).2).1:Nat)])) g (.lst (ds++[.ref tq]))):=λb o hb e=>by
      rw[aq (λz=>hb (by simp[z]))];exact e
     have Ws:dh (upd H5 tq (.tup [V.int t,V.int ((Bk.aW M5 n s' (Bk.aG (Bk.aW M5 n) ((M5 st).take i) (rs,kn)).2).1:Nat)])) [g]:=λa ha=>by
      obtain rfl:a=g:=by simpa using ha
      exact⟨_,s6 _ _ Wr,trivial⟩
     rw[sn,M0 zr];exact de (aX (λ_ _ z=>s7.door Ws (z.same s6)) adH) (.cons ⟨tq,rfl,s7.Pb Ws Ni.up⟩ .nil)
    .rw[sn];exact(S5.same s6).upd (s6 _ _ Wr) trivial (ng x _ hx) (ng lr _ Oi) (ng dn _ OE)
    .rw[sn];refine(K5.same s6).adp (as:=[g]) (λb o hb e=>?_) (λa ha=>?_) (λz=>ng dk _ Q9 (by simpa using z))
     .rw[aq (λz=>hb (by simp[z]))];exact e
     .obtain rfl:a=g:=by simpa using ha
      exact⟨_,s6 _ _ Wr,trivial⟩
  .rintro σ H2 ⟨v5,v6,v7,ds,rfl,s2,ο,Wq,S2,K2⟩;rw[dl,Rf] at Wq S2 K2;obtain⟨_,Yv⟩:=rJ W (n:=n) (p:=(rs,kn)) gd ht hle M (M5 st) (λd hd=>hd);have Yv:=Yv ek;obtain⟨L2',agq,agf,pk2⟩:=K2.ex;have ZR:dh Hd [lr,dn,dk,g]:=λa ha=>by
    simp only[NG,Pf,or_false] at ha;rcases ha with rfl|rfl|rfl|rfl
    .exact⟨_,Sr _ _ Oi,trivial⟩
    .exact⟨_,Sr _ _ OE,trivial⟩
    .exact⟨_,Sr _ _ Q9,trivial⟩
    .exact⟨_,Yu,trivial⟩
   have rv2:cC K H2 v st:=s2.sk ZR (rv.mono Sr);have kl:L2'.length<Nh:=by have:=pk2.length;rw[NU];lia
   have v2:=lw (s:=st) pk2;rw[Yv] at v2;have sH2:∀b o,b∉[lr,dn,dk]->H b=some o->H2 b=some o:=λb o hb e=>s2 b o (λz=>by
    simp only[NG,Pf,or_false] at z hb;rcases z with z|z|z|z
    .exact hb (.inl z)
    .exact hb (.inr (.inl z))
    .exact hb (.inr (.inr z))
    .exact ng b o e z) (Sr b o e)
   have dkl:dk≠lr:=iK Q9 Oi (by intro h;cases h);have fin:∀(H6:Hp) (k:Nat) (rs6:List Bk.MX),(∀b o,b∉[lr,dn,dk]->H b=some o->H6 b=some o)->P7 K C H6 x lr dn rs6->Rr K H6 dk (Bk.aG (Bk.aW M5 n) (M5 st) (rs,kn)).2.2->cC K H6 v st->
     (∀H',bp [lr,dn,dk] H H'->P7 K C H' x lr dn rs6->Rr K H' dk ((Bk.aG (Bk.aW M5 n) (M5 st) (rs,kn)).2.2++[(st,k)])->Q (.int (k:Nat)) H')->
     ∃d L k' n',V.int (k:Int)=V.int n'/\V.ref dk=V.ref d/\H6 d=some (PK d L)/\iY K H6 L/\cC K H6 v k'/\fG L k'=none/\L.length<Nh/\
      ∃d2 L2 k2 n2,V.ref dk=V.ref d2/\(upd H6 d (PK d (L++[(k',v,n')]))) d2=some (PK d2 L2)/\iY K (upd H6 d (PK d (L++[(k',v,n')]))) L2/\cC K (upd H6 d (PK d (L++[(k',v,n')]))) v k2/\fG L2 k2=some n2/\Q (.int n2) (upd H6 d (PK d (L++[(k',v,n')]))):=by
    intro H6 k rs6 s6 S6 K6 r6 hz;obtain⟨L6,h1,h2,h3⟩:=K6.ex;have v6:=lw (s:=st) h3;rw[Yv] at v6;have s7:bp [dk] H6 (upd H6 dk (PK dk (L6++[(st,v,(k:Int))]))):=λb o hb e=>by
     rw[aq (λz=>hb (by simp[z]))];exact e
    have Ws:dh H6 [dk]:=λa ha=>by
     obtain rfl:a=dk:=by simpa using ha
     exact⟨_,h1,trivial⟩
    have keys:iY K (upd H6 dk (PK dk (L6++[(st,v,(k:Int))]))) (L6++[(st,v,(k:Int))]):=λe he=>by
     rcases Ov.mp he with he|he
     .exact s7.sk Ws (h2 e he)
     .obtain rfl:e=(st,v,(k:Int)):=by simpa using he
      exact s7.sk Ws r6
    have p7:=de h3 (.cons (F:=λ(e:SK×V×Int) (p:SK×Nat)=>e.1=p.1/\e.2.2=(p.2:Int)) (a:=(st,v,(k:Int))) (b:=(st,k)) ⟨rfl,rfl⟩ .nil);have v7:=lw (s:=st) p7;rw[Bk.nz Yv] at v7;obtain⟨dx6,x6,N6,g1,g2,g3,g4,g5,g6⟩:=S6.ex;refine⟨dk,L6,st,k,rfl,rfl,h1,h2,r6,v6,by have:=h3.length;rw[NU];lia,dk,_,st,k,rfl,al,keys,s7.sk Ws r6,v7,hz _ (λb o hb e=>?_) ?_ ⟨_,al,keys,p7⟩⟩
    .rw[aq (λz=>hb (by simp[z]))];exact s6 b o hb e
    .exact S6.upd h1 trivial (iK g1 h1 (by intro h;cases h)) (N1 dkl) (N1 kdn)
   refine⟨_,rfl,g,ds,rfl,.inl (Nj.of ο),_,0,rfl,rfl,_,rfl,?_⟩;have dl2:=Wq.length
   by_cases hz:(Bk.aG (Bk.aW M5 n) (M5 st) (rs,kn)).1=[]
   .rw[eg,M6 hz] at z;rw[hz] at dl2;rw[Ny (by rw[dl2];decide)];refine aA ?_;obtain⟨d,L,k',n',e1,e2,r1,r2,r3,r4,r5,q⟩:=fin H2 0 _ sH2 S2 K2 rv2 z;exact⟨_,rfl,_,rfl,d,L,k',n',e1,e2,r1,r2,r3,r4,r5,_,rfl,_,rfl,q⟩
   .rw[eg,M0 hz] at z;have agr:0<ds.length:=by rw[dl2];exact Xb.mpr hz
    rw[Nz (by lia)];obtain⟨dx2,x2,N2,Wg,adI,_,XT,_⟩:=S2.ex;refine aZ ⟨_,rfl,x,dx2,_,rfl,Wg,rfl,_,rfl,g,ds,rfl,.inl ⟨Nj.of ο,λr0 Q3=>?_⟩⟩;have s3:=ak Q3 (.tup ds);refine⟨x,lr,dn,_,.ref r0,_,rfl,S2.same s3,⟨r0,ds,rfl,Ni.up,aX (λ_ _ z=>z.same s3) Wq⟩,by lia,λH6 s6 S6=>?_⟩;have so3:dh (upd H2 r0 (.tup ds)) [lr,dn]:=(S2.same s3).abo;obtain⟨d,L,k',n',e1,e2,r1,r2,r3,r4,r5,q⟩:=fin H6 _ _ (λb o hb e=>s6 b o (λz=>hb (by simp[z])) (λz=>hb (by simp[z])) (s3 b o (sH2 b o hb e))) S6 ((K2.same s3).adp (bp.ofS s6) so3 (λz=>by
     simp only[NG,Pf,or_false] at z;exact z.elim dkl kdn)) ((bp.ofS s6).sk so3 (rv2.mono s3)) z
    exact⟨_,rfl,_,rfl,d,L,k',n',e1,e2,r1,r2,r3,r4,r5,_,rfl,_,rfl,q⟩
variable {os:SK->Bk.ap} in
theorem xf (W:Bk.Way M5 os Oa Bk.P8 good)(SI:∀s,(M5 s).length<=8)(F:NE K "grow" "grow" mw f fd)(T:Oy K mg CO)(c:SN K C)(mk:Ue K C "keep" fk)(Fk:Nq P w K mg base Nb 1 fk Rs ["self","room"] (jB K C))(bk:bH K Rs ["self","room"] [])(FL:Nq P w K mg base Nb kl fl RV [xl] (jE K H0 M5 good))(Ut:base.get? fl=some ol)(Uw:ol.data=.func RV)(bl:∀us:List D',us.length=[xl].length->bindArgs RV ⟨us,[]⟩=pure ([xl].zip us))(b:bH K fd ["shelf","state","doors_from","known"] [])(m:mg "grow"=some (.ref f)):∀n,Nq P w K mg base Nb (n+kl+2) f fd ["shelf","state","doors_from","known"] (oV K C H0 fl M5 os Oa good n)
 | 0=>uY W SI F T c mk Fk bk FL Ut Uw bl 0 λm h=>nomatch h
 | n+1=>uY W SI F T c mk Fk bk FL Ut Uw bl (n+1) λk h=>by
  cases h;exact⟨f,fd,xf W SI F T c mk Fk bk FL Ut Uw bl b m n,b,F.kp,m⟩
end
end Ord
namespace L2
open PySem PySem.Spec PyProof.Rows
abbrev Oz (l:List (Int×Int)):List (Key×V):=l.map λp=>(.inl p.1,.int p.2)
abbrev RG (l:List (Int×Int)):KL:=l.map λp=>(.inl p.1,.int p.1,p.2)
theorem nB:∀{l:List (Int×Int)}{vs:List (Key×D')}{es:List O4},KV (Oz l) vs->Pairs (bg P w) es vs->(∀e∈es,∃k,iJ k e.key=true/\e.hash=E4 w k)->
  ∃xs,Ys (RG l) xs/\es=xs.map (λx=>(⟨mj x.1,x.2.1,x.2.2⟩:O4))/\xs.map (·.1)=l.map λp=>O5 p.1
 | [],vs,es,r,p,h=>by
  rw[show Oz []=[] from rfl] at r;cases r;cases p;exact⟨[],.nil,rfl,rfl⟩
 | (i,j)::l,vs,es,r,p,h=>by
  rw[show Oz ((i,j)::l)=(.inl i,.int j)::Oz l from rfl] at r;cases r with
  | @cons _ b _ bs r1 r2=>
   obtain⟨k0,v0⟩:=b;obtain⟨e1,t,e2⟩:=r1;dsimp only at e1 e2;subst e1 e2;cases p with
   | @cons e _ es _ q1 q2 q3=>
    obtain⟨xs,x1,x2,x3⟩:=nB r2 q3 λe he=>h e (NP _ he);obtain⟨k,hk,hh⟩:=h e Nu;have Wp:k=.inl i:=(bg P w).inj e.key k (.inl i) hk q1;subst Wp;obtain⟨t',TD⟩:=acq (k:=i) (v:=e.key) q1;refine⟨(.inl i,e.key,e.val)::xs,.cons ⟨rfl,⟨t',TD⟩,t,q2⟩ x1,?_,by rw[N7,x3,N7]⟩;rw[N7,<-x2]
    congr 1
    obtain⟨e1,e2,e3⟩:=e;dsimp only at hh;subst hh;rfl
section
variable {σ:St} in
theorem Inv.toK (I:Inv X aa σ H s)(e:H a=some (.dK (Oz l))):Inv X aa σ (upd H a (PK a (RG l))) s:=by
 obtain⟨z,hd,vs,rel,o,es,ep,h1,h2,h3,h4,h5,h6⟩:=jU I.Nf e;obtain⟨xs,x1,x2,x3⟩:=nB (P:=X.prog) (w:=X.w) rel h5 λe he=>h4 e (aam.mp he);have nd:(xs.map (·.1)).Nodup:=by
  rw[x3];have:vs.map (·.1)=(l.map λp=>O5 p.1):=by
   have:∀{l:List (Int×Int)}{vs:List (Key×D')},KV (Oz l) vs->vs.map (·.1)=l.map λp=>O5 p.1:=by
    intro l
    induction l with
    | nil=>intro vs r;rw[show Oz []=[] from rfl] at r;cases r;rfl
    | cons p l ih=>
     intro vs r;rw[show Oz (p::l)=(.inl p.1,.int p.2)::Oz l from rfl] at r;cases r with
     | cons r1 r2=>rw[N7,ih r2,N7,<-r1.1]
   exact this rel
  rw[this] at h6;unfold Xw at h6 ⊢;rw[Sx] at h6 ⊢;exact h6.imp λh q=>h (by injection q with q;rw[q])
 exact I.write (x:=a) (e:=a) (h':=s.heap) (t':=s.toks) (o:=PK a (RG l)) (by rw[e];exact Qs) (.inl rfl) (λb u _ q=>q) ⟨o,h1⟩ (Av ⟨hd,xs,x1,o,es,ep,h1,h2,h3,x2,nd⟩)
theorem FV (h:PE X e t):PE X e (λσ H Q=>t σ H λv H2=>∃p l,v=.ref p/\H2 p=some (.dK (Oz l))/\Q v (upd H2 p (PK p (RG l)))):=by
 intro aa s σ H Q I hq;refine Nk (h aa s σ H _ I hq) λu s1 ⟨v,H1,I1,r,p,l,ev,e1,q⟩=>?_;exact⟨v,_,I1.toK e1,r,q⟩
end
end L2
namespace Ord
open PySem L2 Mx
abbrev jF:M':=top 27
section
def j9 (K:MZ)(C:A')(n:Nat):Sp:=λvs H Q _=>∃(x lr dn l:A') (rs:List Bk.MX) (p:Nat) (ys:List V) (os:Bk.ap),vs=[.ref x,.ref l,.int (p:Int)]/\P7 K C H x lr dn rs/\Nj K H l ys/\Nd (aK.rep K H) ys os/\Bk.Uc p n os/\os.length<=1000/\rs.length+os.length*n<1000/\
 ∀H',dG lr dn H H'->P7 K C H' x lr dn (Bk.lay n (os.map (Qd p)) rs).2->Q (.int ((Bk.lay n (os.map (Qd p)) rs).1:Nat)) H'
theorem ke:N3 ["shelf","orders","place","parted","order","doors"] ["shelf","orders","place"] (am jF):=⟨rfl,rfl,rfl,by decide +kernel,rfl,by decide +kernel,by decide +kernel⟩
theorem oW (F:NE K "shelve" "shelve" jF f fd)(T:Oy K mg CO)(c:SN K C)(mk:Ue K C "keep" fk)(Fk:Nq P w K mg base Nb 1 fk Rs ["self","room"] (jB K C))(bk:bH K Rs ["self","room"] [])(n:Nat)(WS:∀m,n=m+1->Df P w K mg base Nb (m+2) "shelve" ["shelf","orders","place"] (j9 K C m)):Nq P w K mg base Nb (n+2) f fd ["shelf","orders","place"] (j9 K C n):=by
 refine F.ok ke (λvs H Q E h=>?_) (λNo A outer s H vs Q E hr h=>?_)
 .obtain⟨x,lr,dn,l,rs,p,ys,os,rfl,_⟩:=h;rfl
 obtain⟨x,lr,dn,l,rs,p,ys,os,rfl,S,ql,po,ok,NH,afM,z⟩:=h;obtain⟨t1,m1⟩:=T.en;cases n with
 | zero=>
  refine⟨_,ad (aD (ar bf (pv 2) (aQ bd rfl T.t.len cq (ac (ay (show Np _ (gM K) from cL) (pv 1) ag (λ_ _=>rfl)) ae)) (aw _)) (af (aH (aM (v:=.int 1) rfl m1 ⟨t1,rfl⟩))) au) (ad ao (ad ao (ad ao (af ao)))),?_⟩;obtain⟨o,ho⟩:=SY os ok.ne;have hp:0<os.length:=YZ ho;obtain⟨y,hy,ro⟩:=fU po (Ou hp);obtain⟨a,rfl,qa⟩:=cu ro;have la:=ok.len _ (UQ hp);refine⟨_,rfl,_,rfl,l,_,0,.ref a,rfl,rfl,ql,cG (j:=0) hy,a,_,rfl,.inr qa,rfl,_,rfl,?_⟩;rw[Nz (by rw[NT,la];rfl)];exact aZ (z H (λb o _ _ e=>e) S)
 | succ n=>
  have D:=WS n rfl;refine⟨_,ad (aD (ar bf (pv 2) (aQ bd rfl T.t.len cq (ac (ay (show Np _ (gM K) from cL) (pv 1) ag (λ_ _=>rfl)) ae)) (aw _)) (af ao) au)
   (ad (aV (i:=3) ke.nd rfl (N' rfl) ub)
   (ad (PS.QJ (dQ RL rfl (cX (pv 1)) (cJ (i:=4) ke.nd rfl (NB rfl))
    (af (bE (gR UI VE VF eP
     (gR aem adW PySem.F.type_dict_setdefault ss (pv 3) (ac (ay (show Np _ (aU K) from ax) (pv 4) (pv 2) (λ_ _=>rfl)) (ac (bW ae) ae))) (ac (pv 4) ae))))))
   (ad (hZ (i0:=5) ke.nd rfl (NB rfl) rfl (show Qf (am jF) ["shelf","orders","place","parted","order","doors"] _ _ from by constructor <;> decide +kernel) (Ef (pv 3)) (λ_ _ _ _ _ _=>hG)
     (λcl C' NY OM fp aa=>bI (ac (pv 0) (ac (aE D hr rfl (az (E:=λ_ _ _ _=>False)) (ac (pv 1) (ac (Ea (sA hr) (pv 4) (pv 0) (λ_ _=>rfl)) (ac (aO bR (pv 3) ag) ae)))) ae))) rfl)
   (af (aH (wl (pv 0) c.cls mk Fk (hr.mono (by lia)) bk .nil lH (ac (bC dA rfl T.t.tuple dB (ac (pv 5) ae)) ae))))))),?_⟩
  obtain⟨o,ho⟩:=SY os ok.ne;have hp:0<os.length:=YZ ho;obtain⟨y,hy,ro⟩:=fU po (Ou hp);obtain⟨a,rfl,qa⟩:=cu ro;have la:=ok.len _ (UQ hp);have hlen:=po.length;refine⟨_,rfl,_,rfl,l,_,0,.ref a,rfl,rfl,ql,cG (j:=0) hy,a,_,rfl,.inr qa,rfl,_,rfl,?_⟩;rw[Ny (λh=>by have:=V.int.inj h;rw[NT,la] at this;lia)];refine aA ?_;intro dP TH;have s1:aB H (upd H dP (.dK [])):=ak TH _;refine⟨_,rfl,l,rfl,⟨_,s1.Po ql⟩,fu (K:=K) (a:=l) (xs:=ys) (λi σ H2=>∃v4 kvs,σ=[some (.ref x),some (.ref l),some (.int (p:Int)),some (.ref dP),v4,none]/\aB H H2/\U0 K H dP H2 kvs (Bk.bZ p (os.take i))) ⟨none,[],rfl,s1,al,.nil,VR⟩ ?_ ?_ ?_⟩
  .rintro i σ H2 _ ⟨v4,kvs,rfl,s2,_⟩;exact s2.Po ql
  .rintro i y σ H2 hy ⟨v4,kvs,rfl,s2,PA⟩;obtain⟨o,ho,ro⟩:=cy po hy;obtain⟨a,rfl,qa⟩:=cu ro;have lo:=ok.len o (Oo ho);have il:=(OA.mp ho).1;have at_:Qj (o.map V.int) (p:Int)=some (.int (Bk.N8 p o)):=cG (by
    unfold Bk.N8;rw[Pa,Ou (show p<o.length by lia)];rfl)
   have gl:kvs.length<=i:=by
    have h1:=PA.SO.length;have h2:=oE p (os.take i);rw[Qb] at h2;lia
   refine⟨_,rfl,.inr (.inr (.inl ⟨rfl,.inl ⟨_,PA.at_⟩⟩)),_,rfl,_,rfl,a,_,(p:Int),.int (Bk.N8 p o),rfl,rfl,s2.NM qa,at_,by show 0<=Nh;decide,λe0 Px=>?_⟩;have s3:aB H2 (upd H2 e0 (.lst [])):=ak Px _;refine⟨dP,kvs,.inl (Bk.N8 p o),.ref e0,rfl,rfl,s3 _ _ PA.at_,by rw[NU];lia,λy' hv=>?_,λhv=>?_⟩
   .rcases pT (k:=Bk.N8 p o) PA.SO with⟨b1,_⟩|⟨ga,vs,b1,b2,b3,b4,b5,b6,e,b7,b8⟩
    .rw[b1] at hv;cases hv
    rw[b1] at hv;cases hv;have vl:vs.length<=os.length:=by
     rw[b8,(Bk.fQ p (os.take i)).each e b7];refine Ph (R0 _ _) ?_;rw[Qb];lia
    refine⟨.inl ⟨rfl,_,.inl (.inl (s3 _ _ b6))⟩,_,rfl,ga,vs,.ref a,rfl,rfl,s3 _ _ b6,by rw[NU];lia,_,kvs,rfl,λb u q=>?_,?_⟩
    .rw[aq (av q b4)];exact s3 b u (s2 b u q)
    .rw[cx ho];exact PA.more Px (cr (s2.NM qa)) b1 b2 b6 b5
   .rcases pT (k:=Bk.N8 p o) PA.SO with⟨b1,b2⟩|⟨ga,vs,b1,_⟩
    .have Yq:dP≠e0:=av PA.at_ Px;have Vs:(upd (upd H2 e0 (.lst [])) dP (.dK (dy kvs (.inl (Bk.N8 p o)) (.ref e0)))) e0=some (.lst []):=by rw[aq (N1 Yq),al]
     refine⟨.inl ⟨rfl,_,.inl (.inl Vs)⟩,_,rfl,e0,[],.ref a,rfl,rfl,Vs,by decide,_,kvs++[(.inl (Bk.N8 p o),.ref e0)],rfl,λb u q=>?_,?_⟩
     .rw[aq (av q (s2.free Px)),aq (av q TH)];exact s3 b u (s2 b u q)
     .rw[cx ho];exact PA.fresh Px (s2.free Px) (cr (s2.NM qa)) b1 b2
    .rw[b1] at hv;cases hv
  .rintro σ H2 ⟨v4,kvs,rfl,s2,PA⟩;rw[hlen,Rf] at PA;have S':=S;obtain⟨dx,rx,L,hx,Oi,ξ,OE,Wp,nl⟩:=S.ex;have ρ:lr≠dP:=av Oi TH;have Vf:dn≠dP:=av OE TH;have keys:=ok.keys;have gl:kvs.length=(Bk.bZ p os).length:=PA.SO.length;have gk:(Bk.bZ p os).length=(Bk.heads (os.map (Qd p))).length:=by rw[<-keys,NT]
   have afN:=oE p os;refine⟨_,rfl,dP,kvs,rfl,PA.at_,λob=>?_⟩;have dPs:fF (.dK kvs):=trivial;have xdP:x≠dP:=av hx TH;have S2:P7 K C (upd H2 dP (.Oq ob (.dK kvs))) x lr dn rs:=(S.same s2).upd PA.at_ dPs xdP ρ Vf;have kn:(kvs.map (·.1)).Nodup:=by
    have e:∀{kvs:List (Key×V)}{g:List (Int×Bk.ap)},Nd (ff K H dP H2) kvs g->kvs.map (·.1)=g.map λe=>O5 e.1:=by
     intro kvs g t
     induction t with
     | nil=>rfl
     | cons h _ ih=>
      obtain⟨a,vs,rfl,_⟩:=h;rw[N7,N7,ih]
    rw[e PA.SO];have:=(Bk.fQ p os).nd;unfold Xw at this ⊢;rw[Sx] at this ⊢;exact this.imp λh z=>h (Xu z)
   refine zM (a:=dP) (ob:=ob) (kvs:=kvs) (λi ds H3=>dG lr dn (upd H2 dP (.Oq ob (.dK kvs))) H3/\P7 K C H3 x lr dn (Bk.aY (Bk.lay n) (os.map (Qd p)) ((Bk.heads (os.map (Qd p))).take i) rs).2/\Nd (cV K H3) ds (Bk.aY (Bk.lay n) (os.map (Qd p)) ((Bk.heads (os.map (Qd p))).take i) rs).1/\ds.length=i) ⟨dG.refl,S2,.nil,rfl⟩ ?_ (by rw[NU];lia) ?_ ?_
   .rintro i ds H3 hi ⟨s3,_,_,hl⟩;exact⟨s3 _ _ (N1 ρ) (N1 Vf) al,by lia⟩
   .rintro i kv ds H3 Uv ⟨s3,S3,p3,hl⟩;obtain⟨e,he,ga,vs,rfl,g1,g2,g3,g4⟩:=cy PA.SO Uv;have mem:=Oo he;obtain⟨oke,rst,ele⟩:=ok.group mem;have ht:(Bk.heads (os.map (Qd p)))[i]?=some e.1:=by rw[<-keys,Pa,he];rfl
    obtain⟨bd1,bd2⟩:=Bk.oG (n:=n) (rs:=rs) ht;have Yw:e.2.length=(Bk.rests e.1 (os.map (Qd p))).length:=by rw[<-rst,NT]
    rw[NT,<-Yw] at bd1;have mul:RM os*(n+1)=RM os*n+RM os:=aaZ _ _;have afO:=s3 _ _ (N1 ρ) (N1 Vf) (al (H:=H2) (a:=dP) (o:=.Oq ob (.dK kvs)));have nga:ga≠lr/\ga≠dn:=⟨(λz=>by rw[z,Oi] at g1;cases g1),(λz=>by rw[z,OE] at g1;cases g1)⟩
    have hg3:H3 ga=some (.lst vs):=s3 _ _ nga.1 nga.2 (by rw[aq g2];exact g3);have adI:(upd H2 dP (.Oq ob (.dK kvs))) lr=some (.lst rx):=by rw[aq ρ];exact s2 _ _ Oi
    have XT:(upd H2 dP (.Oq ob (.dK kvs))) dn=some (fB dn L):=by rw[aq Vf];exact s2 _ _ OE
    have rv:Nd (aK.rep K H3) vs e.2:=aX (λ_ _ z=>yu s3 adI XT (eT PA.at_ dPs z)) g4;refine Wf (aZ ?_);refine⟨_,rfl,_,rfl,_,rfl,_,rfl,dP,.ref ga,rfl,.inl ⟨kvs,.inl e.1,.inr ⟨ob,afO⟩,rfl,(FT kn Uv).symm⟩,_,rfl,(p:Int),1,rfl,rfl,x,lr,dn,ga,_,p+1,vs,e.2,rfl,S3,.inl (.inl hg3),rv,oke,by lia,by lia,λH4 s4 S4=>?_⟩;rw[rst] at S4 ⊢;refine⟨by show 2<=Nh;decide,λtq SR=>?_⟩;obtain⟨dx3,rx3,L3,_,adJ,_,abB,_⟩:=S3.ex;have s5:=ak SR (.tup [V.int e.1,V.int ((Bk.lay n (Bk.rests e.1 (os.map (Qd p))) (Bk.aY (Bk.lay n) (os.map (Qd p)) ((Bk.heads (os.map (Qd p))).take i) rs).2).1:Nat)]);rw[cx ht,Bk.iW];refine⟨s3.trans (s4.trans (dG.of s5)),S4.same s5,de (aX (λ_ _ z=>(z.afn s4 adJ abB).same s5) p3) (.cons ⟨tq,rfl,Ni.up⟩ .nil),by simp;lia⟩
   .rintro ds H3 c0 ⟨s3,S3,p3,hl⟩ Vu;rw[gl,gk,Rf] at S3 p3;have s4:aB H3 (upd H3 c0 (.lst ds)):=ak Vu _;have S4:=S3.same s4;obtain⟨dx4,_,_,hx4,_⟩:=S4.ex;refine⟨_,rfl,x,dx4,_,rfl,hx4,rfl,_,rfl,c0,ds,rfl,.inl ⟨Nj.up,λr0 Q3=>?_⟩⟩;have s5:=ak Q3 (.tup ds);have db:=Bk.mS (n:=n) (os:=os.map (Qd p)) (rs:=rs);rw[NT] at db;have mul:RM os*(n+1)=RM os*n+RM os:=aaZ _ _;refine⟨x,lr,dn,_,.ref r0,_,rfl,S4.same s5,⟨r0,ds,rfl,Ni.up,aX (λ_ _ z=>z.same (s4.trans s5)) p3⟩,by lia,λH6 s6 S6=>?_⟩;refine z H6 (λb u h1 h2 q=>?_) S6;refine s6 b u h1 h2 (s5 b u (s4 b u (s3 b u h1 h2 ?_)));rw[aq (av q TH)];exact s2 b u q
theorem rK (F:NE K "shelve" "shelve" jF f fd)(T:Oy K mg CO)(c:SN K C)(mk:Ue K C "keep" fk)(Fk:Nq P w K mg base Nb 1 fk Rs ["self","room"] (jB K C))(bk:bH K Rs ["self","room"] [])(b:bH K fd ["shelf","orders","place"] [])(m:mg "shelve"=some (.ref f)):∀n,Nq P w K mg base Nb (n+2) f fd ["shelf","orders","place"] (j9 K C n)
 | 0=>oW F T c mk Fk bk 0 λm h=>nomatch h
 | n+1=>oW F T c mk Fk bk (n+1) λk h=>by
  cases h;exact⟨f,fd,rK F T c mk Fk bk b m n,b,F.kp,m⟩
end
abbrev pW:M':=top 26
theorem rL:∀{a b:List Int},Bk.lt a b->HT.cb a b=true
 | [],[],h=>h.elim
 | [],_::_,_=>rfl
 | _::_,[],h=>h.elim
 | x::a,y::b,h=>by
  rcases h with h|⟨rfl,h⟩
  .rw[HT.eW,M0 (by lia)];exact Nz h
  .rw[HT.eW,M6 rfl];exact rL h
section
def bx (many:Nat)(os:Bk.ap):List Bk.MX×Nat:=if os=[] then ([],0) else ((Bk.lay many os []).2,(Bk.lay many os []).1)
structure Sc (K:MZ)(H0 H:Hp)(t lr:A')(many:Int)(rs:List Bk.MX)(first:Int):Prop where
 ft:H0 t=none
 fl:H0 lr=none
 at_:H t=some (.tup [.int many,.ref lr,.int first])
 rooms:∃xs,H lr=some (.lst xs)/\Nd (bD K H) xs rs
def uZ (K:MZ):Sp:=λvs H Q _=>∃(many:Nat) (l:A') (ys:List V) (os:Bk.ap),vs=[.int (many:Int),.ref l]/\Nj K H l ys/\Nd (aK.rep K H) ys os/\(∀o∈os,tW many o)/\1<=many/\many<=8/\os.length<64/\
 ∀(t lr:A') (H':Hp),aB H H'->Sc K H H' t lr many (bx many os).1 (bx many os).2->Q (.ref t) H'
theorem kh:N3 ["many","orders","order","shelf","first"] ["many","orders"] (am pW):=⟨rfl,rfl,rfl,by decide +kernel,rfl,by decide +kernel,by decide +kernel⟩
theorem Az (F:NE K "book_of" "book_of" pW f fd)(T:Oy K mg CO)(c:SN K C)(M:Mk K C fi)(Fi:Nq P w K mg base Nb 1 fi Uy ["self"] (oC K C))(bi:bH K Uy ["self"] [])(mC:mg "Shelf"=some (.ref C))(WC:Df P w K mg base (P6 P w) 3 "look_count" ["many"] (lM CO))(WL:Df P w K mg base (P6 P w) 4 "look_order" ["many","order"] (zB K CO))(WS:∀n,Df P w K mg base Nb (n+2) "shelve" ["shelf","orders","place"] (j9 K C n)):
  Nq P w K mg base (P6 P w) 12 f fd ["many","orders"] (uZ K):=by
 refine F.okX kh (λvs H Q E h=>?_) (λX No A outer s H vs Q E hX hp Wh hr h=>?_)
 .obtain⟨many,l,ys,os,rfl,_⟩:=h;rfl
 obtain⟨many,l,ys,os,rfl,ql,po,good,m1,m8,NH,z⟩:=h;obtain⟨t0,m0⟩:=T.no;have hlen:=po.length;subst hX;refine⟨_,ad (bE (aE WC (hr.mono (by decide)) rfl hp (ac (pv 0) ae)))
  (ad (PS.QJ (dQ RL rfl (cX (pv 1)) (cJ (i:=2) kh.nd rfl (NB rfl)) (af (bE (aE WL (hr.mono (by decide)) rfl x9 (ac (pv 0) (ac (pv 2) ae)))))))
  (ad (aD (ar bf (aQ bd rfl T.t.len cq (ac (pv 1) ae)) ag (aw _)) (af (aH (bI (ac (pv 0) (ac (bW ae) (ac (aM (v:=.int 0) rfl m0 ⟨t0,rfl⟩) ae)))))) au)
  (ad (aV (i:=3) kh.nd rfl (NB rfl) (tu M Fi (hr.mono (by decide)) rfl mC bi .nil lH))
  (ad (aV (i:=4) kh.nd rfl (NB rfl) (aE (WS many) (hr.mono (by lia)) rfl (az (E:=λ_ _ _ _=>False)) (ac (pv 3) (ac (aQ kU rfl T.t.sorted jS (ac (pv 1) ae)) (ac ag ae)))))
  (af (aH (bI (ac (pv 0) (ac (io (pv 3) rfl) (ac (pv 4) ae)))))))))),?_⟩
 refine⟨_,rfl,(many:Int),rfl,iQ (by lia) (by lia),?_⟩;rw[M6 (by lia)];refine⟨_,rfl,l,rfl,⟨_,ql⟩,fu (K:=K) (a:=l) (xs:=ys) (λi σ H2=>∃v2,σ=[some (.int (many:Int)),some (.ref l),v2,none,none]/\aB H H2) ⟨none,rfl,aB.refl H⟩ ?_ ?_ ?_⟩
 .rintro i σ H2 _ ⟨v2,rfl,s2⟩;exact s2.Po ql
 .rintro i y σ H2 hy ⟨v2,rfl,s2⟩;obtain⟨o,ho,ro⟩:=cy po hy;obtain⟨a,rfl,qa⟩:=cu ro;have g:=good o (Oo ho);have gl:(o.length:Int)=many:=g.2.2.1;refine⟨_,rfl,_,rfl,(many:Int),a,o,rfl,iQ (by lia) (by lia),⟨s2.NM qa,by lia,λx hx=>?_⟩,λ_ H3 s3=>⟨_,rfl,s2.trans s3⟩,λng=>Nc g ng⟩;have:=g.2.2.2.mem hx;exact iQ (by lia) (by lia)
 .rintro σ H2 ⟨v2,rfl,s2⟩;refine⟨_,rfl,l,_,rfl,.inl (s2.Po ql),rfl,_,rfl,?_⟩
  by_cases e0:os=[]
  .subst e0;have y0:ys.length=0:=hlen;rw[y0,Nz (by rfl)];refine aZ ⟨_,rfl,by show 0<=Nh;decide,λlr Oi=>?_⟩;have s3:=s2.trans (ak Oi (.lst []));refine⟨by show 3<=Nh;decide,λt ht=>?_⟩;have s4:=ak ht (.tup [V.int (many:Int),V.ref lr,V.int 0]);exact z t lr _ (s3.trans s4) ⟨s3.free ht,s2.free Oi,al,[],s4 _ _ al,.nil⟩
  .have U5:0<os.length:=Xb.mpr e0;rw[Ny (λh=>by have:=V.int.inj h;lia)];refine aA ?_;intro x dx Yx abC ndx;have u1:=ak abC (.own x);have Vl:(upd H2 dx (.own x)) x=none:=by rw[aq (N1 ndx)];exact Yx
   have u2:=ak Vl (.ins C dx []);have s3:=s2.trans (u1.trans u2);refine⟨x,dx,rfl,al,λlr dn H3 Oi OE keep SA=>⟨rfl,?_⟩⟩;have s4:aB H H3:=λb u q=>keep b u (av q (s2.free Yx)) (s3 b u q);have Wt:H lr=none:=s3.free Oi;have τ:H dn=none:=s3.free OE;refine⟨_,rfl,_,rfl,.ref l,os,rfl,⟨l,ys,rfl,s4.Po ql,aX (λ_ _ z=>aK.mono s4 z) po⟩,λks hk=>?_,NH,λl2 Vq Qg OD pas perm RH=>?_⟩
   .have g:=good ks hk;have:(ks.length:Int)=many:=g.2.2.1;intro e;subst e;simp at this;lia
   have s5:=ak OD (.lst Vq);have mem:∀o∈Qg,tW many o:=λo ho=>good o (perm.mem_iff.mp ho);have kl:Qg.length=os.length:=perm.length_eq;have d0:Qg.map (Qd 0)=Qg:=(Y2 λo _=>(aaN:o.drop 0=o)).trans (List.map_id _);have Tq:Bk.lay many (Qg.map (Qd 0)) []=Bk.lay many os []:=by
    rw[d0];exact Bk.iw many [] λo=>perm.mem_iff
   have lb:bx many os=((Bk.lay many os []).2,(Bk.lay many os []).1):=by unfold bx;rw[M0 e0]
   refine⟨x,lr,dn,l2,[],0,Vq,Qg,rfl,SA.same s5,Nj.up,aX (λ_ _ z=>aK.mono s5 z) pas,⟨λe=>?_,λo ho=>?_,λo ho y hy=>?_,?_⟩,by lia,?_,λH5 s6 S5=>?_⟩
   .rw[e] at kl;simp at kl;lia
   .have:(o.length:Int)=many:=(mem o ho).2.2.1;lia
   .have g:=mem o ho;have gl:(o.length:Int)=many:=g.2.2.1;have:=g.2.2.2.mem hy;lia
   .exact RH.imp λh z=>by
     have:=rL z;rw[aaN,aaN,h] at this;cases this
   .show 0+Qg.length*many<1000;have:Qg.length*many<=63*8:=acT (by lia) m8;lia
   .rw[Tq] at S5 ⊢;obtain⟨dx5,xs5,L5,hx5,afP,υ,_⟩:=S5.ex;refine⟨_,rfl,_,rfl,x,C,dx5,_,.ref lr,rfl,hx5,c.cls,c.rooms,rfl,_,rfl,by show 3<=Nh;decide,λt ht=>?_⟩;have s7:=ak ht (.tup [V.int (many:Int),V.ref lr,V.int (((Bk.lay many os []).1:Nat):Int)]);have s8:aB H H5:=λb u q=>s6 b u (av q Wt) (av q τ) (s5 b u (s4 b u q));rw[lb] at z;exact z t lr _ (s8.trans s7) ⟨s8.free ht,Wt,al,xs5,s7 _ _ afP,aX (λ_ _ z=>z.same s7) υ⟩
end
section
def h9 (K:MZ)(H0:Hp)(fl:A')(M5:SK->List (Int×SK))(Oa:SK->Nat)(good:SK->Prop)(n:Nat):Sp:=λvs H Q _=>∃(many:Int) (v:V) (s:SK),vs=[.int many,v,.ref fl]/\cC K H v s/\aB H0 H/\good s/\(Bk.P8 s\/Oa s<=n)/\(Bk.eZ M5 n s).1.length<1000/\
 ∀(t lr:A') (H':Hp),aB H H'->Sc K H H' t lr many (Bk.eZ M5 n s).1 (Bk.eZ M5 n s).2->Q (.ref t) H'
theorem pX:N3 ["many","state","doors_from","shelf","first"] ["many","state","doors_from"] (am oU):=⟨rfl,rfl,rfl,by decide +kernel,rfl,by decide +kernel,by decide +kernel⟩
variable {P:Ng}{w:M7}{K:MZ}{mg:MV->Option D'}{base:M4}{CO:A'}{C:A'}{M5:SK->List (Int×SK)}{os:SK->Bk.ap}{Oa:SK->Nat}{good:SK->Prop} in
theorem Cv {f fi fl:A'}{fd Uy:Nt}{H0:Hp}{kl n:Nat}(n5:n<=5)(h0:os (.inl 0)=[])(h1:os (.inl 1)=[[]])(Yu:∀k,good (.inl k)->k=0\/k=1)(SI:∀s,(M5 s).length<=8)(F:NE K "grown" "grown" oU f fd)(T:Oy K mg CO)(c:SN K C)(M:Mk K C fi)(Fi:Nq P w K mg base Nb 1 fi Uy ["self"] (oC K C))(bi:bH K Uy ["self"] [])(mC:mg "Shelf"=some (.ref C))(WS:Df P w K mg base Nb (n+kl+2) "grow" ["shelf","state","doors_from","known"] (oV K C H0 fl M5 os Oa good n)):Nq P w K mg base Nb (n+kl+3) f fd ["many","state","doors_from"] (h9 K H0 fl M5 Oa good n):=by
 refine F.ok pX (λvs H Q E h=>?_) (λNo A outer s H vs Q E hr h=>?_)
 .obtain⟨many,v,st,rfl,_⟩:=h;rfl
 obtain⟨many,v,st,rfl,rv,s0,gd,lv,NH,z⟩:=h;obtain⟨t0,m0⟩:=T.no;obtain⟨t1,m1⟩:=T.en;refine⟨_,ad (aV (i:=3) pX.nd rfl (NB rfl) (tu M Fi (hr.mono (by lia)) rfl mC bi .nil lH))
  (ad (aV (i:=4) pX.nd rfl (NB rfl) (aE WS (hr.mono (by lia)) rfl (az (E:=λ_ _ _ _=>False)) (ac (pv 3) (ac (pv 1) (ac (pv 2) (ac (FV (wB (jV (aM (v:=.int 0) rfl m0 ⟨t0,rfl⟩) (aM (v:=.int 0) rfl m0 ⟨t0,rfl⟩) (jV (aM (v:=.int 1) rfl m1 ⟨t1,rfl⟩) (aM (v:=.int 1) rfl m1 ⟨t1,rfl⟩) wA)) rfl rfl (by decide) (by decide))) ae))))))
  (af (aH (bI (ac (pv 0) (ac (io (pv 3) rfl) (ac (pv 4) ae))))))),?_⟩
 intro x dx Yx abC ndx;have u1:=ak abC (.own x);have Vl:(upd H dx (.own x)) x=none:=by rw[aq (N1 ndx)];exact Yx
 have u2:=ak Vl (.ins C dx []);have s3:=u1.trans u2;refine⟨x,dx,rfl,al,λlr dn H3 Oi OE keep SA=>⟨rfl,?_⟩⟩;have s4:aB H H3:=λb u q=>keep b u (av q Yx) (s3 b u q);have Wt:H lr=none:=s3.free Oi;have τ:H dn=none:=s3.free OE;refine⟨_,rfl,_,rfl,_,rfl,λdk Q9=>?_⟩;refine⟨al,[(.inl 0,.int 0),(.inl 1,.int 1)],rfl,by decide,dk,[(0,0),(1,1)],rfl,?_,?_⟩
 .rw[al];rfl
 have u5:upd (upd (upd H3 dk (.dK [])) dk (.dK (gD [] [(.inl 0,.int 0),(.inl 1,.int 1)]))) dk (PK dk (RG [(0,0),(1,1)]))=upd H3 dk (PK dk (RG [(0,0),(1,1)])):=by rw[we,we]
 rw[u5];have s5:=ak Q9 (PK dk (RG [(0,0),(1,1)]));have KA:Rr K (upd H3 dk (PK dk (RG [(0,0),(1,1)]))) dk Bk.SQ:=⟨RG [(0,0),(1,1)],al,λe he=>by
  rcases NG.mp he with rfl|he
  .rfl
  .obtain rfl:=Pl.mp he;rfl,.cons ⟨rfl,rfl⟩ (.cons ⟨rfl,rfl⟩ .nil)⟩
 have fw:=(Bk.uX SI n st ([],Bk.SQ)).2;have p9:9 ^ n<=9 ^ 5:=aeE (by lia) n5;have Uz:=s4.trans s5;obtain⟨_,_,NL,_,adJ,_,abB,_⟩:=SA.ex;refine⟨x,lr,dn,dk,v,st,[],Bk.SQ,rfl,SA.same s5,KA,rv.mono Uz,s0.trans Uz,s0.free Wt,s0.free τ,s0.free (s4.free Q9),(λe=>by rw[e,abB] at Q9;cases Q9),gd,lv,Bk.Dx h0 h1 Yu,NH,?_,λH6 s6 S6 _=>?_⟩
 .have:(Bk.SQ).length=2:=rfl;dsimp only at fw;lia
 obtain⟨dx6,xs6,L6,hx6,afQ,pr6,_⟩:=S6.ex;refine⟨_,rfl,_,rfl,x,C,dx6,_,.ref lr,rfl,hx6,c.cls,c.rooms,rfl,_,rfl,by show 3<=Nh;decide,λt ht=>?_⟩;have s7:=ak ht (.tup [V.int many,V.ref lr,V.int (((Bk.aW M5 n st ([],Bk.SQ)).1:Nat):Int)]);have s8:aB H H6:=s6.base Uz λa ha=>by
  simp only[NG,Pf,or_false] at ha;rcases ha with rfl|rfl|rfl
  .exact Wt
  .exact τ
  .exact s4.free Q9
 exact z t lr _ (s8.trans s7) ⟨s8.free ht,Wt,al,xs6,s7 _ _ afQ,aX (λ_ _ z=>z.same s7) pr6⟩
end
end Ord
namespace L2
open PySem PySem.Spec PyProof.Rows PySem.SetTable
def ElI (e:Sa.OO)(k:Int):Prop:=e.1=hashInt k/\∃t,e.2=O0 k t
structure OC (h:M4)(a:A')(o:G')(es:Array Sa.OO)(ep:Nat)(t:Om)(ks:List Int):Prop where
 ob:h.get? a=some o
 ex:o.ExactSet
 dt:o.data=.set es ep t
 full:Sa.Full t es
 NH:t.place.size*5<t.mask*3
 pl:t.plain=true
 el:Nd ElI es.toList ks
 nd:ks.Nodup
theorem AA (F:Sa.Full t es)(h:Int)(NH:t.place.size*5<t.mask*3):∃N,t.freeSlot h=some ((Sa.Nx t h N).j,false)/\(Sa.Nx t h N).j∉t.place.toList/\∀m,m<N->(Sa.Nx t h m).j∈t.place.toList:=by
 obtain⟨N,n1,n2,n3⟩:=Sa.meets F.tab h (by lia);refine⟨N,?_,n2,n3⟩;obtain⟨m',_,_,c,_⟩:=pN (H:=λ_=>h+1) F.tab n2 n3 (10*turns t.mask) 0 (Ow _) (by unfold turns;lia);unfold Om.freeSlot Om.probe;rcases c with⟨_,e⟩|⟨_,i,_,z,_⟩
 .have e:probe.go t (λ_=>h+1) h (10*turns t.mask) (t.probeStart h)=_:=e;rw[e];rfl
 .exact Nc z (by lia)
section
theorem OC.fits (S:OC h a o es ep t ks):t.fits es.size=true:=by
 unfold aaR R5;rw[S.full.tab.So,S.full.size];have:=S.NH;rw[S.full.size] at this;simp;lia
theorem OC.elems (S:OC h a o es ep t ks):ElemsOf (intKind prog w) es.toList:=λe he=>by
 obtain⟨k,_,h1,tk,h2⟩:=fA S.el e he;refine⟨⟨k,by rw[h2];simp[intKind,Xs],h1⟩,?_⟩;rw[h2];rfl
theorem OC.len (S:OC h a o es ep t ks):es.size=ks.length:=by rw[<-Pe];exact S.el.length
theorem OC.keep (S:OC h a o es ep t ks)(k:∀u,h.get? a=some u->h'.get? a=some u):OC h' a o es ep t ks:=⟨k _ S.ob,S.ex,S.dt,S.full,S.NH,S.pl,S.el,S.nd⟩
theorem add_int (S:OC s.heap a o es ep t ks)(room:k∉ks->(ks.length+1)*5<t.mask*3)(NH:ks.length<70)(h:∀h' f,(∀b u,b≠a->s.heap.get? b=some u->h'.get? b=some u)->(∃o es ep t' OX,OC h' a o es ep t' OX/\t'.led=t.led/\t'.mask=t.mask/\(∀x,x∈OX↔x=k\/x∈ks))->Q f { s with heap:=h' }):
  M3 (M8 prog w) A (setAddHashed a (.int k tk) (hashInt k)) Q E s:=by
 have Ym:=S.elems (prog:=prog) (w:=w);have len:=S.len;unfold setAddHashed;refine PN ?_;show M3 _ _ (setAddHashedIn a (.int k tk) (hashInt k) (99999+1)) _ _ _;rw[ut];refine MW (P0 S.ob S.dt S.fits ?_);dsimp only;rw[byScan_of rfl (by unfold scanBound;lia) Ym];simp only[↓reduceIte];unfold setAddByScan;refine MW (MW (Qt (MW (wpAny_setScan_of (knd:=intKind prog w) (k:=k) (by simp[intKind,Xs]) S.ob S.dt S.fits Ym ?_))));have isK:∀e∈es.toList,((intKind prog w).is k e.2=true↔∃tk,e.2=O0 k tk):=λe _=>by
  constructor
  .intro q;exact acq q
  .rintro⟨tk,q⟩;rw[q];simp[intKind,Xs]
 cases hr:List.findIdx? (λe=>(intKind prog w).is k e.2) es.toList with
 | some j=>
  dsimp only;obtain⟨hj,hpj,_⟩:=List.findIdx?_eq_some_iff_getElem.mp hr;obtain⟨UA,e1⟩:=(isK _ (UQ hj)).mp hpj;obtain⟨k',RT,_,tk2,e2⟩:=cy S.el (Ou hj);rw[e1] at e2;cases e2;exact M1 (M1 (h s.heap false (λ_ _ _ q=>q) ⟨o,es,ep,t,ks,S,rfl,rfl,λx=>⟨.inr,λz=>z.elim (λz=>by rw[z];exact Oo RT) id⟩⟩))
 | none=>
  dsimp only;have hk:k∉ks:=λz=>by
   obtain⟨j,hj⟩:=UK.mp z;obtain⟨e,he,_,tk2,e2⟩:=fU S.el hj;have:=List.findIdx?_eq_none_iff.mp hr e (Oo he);rw[(isK e (Oo he)).mpr ⟨tk2,e2⟩] at this;cases this
  obtain⟨N,f1,n1,n2⟩:=AA S.full (hashInt k) S.NH;have rm:=room hk;obtain⟨p1,p2,p3,p4,p5,p6,p7⟩:=Sa.abc S.full.tab (Sa.Nx t (hashInt k) N).j;have F':=Sa.ac9 S.full (e:=(hashInt k,.int k tk)) n1 n2;dsimp only at F';obtain⟨bl,_,_⟩:=Sa.Tg S.full.tab.rise (Sa.Nx t (hashInt k) N).j;have sz:=F'.size;have fs:=S.full.size;have Rp:(insertAt es (t.put (Sa.Nx t (hashInt k) N).j).2 (hashInt k,O0 k tk)).size=es.size+1:=Sa.Zx _ _ (by rw[p1];lia);have lay:layNew t es (hashInt k) (.int k tk)=(insertAt es (t.put (Sa.Nx t (hashInt k) N).j).2 (hashInt k,O0 k tk),(t.put (Sa.Nx t (hashInt k) N).j).1,false,false):=by
   have ft:(t.put (Sa.Nx t (hashInt k) N).j).1.fits (insertAt es (t.put (Sa.Nx t (hashInt k) N).j).2 (hashInt k,O0 k tk)).size=true:=by
    unfold aaR R5;rw[p4,sz,Rp,p2];simp;lia
   unfold layNew;rw[f1];dsimp only;unfold Om.orStandIn;rw[M6 ft,ft];rfl
  rw[lay];dsimp only;refine MW (M1 ?_);rw[p5,S.pl];simp only[if_true];refine MW (M1 ?_);simp only[if_true];generalize (t.put (Sa.Nx t (hashInt k) N).j).1=t' at *;generalize (t.put (Sa.Nx t (hashInt k) N).j).2=p at *;refine MW (Y' S.ob S.dt ?_ (by rw[Rp,NU];lia));obtain⟨g1,g2,g3⟩:=gG S.ob S.ex S.dt (insertAt es p (hashInt k,O0 k tk)) t';have ζ:Nd ElI (insertAt es p (hashInt k,O0 k tk)).toList (ks.take p++k::ks.drop p):=by
   rw[Sa.Ua];exact de (sC p S.el) (.cons ⟨rfl,tk,rfl⟩ (sD p S.el))
  have pm:(ks.take p++k::ks.drop p).Perm (k::ks):=by
   refine List.perm_middle.trans ?_;rw[TW]
  have Wl:(ks.take p++k::ks.drop p).Nodup:=pm.nodup_iff.mpr (QE.mpr ⟨hk,S.nd⟩);have nf:t'.tooFull=false:=by
   unfold acA R5;rw[p4,sz,Rp,p2];simp;lia
  rw[nf];simp only[Bool.not_false,aaL,OI,if_false];refine M1 (M1 (h _ true g2 ⟨_,_,_,t',_,⟨g1,S.ex,rfl,F',by rw[sz,Rp,p2,len];exact rm,by rw[p5,S.pl],ζ,Wl⟩,p6,p2,λx=>?_⟩));rw[pm.mem_iff,NG]
theorem rM {led:Bool}(e:h.get? S=some (bK led)):OC h S (bK led) #[] 0 (.fresh 0 0 led) []:=
 ⟨e,⟨rfl,rfl,rfl⟩,rfl,⟨⟨.inl rfl,UM,λj hj=>(Pf hj).elim,rfl⟩,rfl,λx hx=>(Pf hx).elim⟩,(by show 0*5<7*3;decide),rfl,.nil,VR⟩
theorem u8:isSubtype (.type "dict") (.type "set")=pure false:=by rw[Zj];kernel_rfl
theorem va:isSubtype (.type "dict") (.type "frozenset")=pure false:=by rw[Zj];kernel_rfl
theorem wa (hd:(d==Pr)=false)(ho:s.heap.get? d=some o)(hx:o.ExactDict)(hdt:o.data=.dict ds ep)(p:Nd (λ(e:O4) k=>e.hash=hashInt k/\∃t,e.key=.int k t) ds.toList l)(nd:l.Nodup)(NH:l.length<=4)(h:∀h' tk,(∀b o,s.heap.get? b=some o->h'.get? b=some o)->(∃o es ep t ks,OC h' s.heap.objs.size o es ep t ks/\t.led=bP w/\t.mask=7/\∀x,x∈ks↔x∈l)->Q (.ref s.heap.objs.size) { s with heap:=h',toks:=tk }):M3 (M8 prog w) A (call (.type "set") [.ref d]) Q E s:=by
 refine zY ?_;generalize ZM:bP w=led at h ⊢;obtain⟨oc,od,odt,Qi⟩:=o;obtain⟨x1,x2,x3⟩:=hx;simp only at x1 x2 x3 hdt;subst x1 x2 x3 hdt;have lt:d<s.heap.objs.size:=NC ho;have hS:(s.heap.push (bK led)).get? s.heap.objs.size=some (bK led):=OH _ rfl;have hT:Xp { s with heap:=s.heap.push (bK led) } (.ref s.heap.objs.size) "set":=⟨_,hS,rfl⟩
 have Pp:(s.heap.push (bK led)).get? d=some { cls:=.type "dict",dict:=none,data:=.dict ds ep,slots:=#[] }:=NK _ ho;have TL:Xp { s with heap:=s.heap.push (bK led) } (.ref d) "dict":=⟨_,Pp,rfl⟩
 have n1:=u8;have n2:=va;have n3:(QS "dict"==QS "dict")=true:=by decide
 unfold P4.«set.__init__» noKeywords aab;generalize hPI:setRoomFor=PI;wp_walk;subst hPI;have dl:ds.size=l.length:=by rw[<-Pe];exact p.length
 have Z:=rM hS;unfold setRoomFor;refine MW (P0 (s:={ s with heap:=s.heap.push (bK led) }) Z.ob Z.dt Z.fits ?_);have nr:(Om.fresh 0 0 led).roomFor ds.size=none:=by
  unfold acD R5;rw[M0 (by show ¬(0+0+ds.size)*5 >= 7*3;lia)]
 dsimp only;rw[nr];refine M1 ?_;refine MW (m:=dictEntries d) (Za (s:={ s with heap:=s.heap.push (bK led) }) Pp rfl (MW ?_));rw[adT];refine Re _ (λrest _ s'=>∃i h1 o es Q0 t ks,i+rest.length=ds.size/\rest=aa1 i (ds.size-i)/\s'={ s with heap:=h1 }/\(∀b o,s.heap.get? b=some o->h1.get? b=some o)/\OC h1 s.heap.objs.size o es Q0 t ks/\t.led=led/\t.mask=7/\∀x,x∈ks↔x∈l.take i) _ ?_ ?_ _ _
  ⟨0,_,_,_,_,_,_,by simp,by simp,rfl,λb o e=>NK _ e,Z,rfl,rfl,λx=>by simp⟩
 .rintro j rest b s' ⟨i,h1,o,es,Q0,t,ks,hi,hr,rfl,k1,S,l1,m1,mem⟩;have il:i<ds.size:=by rw[OB] at hi;lia
  obtain⟨n,hn⟩:∃n,ds.size-i=n+1:=⟨ds.size-i-1,by lia⟩
  rw[hn,acz] at hr;injection hr with e1 e2
  subst e1;have od:=k1 _ _ ho;refine MW (Za (s:={ s with heap:=h1 }) od rfl ?_);obtain⟨k,hk,q1,tk,q2⟩:=cy p (show ds.toList[j]?=some ds[j] by simp[il]);rw[RI il];dsimp only;rw[q1,q2];have kl:k∉ks:=λz=>by
   obtain⟨q,hq⟩:=UK.mp ((mem k).mp z);have ql:q<j:=by
    have:=(OA.mp hq).1;rw[Qb] at this;lia
   rw[abZ ql] at hq;have:=(acw (OA.mp hq).1 nd).mp (hq.trans hk.symm);lia
  have ksl:ks.length<=j:=by
   have h1:=dE ks (l.take j) S.nd λx hx=>(mem x).mp hx;rw[Qb] at h1;lia
  refine MW (PN (add_int (s:={ s with heap:=h1 }) S (λ_=>by rw[m1];lia) (by lia) λh2 f k2 ⟨o2,Qk,Qx,t2,Qq,S2,l2,m2,afR⟩=>?_));have od2:=k2 d _ (N0 lt) od;refine MW (SC (s:={ s with heap:=h2 }) od2 rfl ?_);rw[M0 (by simp)];refine M1 ⟨j+1,h2,o2,Qk,Qx,t2,Qq,by rw[OB] at hi;lia,by rw[e2];congr 1;lia,rfl,λb u e=>k2 b u (N0 (NC e)) (k1 b u e),S2,l2.trans l1,m2.trans m1,λx=>?_⟩;rw[afR,mem,Ta,hk,Xg,Ov,Pl];exact or_comm
 .rintro b s' ⟨i,h1,o,es,Q0,t,ks,hi,hr,rfl,k1,S,l1,m1,mem⟩;refine M1 (M1 ⟨_,rfl,rfl,h h1 _ k1 ⟨o,es,Q0,t,ks,S,l1,m1,λx=>?_⟩⟩);rw[mem];have:l.take i=l:=W' (by simp at hi;lia);rw[this]
theorem AB (S:OC s.heap a o es ep t ks)(hM:Sa.Mk M)(hz:sizeAbove n=M+1)(hs:es.size*5<M*3)(h:∀h',(∀b u,b≠a->s.heap.get? b=some u->h'.get? b=some u)->(∃o es ep t' OX,OC h' a o es ep t' OX/\t'.led=t.led/\t'.mask=M/\OX.Perm ks)->Q () { s with heap:=h' }):M3 (M8 prog w) A (setRelay a n) Q E s:=by
 rw[uu];refine MW (P0 S.ob S.dt S.fits ?_);dsimp only;have hM':M<=255:=by rcases hM with e|e|e|e|e|e <;> lia
 rw[M0 (by rw[hz,NU];lia)];obtain⟨t',order,e1,e2,e3,e4,e5,e6,e7⟩:=Sa.ada (mask:=M) (finger:=t.finger) (moves:=t.movedTo M) (led:=t.led) (plain:=t.plain) hM es (by lia);have er:t.relaid (es.map (·.1)) n=some (t',order):=by
  unfold relaid;rw[hz];exact e1
 rw[er];dsimp only;have ne:((order.filterMap (es[·]?)).size != es.size)=false:=by rw[e5];simp
 rw[ne];simp only[OI,if_false];refine MW (M1 (Y' S.ob S.dt ?_ (by rw[e5,NU];lia)));obtain⟨g1,g2,g3⟩:=gG S.ob S.ex S.dt (order.filterMap (es[·]?)) t';obtain⟨OX,q1,q2⟩:=ja e6 S.el;refine h _ g2 ⟨_,_,_,t',OX,⟨g1,S.ex,rfl,e7,?_,by rw[e3];exact S.pl,q1,q2.nodup_iff.mpr S.nd⟩,e4,e2,q2⟩;rw[e7.size,e2,e5];exact hs
theorem Cw (S:OC s.heap a o es ep t ks)(m7:t.mask=7)(h4:ks.length<=4)(m4:more<=4)(h:∀h',(∀b u,b≠a->s.heap.get? b=some u->h'.get? b=some u)->(∃o es ep t' OX,OC h' a o es ep t' OX/\t'.led=t.led/\7<=t'.mask/\(ks=[]->t'=t)/\OX.Perm ks)->Q () { s with heap:=h' }):M3 (M8 prog w) A (setRoomFor a more) Q E s:=by
 have len:=S.len;unfold setRoomFor;refine MW (P0 S.ob S.dt S.fits ?_);dsimp only
 by_cases c:(es.size+more)*5 >= 21
 .have rf:t.roomFor more=some ((es.size+more)*2):=by
   unfold acD R5;rw[S.full.tab.So,S.full.size,m7,M6 (by simp;lia)]
  rw[rf];have key:∃M,Sa.Mk M/\sizeAbove ((es.size+more)*2)=M+1/\es.size*5<M*3/\7<=M:=by
   have hb:es.size+more=5\/es.size+more=6\/es.size+more=7\/es.size+more=8:=by lia
   rcases hb with e|e|e|e <;> rw[e]
   .exact⟨15,.inr (.inr (.inr (.inl rfl))),by decide,by lia,by decide⟩
   .exact⟨15,.inr (.inr (.inr (.inl rfl))),by decide,by lia,by decide⟩
   .exact⟨15,.inr (.inr (.inr (.inl rfl))),by decide,by lia,by decide⟩
   .exact⟨31,.inr (.inl rfl),by decide,by lia,by decide⟩
  obtain⟨M,k1,k2,k3,k4⟩:=key;dsimp only;refine AB S k1 k2 k3 λh' q ⟨o',Pj,Q0,t',OX,S',l',m',pm⟩=>h h' q ⟨o',Pj,Q0,t',OX,S',l',by rw[m'];exact k4,λz=>?_,pm⟩;rw[z] at len;have:es.size=0:=len;lia
 .have rf:t.roomFor more=none:=by
   unfold acD R5;rw[S.full.tab.So,S.full.size,m7,M0 (by simp;lia)]
  rw[rf];exact M1 (h s.heap (λ_ _ _ q=>q) ⟨o,es,ep,t,ks,S,rfl,by lia,λ_=>rfl,Zi _⟩)
end
section
theorem Cy (S:OC s.heap a o es ep t ks)(hl:t.led=bP w)(h:Q (wo w a ep es) s):M3 (M8 prog w) A (setWalkUnseen a others f) Q E s:=by
 have ld:(cR w||(t.led&&t.plain))=true:=by
  rw[hl,S.pl];show(cR w||(!cR w&&true))=true;cases cR w <;> rfl
 unfold setWalkUnseen;refine MW (P0 S.ob S.dt S.fits (MW (dW ?_)));dsimp only;rw[M6 (by rw[ld];rfl),jX];refine MW (P0 S.ob S.dt S.fits (MW (dW ?_)));cases b:cR w with
 | true=>
  simp only[if_true];refine MW (Zb (M1 ?_));unfold wo at h;rw[b] at h;exact h
 | false=>
  have lt:t.led=true:=by rw[hl];show(!cR w)=true;rw[b];rfl
  simp only[OI,if_false,S.pl,Rx,Zg,lt];unfold wo at h;rw[b] at h;exact M1 h
theorem pY {ks:List Int}(nd:ks.Nodup)(h:∀x∈ks,0<=x/\x<4):ks.length<=4:=dE ks [0,1,2,3] nd λx hx=>by
 have:=h x hx;have:x=0\/x=1\/x=2\/x=3:=by lia
 rcases this with rfl|rfl|rfl|rfl <;> simp
theorem rN (S1:OC s.heap r o1 Wu Wv t1 Rt)(S2:OC s.heap a o2 Qk Qx t2 Qq)(ne:r≠a)(m1:t1.mask=7)(m2:t2.mask=7)(l1:t1.led=bP w)(l2:t2.led=bP w)(small:∀x,x∈Rt\/x∈Qq->0<=x/\x<4)(he:∀(s':J') (Q:Unit->J'->Prop),s'.heap.get? a=some o2->Q () s'->M3 (M8 prog w) A each Q E s')(h:∀h',(∀b u,b≠r->s.heap.get? b=some u->h'.get? b=some u)->(∃o es ep t ks,OC h' r o es ep t ks/\t.led=bP w/\(Rt=[]->t.mask=7)/\∀x,x∈ks↔x∈Rt\/x∈Qq)->Q () { s with heap:=h' }):M3 (M8 prog w) A (setMerge r a each) Q E s:=by
 have f1:=pY S1.nd λx hx=>small x (.inl hx);have f2:=pY S2.nd λx hx=>small x (.inr hx);have n2:=S2.len;unfold setMerge;rw[M0 (by simpa using ne)];refine MW (P0 S2.ob S2.dt S2.fits ?_);dsimp only
 by_cases z:Qk.isEmpty=true
 .rw[M6 z];have:Qq=[]:=S0.mp (by rw[<-n2];simpa using z);exact M1 (h s.heap (λ_ _ _ q=>q) ⟨o1,Wu,Wv,t1,Rt,S1,l1,λ_=>m1,λx=>by rw[this];simp⟩)
 rw[M0 z];refine MW (Cw S1 m1 f1 (by lia) λh1 k1 ⟨o,es,ep,t,ks,S,l,m,e0,pm⟩=>?_);have Ww:OC h1 a o2 Qk Qx t2 Qq:=S2.keep λu e=>k1 a u (N1 ne) e;refine MW (P0 (s:={ s with heap:=h1 }) S.ob S.dt S.fits ?_);dsimp only
 by_cases z1:Rt=[]
 .have et:=e0 z1;subst et;have e1:es.size=0:=by
   have:=S.len;rw[this,pm.length_eq,z1];rfl
  have rd:t.road t2=.slotForSlot:=by
   unfold Om.road R5;rw[S.full.tab.So,S.full.size,e1,m1,m2,S2.full.tab.So];rfl
  rw[rd];dsimp only;refine Y' (s:={ s with heap:=h1 }) S.ob S.dt ?_ (by rw[NU];lia);obtain⟨g1,g2,g3⟩:=gG S.ob S.ex S.dt Qk { t2 with finger:=t.finger,led:=t.led&&t2.led,moves:=t.moves,plain:=t.plain&&t2.plain };refine h _ (λb u hb e=>g2 b u hb (k1 b u hb e)) ⟨_,_,_,_,Qq,⟨g1,S.ex,rfl,⟨⟨S2.full.tab.O3,S2.full.tab.rise,S2.full.tab.le,S2.full.tab.So⟩,S2.full.size,S2.full.reach⟩,S2.NH,by show(t.plain&&t2.plain)=true;rw[S.pl,S2.pl];rfl,S2.el,S2.nd⟩,?_,λ_=>m2,λx=>by rw[z1];simp⟩;show(t.led&&t2.led)=bP w;rw[l1,l2,Bool.and_self]
 .have e1:es.size≠0:=by
   have:=S.len;rw[this,pm.length_eq];intro q;exact z1 (S0.mp q)
  have rd:t.road t2=.oneByOne:=by
   unfold Om.road R5;rw[S.full.tab.So,S.full.size,M6 (by simpa using e1)]
  rw[rd];dsimp only;refine MW (Cy (s:={ s with heap:=h1 }) Ww l2 ?_);rw[<-Y4];have pw:=pP w a Qx Qk;obtain⟨ksw,pk,pkp⟩:=ja pw S2.el;refine MW (Re _ (λrest _ s'=>∃i h2 o es ep t ks,(wo w a Qx Qk).toList.drop i=rest/\s'={ s with heap:=h2 }/\(∀b u,b≠r->h1.get? b=some u->h2.get? b=some u)/\OC h2 r o es ep t ks/\t.led=bP w/\7<=t.mask/\∀x,x∈ks↔x∈Rt\/x∈ksw.take i) _ ?_ ?_ (wo w a Qx Qk).toList _
   ⟨0,h1,o,es,ep,t,ks,by simp,rfl,λ_ _ _ q=>q,S,l.trans l1,m,λx=>by simp[pm.mem_iff]⟩)
  .rintro⟨hh,x⟩ rest b s' ⟨i,h2,o,es,ep,t,ks,hr,rfl,k2,S,lt,mt,mem⟩;have hi:(wo w a Qx Qk).toList[i]?=some (hh,x):=by
    have:=congrArg List.head? hr;rw[List.head?_drop] at this;exact this
   obtain⟨k,hk,q1,tk,q2⟩:=cy pk hi;dsimp only at q1 q2;subst q1 q2;have Uf:k∈Qq:=pkp.mem_iff.mp (Oo hk);have sm:∀x∈k::ks,0<=x/\x<4:=λx hx=>by
    rcases NG.mp hx with rfl|hx
    .exact small _ (.inr Uf)
    .rcases(mem x).mp hx with q|q
     .exact small x (.inl q)
     .exact small x (.inr (pkp.mem_iff.mp (ack q)))
   refine MW (PN (add_int (s:={ s with heap:=h2 }) S (λRT=>?_) ?_ λh3 f k3 ⟨o3,es3,ep3,t3,ks3,S3,l3,m3,abD⟩=>?_))
   .have:=pY (QE.mpr ⟨RT,S.nd⟩) sm;rw[OB] at this;have:(ks.length+1)*5<=20:=by lia
    have:21<=t.mask*3:=by lia
    lia
   .have:=pY S.nd λx hx=>sm x (NP _ hx);lia
   .have ha3:h3.get? a=some o2:=k3 a _ (N1 ne) (k2 a _ (N1 ne) Ww.ob);refine MW (he { s with heap:=h3 } _ ha3 ?_);refine MW (P0 (s:={ s with heap:=h3 }) ha3 S2.dt S2.fits ?_);dsimp only;rw[M0 (by simp)];refine M1 ⟨i+1,h3,o3,es3,ep3,t3,ks3,?_,rfl,λb u hb e=>k3 b u hb (k2 b u hb e),S3,l3.trans lt,by rw[m3];exact mt,λx=>?_⟩
    .have:=congrArg List.tail hr;rw[List.tail_drop] at this;exact this
    .rw[abD,mem,Ta,hk,Xg,Ov,Pl];constructor
     .rintro(q|q|q)
      .exact .inr (.inr q)
      .exact .inl q
      .exact .inr (.inl q)
     .rintro(q|q|q)
      .exact .inr (.inl q)
      .exact .inr (.inr q)
      .exact .inl q
  .rintro b s' ⟨i,h2,o,es,ep,t,ks,hr,rfl,k2,S,lt,mt,mem⟩;have il:(wo w a Qx Qk).toList.length<=i:=List.drop_eq_nil_iff.mp hr;have kl:=pk.length;refine M1 (h h2 (λb u hb e=>k2 b u hb (k1 b u hb e)) ⟨o,es,ep,t,ks,S,lt,λq=>Nc q z1,λx=>?_⟩);rw[mem,W' (by lia),pkp.mem_iff]
end
theorem Ju (args):P4.«frozenset.__or__» args=(do
  let (self,other) <-P4.Frozenset.slot1 "__or__" args
  if !(<-(abV self <&&> abV other)) then
   rule s!"frozenset.{"__or__"}.declined"
   return <-ret .notImplemented
  ret (<-(λ(l:A')=>(do
   let result <-aah l
   if other != .ref l then holding [result] (aab s!"frozenset.{"__or__"}" (<-ab3 result) other)
   return result:PY D')) (<-ab3 self))):=rfl
theorem vb:entryFor table "set.__or__"=some P4.«frozenset.__or__»:=
 acR (id':="frozenset.__or__") (by kernel_rfl) rfl (by decide +kernel) (by kernel_rfl)
section
theorem Cz (S:OC s.heap a o1 Wu Wv t1 Rt)(m1:t1.mask=7)(l1:t1.led=bP w)(small:∀x∈Rt,0<=x/\x<4)(h:∀h',(∀b u,s.heap.get? b=some u->h'.get? b=some u)->(∃o es ep t ks,OC h' s.heap.objs.size o es ep t ks/\t.led=bP w/\t.mask=7/\∀x,x∈ks↔x∈Rt)->Q (.ref s.heap.objs.size) { s with heap:=h' }):M3 (M8 prog w) A (aah a) Q E s:=by
 have lt:a<s.heap.objs.size:=NC S.ob;have hT:s.TypeIs (.ref a) "set":=⟨_,S.ob,S.ex.1⟩
 have n1:=sub_set_self;unfold aah P4.Frozenset.baseOf;refine MW (MW (aaC hT n1 (M1 ?_)));simp only[if_true];have new:∀{Q:D'->J'->Prop},Q (.ref s.heap.objs.size) { s with heap:=s.heap.push (bK (bP w)) }->M3 (M8 prog w) A (newSet (.type "set")) Q E s:=λ{Q} hq=>by
  unfold newSet;refine MW (dW ?_);simp only[newObj];exact MW (wpAny_alloc (M1 hq))
 refine MW (new ?_);have hS:(s.heap.push (bK (bP w))).get? s.heap.objs.size=some (bK (bP w)):=OH _ rfl;have Z:=rM hS;refine MW (M1 (MW (rN (s:={ s with heap:=s.heap.push (bK (bP w)) }) Z (S.keep λu e=>NK _ e) (Te lt) rfl m1 rfl l1 (λx hx=>small x (hx.resolve_left (by simp))) (λs' Q _ hq=>M1 hq) λh' k ⟨o,es,ep,t,ks,S',l',m',mem⟩=>?_)));exact M1 (h h' (λb u e=>k b u (N0 (NC e)) (NK _ e)) ⟨o,es,ep,t,ks,S',l',m' rfl,λx=>by rw[mem];simp⟩)
theorem or_int (S1:OC s.heap a o1 Wu Wv t1 Rt)(S2:OC s.heap b o2 Qk Qx t2 Qq)(ne:a≠b)(m1:t1.mask=7)(m2:t2.mask=7)(l1:t1.led=bP w)(l2:t2.led=bP w)(small:∀x,x∈Rt\/x∈Qq->0<=x/\x<4)(h:∀h',(∀b u,s.heap.get? b=some u->h'.get? b=some u)->(∃o es ep t ks,OC h' s.heap.objs.size o es ep t ks/\t.led=bP w/\∀x,x∈ks↔x∈Rt\/x∈Qq)->Q (.ref s.heap.objs.size) { s with heap:=h' }):M3 (M8 prog w) A (binaryOp .BitOr (.ref a) (.ref b)) Q E s:=by
 have hT1:s.TypeIs (.ref a) "set":=⟨_,S1.ob,S1.ex.1⟩
 have TL:s.TypeIs (.ref b) "set":=⟨_,S2.ob,S2.ex.1⟩
 have lt:b<s.heap.objs.size:=NC S2.ob;have n1:=sub_set_self;refine wpAny_binaryOp_same (op:=.BitOr) hT1 TL PySem.F.fills_set_or aeO (RK aeO hT1 vb ?_ (PySem.F.args_set_or_2 _ _));rw[Ju];generalize hC:aah=C;wp_walk;subst hC;refine Cz S1 m1 l1 (λx hx=>small x (.inl hx)) λh1 k1 ⟨o,es,ep,t,ks,S,l,m,mem⟩=>?_;have Ww:OC h1 b o2 Qk Qx t2 Qq:=S2.keep λu e=>k1 b u e;have Wx:Xp { s with heap:=h1 } (.ref b) "set":=⟨_,Ww.ob,S2.ex.1⟩
 dsimp only;rw[M6 (by simp only[bne_iff_ne,ne_eq,NQ.injEq];exact N1 ne)];refine MW (M1 (MW (PN ?_)));unfold aab abV;generalize hM:aeo=MG;wp_walk;subst hM;unfold aeo setEpoch;refine MW (MW (P0 (s:={ s with heap:=h1 }) Ww.ob S2.dt S2.fits (M1 ?_)));refine rN (s:={ s with heap:=h1 }) S Ww (Te lt) m m2 l l2 (λx hx=>small x (hx.imp (mem x).mp id)) (λs' Q' ha hq=>?_) λh2 k2 ⟨o3,es3,ep3,t3,ks3,S3,l3,_,abD⟩=>?_
 .unfold P4.Frozenset.unchanged setEpoch;refine MW (MW (P0 ha S2.dt S2.fits (M1 ?_)));rw[M0 (by simp)];exact M1 hq
 .refine M1 (M1 ⟨_,rfl,(by intro z;cases z),h h2 (λc u e=>k2 c u (N0 (NC e)) (k1 c u e)) ⟨o3,es3,ep3,t3,ks3,S3,l3,λx=>by rw[abD,mem]⟩⟩)
end
section
theorem OC.wk (S:OC h a o es ep t ks)(l:t.led=bP w):Wk w h a es ep t:=⟨⟨o,S.ob,S.ex,S.dt⟩,S.full.tab.rise,S.full.size,S.fits,S.pl,l⟩
theorem oX:∀{l:List Sa.OO}{ks:List Int},Nd ElI l ks->RQ (l.map (·.2)) ks
 | _,_,.nil=>.nil
 | _,_,.cons ⟨_,t,e⟩ r=>by
  rw[N7,e];exact .cons _ _ (oX r)
theorem AC (p:vs.Perm us):∀{ks:List Int},RQ us ks->∃OX,RQ vs OX/\OX.Perm ks:=by
 induction p with
 | nil=>intro ks h;cases h;exact⟨[],.nil,.nil⟩
 | cons x _ ih=>
  intro ks h;cases h with
  | cons n tk r=>
   obtain⟨k',a,b⟩:=ih r;exact⟨_,.cons _ _ a,b.cons _⟩
 | swap x y l=>
  intro ks h;cases h with
  | cons n tk r=>
   cases r with
   | cons n' UA r=>exact⟨_,.cons _ _ (.cons _ _ r),.swap _ _ _⟩
 | trans _ _ ih1 ih2=>
  intro ks h;obtain⟨k1,a1,b1⟩:=ih2 h;obtain⟨k2,a2,b2⟩:=ih1 a1;exact⟨k2,a2,b2.trans b1⟩
theorem yB (hh:A.handled=none)(S:OC s.heap a o es ep t ks)(l:t.led=bP w)(hn:ks.length<64)(h:∀h' tk l (out:Array D') (OQ:List Int) c,(∀b o,s.heap.get? b=some o->h'.get? b=some o)->s.heap.objs.size<=l->h'.get? l=some (NX "list" out c)->RQ out.toList OQ->OQ.Perm ks->OQ.Pairwise (·<=·)->Q (.ref l) { s with heap:=h',toks:=tk }):
  M3 (M8 prog w) A (call (.builtin "sorted") [.ref a]) Q E s:=by
 have len:=S.len;refine abX kind_sorted plain_sorted entry_sorted (args_sorted1 _) ?_;unfold P4.«sorted»;refine MW (m:=checkCount "sorted" 1 1 _) (M1 (MW (v8 (by simp[hh]) (S.wk l) (by lia) λh1 tk vs k1 lt pm=>MW (Xo ?_ (by rw[NU,pm.length_eq,NT,Pe];lia)))));obtain⟨ns,hI,pn⟩:=AC pm (oX S.el);have vl:vs.length=es.size:=by rw[pm.length_eq,NT,Pe]
 have hL:(h1.push (NX "list" vs.toArray 0)).get? h1.objs.size=some (NX "list" vs.toArray 0):=OH _ rfl;refine MW (PN (RK abS ⟨_,hL,rfl⟩ abQ (list_sort_tree (s:={ s with heap:=h1.push (NX "list" vs.toArray 0),toks:=tk }) hL hI (by lia) λout OQ a1 a2 a3=>⟨_,rfl,M1 ⟨_,rfl,?_⟩⟩) (acP _)));obtain⟨e1,o1⟩:∃e1,((h1.push (NX "list" vs.toArray 0)).update h1.objs.size (PP λ_=>#[])).get? h1.objs.size=some (NX "list" #[] e1):=⟨_,aaG hL _⟩
 have o2:((((h1.push (NX "list" vs.toArray 0)).update h1.objs.size (PP λ_=>#[])).push (NX "tuple" vs.toArray 0)).push (NX "list" #[] 0)).get? h1.objs.size=some (NX "list" #[] e1):=NK _ (NK _ o1);refine h _ _ h1.objs.size out OQ _ (λb o e=>?_) lt (aaG o2 _) a1 (a2.trans pn) a3;have ne:b≠h1.objs.size:=N0 (NC (k1 b o e));exact(WZ _ _ (N1 ne)).trans (NK _ (NK _ ((WZ _ _ (N1 ne)).trans (NK _ (k1 b o e)))))
end
def vc (w:M7)(a:A')(m:Bool)(ks:List Int)(h:M4):Prop:=∃o es ep t,OC h a o es ep t ks/\t.led=bP w/\(m=true->t.mask=7)
def gw (w:M7)(a:A')(m:Bool)(ks:List Int):HO:=.ext (vc w a m ks)
theorem xg (x:vc w a m ks h):bz P w H h a (gw w a m ks):=by
 refine⟨x,?_,λh1 h2 ⟨o,es,ep,t,S,r⟩ k=>⟨o,es,ep,t,S.keep k,r⟩⟩;obtain⟨o,_,_,_,S,_⟩:=x;exact⟨o,S.ob⟩
section
theorem rO:cK X (.type "set") (λxs H Q=>∃p l,xs=[.ref p]/\H p=some (.dK (Oz l))/\l.length<=4/\∀q ks,H q=none->ks.Nodup->(∀x,x∈ks↔x∈l.map (·.1))->Q (.ref q) (upd H q (gw X.w q true ks))):=by
 intro aa s σ H xs us Q I r h;obtain⟨p,l,rfl,hp,NH,q⟩:=h;obtain⟨u,rfl,ru⟩:=dm r;cases ru;obtain⟨z,hd,vs,rel,o,es,ep,h1,h2,h3,h4,h5,h6⟩:=jU I.Nf hp;obtain⟨xs,x1,x2,x3⟩:=nB (P:=X.prog) (w:=X.w) rel h5 λe he=>h4 e (aam.mp he);have keys:∀{l:List (Int×Int)}{xs:List (SK×D'×D')},Ys (RG l) xs->Nd (λ(e:O4) k=>e.hash=hashInt k/\∃t,e.key=.int k t) (xs.map λx=>(⟨mj x.1,x.2.1,x.2.2⟩:O4)) (l.map (·.1)):=by
  intro l
  induction l with
  | nil=>intro xs p;rw[show RG []=[] from rfl] at p;cases p;exact .nil
  | cons a l ih=>
   intro xs p;rw[show RG (a::l)=(.inl a.1,.int a.1,a.2)::RG l from rfl] at p;cases p with
   | @cons _ b _ bs r1 r2=>
    obtain⟨e1,⟨tk,e2⟩,_⟩:=r1;refine .cons ⟨?_,tk,e2⟩ (ih r2);show mj b.1=_;rw[<-e1];rfl
 have nd:(l.map (·.1)).Nodup:=by
  have e:vs.map (·.1)=(l.map λp=>O5 p.1):=by
   have:∀{l:List (Int×Int)}{vs:List (Key×D')},KV (Oz l) vs->vs.map (·.1)=l.map λp=>O5 p.1:=by
    intro l
    induction l with
    | nil=>intro vs r;rw[show Oz []=[] from rfl] at r;cases r;rfl
    | cons p l ih=>
     intro vs r;rw[show Oz (p::l)=(.inl p.1,.int p.2)::Oz l from rfl] at r;cases r with
     | cons r1 r2=>rw[N7,ih r2,N7,<-r1.1]
   exact this rel
  rw[e] at h6;unfold Xw at h6 ⊢;rw[Sx] at h6 ⊢;exact h6.imp λh q=>h (by rw[q])
 refine wa hd h1 h2 h3 (by rw[x2];exact keys x1) nd (by rw[NT];exact NH) λh' tk k ⟨o',Pj,Q0,t',ks,S,hl,hm,mem⟩=>?_;exact⟨.ref s.heap.objs.size,_,I.laid (o:=gw X.w s.heap.objs.size true ks) k (Nl _) (xg ⟨o',Pj,Q0,t',S,hl,λ_=>hm⟩),rfl,q _ ks (I.Nf.fresh (Nl _)) S.nd mem⟩
theorem pZ {σ:St}(I:Inv X aa σ H s)(e:H a=some (gw X.w a m ks)):vc X.w a m ks s.heap:=
 (show bz X.prog X.w H s.heap a (gw X.w a m ks) from I.Nf a _ e).1
theorem FW:N4 X (binaryOp .BitOr) (λx y H Q=>∃a b ka kb,x=.ref a/\y=.ref b/\a≠b/\H a=some (gw X.w a true ka)/\H b=some (gw X.w b true kb)/\(∀x,x∈ka\/x∈kb->0<=x/\x<4)/\∀q ks,H q=none->ks.Nodup->(∀x,x∈ks↔x∈ka\/x∈kb)->Q (.ref q) (upd H q (gw X.w q false ks))):=by
 intro aa s σ H x y v u Q I rx ry h;obtain⟨a,b,ka,kb,rfl,rfl,ne,ha,hb,small,q⟩:=h;cases rx;cases ry;obtain⟨o1,Wu,Wv,t1,S1,l1,m1⟩:=pZ I ha;obtain⟨o2,Qk,Qx,t2,S2,l2,m2⟩:=pZ I hb;refine or_int S1 S2 ne (m1 rfl) (m2 rfl) l1 l2 small λh' k ⟨o',Pj,Q0,t',ks,S,hl,mem⟩=>?_;exact⟨.ref s.heap.objs.size,_,I.laid (t':=s.toks) (o:=gw X.w s.heap.objs.size false ks) k (Nl _) (xg ⟨o',Pj,Q0,t',S,hl,λz=>by cases z⟩),rfl,q _ ks (I.Nf.fresh (Nl _)) S.nd mem⟩
theorem vd (hc:X.calm=true):cK X (.builtin "sorted") (λxs H Q=>∃p m ks,xs=[.ref p]/\H p=some (gw X.w p m ks)/\ks.length<64/\∀(l:A') (OQ:List Int),H l=none->OQ.Perm ks->OQ.Pairwise (·<=·)->Q (.ref l) (upd H l (.lst (OQ.map V.int)))):=by
 intro aa s σ H xs us Q I r h;obtain⟨p,m,ks,rfl,hp,NH,q⟩:=h;obtain⟨u,rfl,ru⟩:=dm r;cases ru;obtain⟨o,es,ep,t,S,hl,_⟩:=pZ I hp;refine yB (I.ok.hd hc) S hl NH λh' tk l out OQ c k le e1 a1 a2 a3=>?_;have hv:aL (OQ.map V.int) out.toList:=iP a1;have hlen:=a2.length_eq;exact⟨.ref l,_,I.laid (o:=.lst (OQ.map V.int)) k le ⟨by rw[NT,NU];lia,out.toList,c,hv,by simpa [NX] using e1⟩,rfl,q l OQ (I.Nf.fresh le) a2 a3⟩
end
theorem AD:typeLookup (.type "tuple") "keys"=pure none:=by rw[Ze,Y1];kernel_rfl
section
theorem AE (hx:s.heap.get? a=some { cls:=.type "tuple",dict:=none,data:=.seq xs k,slots:=sl })(hA:A.handled=none)(h:∀h' tk,(∀b o,s.heap.get? b=some o->h'.get? b=some o)->Q none { s with heap:=h',toks:=tk }):M3 (M8 prog w) A (getAttr? (.ref a) "keys") Q E s:=by
 obtain⟨hp,g,d,tk,os⟩:=s;have hT:∀UA,(⟨hp,g,d,UA,os⟩:J').TypeIs (.ref a) "tuple":=λ_=>⟨_,hx,rfl⟩
 have f1:=sub_AttributeError;have f3:=abP.lookup;have f4:=abP.bind (.ref a);have f5:=am_tuple_getattr_none;unfold getAttr? getAttrBy? getAttrBy
 repeat (any_goals (first|assumption|exact hT _|((with_reducible show M3 _ _ (call (VU "tuple.__getattribute__") _ _) _ _ _);refine Xv abP (hT _) am_entry_tuple_getattribute (PySem.F.args_tuple_getattribute_2 _ _) (meets_getattribute_miss_tuple a xs k sl "keys" _ AD (by decide +kernel) (by decide +kernel)) ⟨hx,hA,λh' UA e Us=>?_⟩)|wp_step))
 obtain⟨t',u',he⟩:=Us.there;have hE:(⟨h',g,d,UA,os⟩:J').TypeIs (.ref e) "AttributeError":=⟨_,he,rfl⟩
 show M3 _ _ (getattributeRaised _ _ _ _ _ _ _) _ _ _;unfold getattributeRaised
 repeat (any_goals (first|assumption|wp_step))
 exact h h' UA Us.keeps
theorem i3:entryFor table "dict.update.loop"=some P4.«dict.update.loop»:=entryFor_of_tree (by kernel_rfl)
theorem eI:plainId "dict.update.loop"=true:=by decide +kernel
def km (h:M4)(v:D')(p:Int×Int):Prop:=∃b t u,v=.ref b/\h.IsTuple b #[.int p.1 t,.int p.2 u]
theorem km.keep (x:km h v p)(k:∀b o,o.cls=.type "tuple"->h.get? b=some o->h'.get? b=some o):km h' v p:=by
 obtain⟨b,t,u,rfl,o,e,c,n,d⟩:=x;exact⟨b,t,u,rfl,o,k _ _ c e,c,n,d⟩
theorem ve {kvs:List (Key×D')}(h:k∉kvs.map (·.1)):stored kvs k v=kvs++[(k,v)]:=by
 unfold stored;rw[M0];intro z;obtain⟨kv,h1,h2⟩:=List.any_eq_true.mp z;exact h (NR.mpr ⟨kv,h1,by simpa using h2⟩)
theorem AF (hh:A.in1.handled=none)(hI:I≠t)(hDI:D≠I)(hDt:D≠t)(p:Nd (km h0) items.toList l)(nd:(l.map (·.1)).Nodup)(NH:l.length<=100):
  ∀(n i:Nat) (s:J') (tk0:Tok),items.size-i=n->i<=items.size->(s.heap.IsTupleIter I t i/\s.heap.IsTuple t items)->(∀b o,b≠D->b≠I->h0.get? b=some o->s.heap.get? b=some o)->(∀b o,h0.get? b=some o->b≠D/\b≠I)->
   (∃kvs,KV (Oz (l.take i)) kvs/\s.heap.DictOf (bg prog w) D kvs)->
   (∀h' tk,(∀b o,b≠D->b≠I->s.heap.get? b=some o->h'.get? b=some o)->(∃kvs,KV (Oz l) kvs/\h'.DictOf (bg prog w) D kvs)->R (.ok (.ret .none)) { s with heap:=h',toks:=tk })->
   codeAny (M8 prog w) A (.builtin "dict.update.loop" ⟨[.ref D,.ref I,.int i tk0,.none],[]⟩) R s:=by
 have W:=Walks.tuple (prog:=prog) (w:=w) hh I t (N1 hI) items;have kl:items.size=l.length:=by rw[<-Pe];exact p.length
 intro n
 induction n with
 | zero=>
  intro i s tk0 hd hi st kp nw F h;obtain rfl:i=items.size:=by lia
  refine SB i3 ?_;rw[VI eI _];show M3 _ A.in1 (pyNext (.ref I) >>= _) _ _ s;refine MW (W.done s _ _ st λh' tk k1=>?_);have up:∀b o,b≠I->s.heap.get? b=some o->h'.get? b=some o:=λb o hb e=>k1 b o (by simpa using hb) e;show M3 _ A.in1 (P4.Dict.addKeywords D [] >>= λ_=>ret T7) _ _ _;refine MW (M1 (M1 (h h' tk (λb o _ hb e=>up b o hb e) ?_)));obtain⟨kvs,r,o,es,ep,e1,e2⟩:=F;rw[kl,Rf] at r;exact⟨kvs,r,o,es,ep,up _ _ hDI e1,e2⟩
 | succ n ih=>
  intro i s tk0 hd hi st kp nw F h;have N9:i<items.size:=by lia
  refine SB i3 ?_;rw[VI eI _];show M3 _ A.in1 (pyNext (.ref I) >>= _) _ _ s;refine MW (W.item i s _ _ N9 st λv h1 tk hv st1 k1=>?_);have up:∀b o,b≠I->s.heap.get? b=some o->h1.get? b=some o:=λb o hb e=>k1 b o (by simpa using hb) e;obtain⟨q,hq,pr⟩:=cy (i:=i) (a:=v) p (by rw[S7];exact hv);have pr1:km h1 v q:=pr.keep λb' o' _ z=>up b' o' (nw b' o' z).2 (kp b' o' (nw b' o' z).1 (nw b' o' z).2 z);obtain⟨b,t1,t2,rfl,ob,Sn,hcb,nb,Q1⟩:=pr1;obtain⟨kvs,r,o,es,ep,e1,e2⟩:=F;have D1:h1.DictOf (bg prog w) D kvs:=⟨o,es,ep,up _ _ hDI e1,e2⟩
  have hT:Xp { s with heap:=h1,toks:=tk } (.ref b) "tuple":=⟨ob,Sn,hcb⟩
  dsimp only;refine MW (PN ?_);refine MW (wpAny_tryCatch ?_);unfold P4.Dict.pairItems;refine MW (VY hT ?_);rw[M6 (by decide)];refine MW (aaM (s:={ s with heap:=h1,toks:=tk }) Sn Q1 (M1 ?_));show M3 _ A.in1 (holding [O0 q.1 t1,O0 q.2 t2] (dictSet D (O0 q.1 t1) (O0 q.2 t2))) _ _ _;have kvl:kvs.length=(l.take i).length:=by have:=VS r;rw[NT] at this;exact this.symm
  have fresh:(O5 q.1:Key)∉kvs.map (·.1):=λz=>by
   have e:∀{l:List (Int×Int)}{vs:List (Key×D')},KV (Oz l) vs->vs.map (·.1)=l.map λp=>O5 p.1:=by
    intro l
    induction l with
    | nil=>intro vs r;rw[show Oz []=[] from rfl] at r;cases r;rfl
    | cons p l ih=>
     intro vs r;rw[show Oz (p::l)=(.inl p.1,.int p.2)::Oz l from rfl] at r;cases r with
     | cons r1 r2=>rw[N7,ih r2,N7,<-r1.1]
   rw[e r] at z;obtain⟨x,hx,ex⟩:=NR.mp z;obtain⟨j,hj⟩:=UK.mp hx;have jl:j<i:=by
    have:=(OA.mp hj).1;rw[Qb] at this;lia
   rw[abZ jl] at hj;have a1:(l.map (·.1))[j]?=some q.1:=by rw[Pa,hj];injection ex with ex;rw[<-ex];rfl
   have a2:(l.map (·.1))[i]?=some q.1:=by rw[Pa,hq];rfl
   have:=(acw (OA.mp a1).1 nd).mp (a1.trans a2.symm);lia
  refine PN (wpAny_dictSet_pairs (s:={ s with heap:=h1,toks:=tk }) (knd:=bg prog w) (k:=.inl q.1) (qv q.1 t1) D1 (λh2 D2 sb=>?_) (by rw[kvl,Qb,NU];lia));rw[ve fresh] at D2;have nI:∀b o,b≠D->h1.get? b=some o->h2.get? b=some o:=λb o hb e=>(sb.2 b hb).trans e;refine M1 ⟨Zn eI _,ih (i+1) { s with heap:=h2,toks:=tk+1 } 0 (by lia) N9 ?_ (λb' o' z1 z2 z=>nI b' o' z1 (up b' o' z2 (kp b' o' z1 z2 z))) nw ⟨_,?_,D2⟩ λh' UA k' F'=>h h' UA (λb' o' z1 z2 z=>k' b' o' z1 z2 (nI b' o' z1 (up b' o' z2 z))) F'⟩
  .exact W.frame (i+1) h1 h2 st1 λb' Yn o' z=>nI b' o' (by
    simp only[NG,Pf,or_false] at Yn;rcases Yn with rfl|rfl
    .exact N1 hDI
    .exact N1 hDt) z
  .have e:l.take (i+1)=l.take i++[q]:=by rw[Ta,hq];rfl
   rw[e];show KV (Oz (l.take i++[q])) _;rw[show Oz (l.take i++[q])=Oz (l.take i)++[(.inl q.1,.int q.2)] from by simp[Oz]];exact de r (.cons ⟨rfl,t2,rfl⟩ .nil)
theorem su (hh:A.handled=none)(ht:fh s.heap t items)(p:Nd (km s.heap) items.toList l)(nd:(l.map (·.1)).Nodup)(NH:l.length<=100)(h:∀h' tk,(∀b o,s.heap.get? b=some o->h'.get? b=some o)->(∃kvs,KV (Oz l) kvs/\h'.DictOf (bg prog w) s.heap.objs.size kvs)->Q (.ref s.heap.objs.size) { s with heap:=h',toks:=tk }):M3 (M8 prog w) A (call (.type "dict") [.ref t]) Q E s:=by
 refine callType_codes (Q₁:=λobj Nw=>obj=.ref s.heap.objs.size/\Nw={ s with heap:=s.heap.push { cls:=.type "dict",data:=.dict #[] } }) PySem.F.kt_called_dict (PySem.F.kt_typeCall_dict_1 _) PySem.F.entry_dict_init (kt_code_dict_new _ ⟨rfl,rfl⟩) ?_;rintro obj Nw ⟨rfl,rfl⟩;have XM:(s.heap.push { cls:=.type "dict",data:=.dict #[] }).DictOf (bg prog w) s.heap.objs.size []:=ae2 s.heap;refine⟨XM.typeIs,PySem.F.args_dict_init_2 _ _,?_⟩;unfold P4.«dict.__init__»;refine MW ?_;unfold P4.Dict.selfAndRest;refine MW (wpAny_notOrdered_dict XM.typeIs ?_);show M3 _ _ (pure (s.heap.objs.size,[NQ t])) _ _ _;refine M1 ?_;show M3 _ _ (aep "dict.__init__" s.heap.objs.size (.ref t) [] .none) _ _ _;unfold aep;obtain⟨⟨oc,od,odt,Qi⟩,ho,c1,n,c2,c3⟩:=ht;dsimp only at c1 c2 c3;subst c1 c2 c3;have Ty:(s.heap.push { cls:=.type "dict",data:=.dict #[] }).get? t=some { cls:=.type "tuple",dict:=none,data:=.seq items n,slots:=Qi }:=NK _ ho;have lt:t<s.heap.objs.size:=NC ho;refine MW (VY (T:="tuple") ⟨_,Ty,rfl⟩ ?_);dsimp only;rw[M6 (by decide)];refine MW (AE (s:={ s with heap:=s.heap.push { cls:=.type "dict",data:=.dict #[] } }) Ty (by simp[hh]) λh1 tk1 k1=>?_);simp only[Option.isNone_none,if_true];have UB:h1.IsTuple t items:=⟨_,k1 _ _ Ty,rfl,n,rfl⟩
 have hD:(s.heap.push { cls:=.type "dict",data:=.dict #[] }).get? s.heap.objs.size=some { cls:=.type "dict",data:=.dict #[] }:=OH _ rfl;have χ:s.heap.objs.size<h1.objs.size:=NC (k1 _ _ hD);refine MW (Qt (MW (wpAny_pyIter_tuple (s:={ s with heap:=h1,toks:=tk1 }) UB ?_)));have up:∀b o,s.heap.get? b=some o->(h1.push { cls:=.type "tuple_iterator",data:=.fields #[.ref t,.int 0 0] }).get? b=some o:=λb o e=>NK _ (k1 b o (NK _ e));refine M1 ⟨Zn eI _,AF (h0:=s.heap) (D:=s.heap.objs.size) (I:=h1.objs.size) (t:=t) (items:=items) (l:=l) (by simp[hh]) (Te (Zp lt χ)) (N0 χ) (Te lt) p nd NH (items.size-0) 0 _ 0 rfl (Ow _)
  ⟨⟨_,OH _ rfl,rfl,rfl⟩,UB.push _⟩ (λb o _ _ e=>up b o e) (λb o e=>⟨N0 (NC e),N0 (Zp (NC e) χ)⟩) ⟨[],.nil,?_⟩ λh' tk k' F=>⟨rfl,h h' tk (λb o e=>k' b o (N0 (NC e)) (N0 (Zp (NC e) χ)) (up b o e)) F⟩⟩
 obtain⟨o,es,ep,e1,e2⟩:=XM;exact⟨o,es,ep,NK _ (k1 _ _ e1),e2⟩
end
section
theorem Inv.afb {σ:St}(I:Inv X aa σ H s)(h:Ni X.K H a xs):∃MY:List D',aL xs MY/\fh s.heap a MY.toArray/\xs.length<=Nh:=by
 rcases h with h|⟨o,MY,n,hk,hc,hs,hz,r,hd⟩
 .obtain⟨z,MY,r,p⟩:=h.ok I.Nf;exact⟨MY,r,p,z⟩
 .refine⟨MY.toList,r,⟨o,I.Ox a o hk,hc,n,by simpa using hs,hd⟩,?_⟩;have e:=r.length;simp only[Pe] at e;lia
theorem yC (hc:X.calm=true):cK X (.type "dict") (λxs H Q=>∃(p:A') (ys:List V) (l:List (Int×Int)),xs=[.ref p]/\Ni X.K H p ys/\Nd (λy d=>∃a,y=.ref a/\Ni X.K H a [.int d.1,.int d.2]) ys l/\(l.map (·.1)).Nodup/\l.length<=100/\∀q,H q=none->Q (.ref q) (upd H q (.dK (Oz l)))):=by
 intro aa s σ H xs us Q I r h;obtain⟨p,ys,l,rfl,hp,pd,nd,NH,q⟩:=h;obtain⟨u,rfl,ru⟩:=dm r;cases ru;obtain⟨MY,rv,pl,hz⟩:=I.afb hp;have pp:Nd (km s.heap) MY l:=lW (F:=aI) (G:=λy (d:Int×Int)=>∃a,y=V.ref a/\Ni X.K H a [.int d.1,.int d.2]) (λy u d h1 ⟨a,e,h2⟩=>by
  subst e;cases h1;obtain⟨it2,r2,p2,_⟩:=I.tuple h2;cases r2 with
  | cons a1 r2=>
   cases r2 with
   | cons a2 r2=>
    cases r2;obtain⟨t1,rfl⟩:=a1;obtain⟨t2,rfl⟩:=a2;exact⟨a,t1,t2,rfl,p2⟩) rv pd
 refine su (I.ok.hd hc) pl (by simpa using pp) nd NH λh' tk k ⟨kvs,rk,dd⟩=>?_;have hl:(Oz l).length<=Nh:=by rw[NT,NU];lia
 exact⟨.ref s.heap.objs.size,_,I.laid (o:=.dK (Oz l)) k (Nl _) (n8 hl (beq_eq_false_iff_ne.mpr (N1 (N0 I.Wi))) rk dd),rfl,q _ (I.Nf.fresh (Nl _))⟩
end
section
variable {X:Cx}{α:Type} [DecidableEq α]
def CA (k:Dk α)(K:MZ)(neg:Bool):R2:=λx y H Q=>∃b as,k.rep K H x b/\(BI k).rep K H y as/\Q (.bl (if neg then !as.any (λa=>decide (a=b)) else as.any (λa=>decide (a=b)))) H
theorem AG (k:Dk α)(hu:X.A.units+1+k.OT<ND):N4 X (Ps .NotIn) (CA k X.K true):=by
 intro aa s σ H x y v u Q I rx ry h;obtain⟨b,as,hb,⟨p,xs,rfl,hq,hp⟩,q⟩:=h;cases ry;obtain⟨MY,r,pl,hz⟩:=I.tuple hq;obtain⟨h1,h2⟩:=lP k (A:=X.A.in1) I hu rx hb r hp;refine aeH (gO k X.K H b) pl (λw hw=>h1 w (by simpa using hw)) ⟨.bl _,H,I,rfl,?_⟩;rw[show MY.toArray.any (gO k X.K H b)=MY.any (gO k X.K H b) by simp,h2];exact q
end
end L2
namespace Ord
open PySem L2 Mx
abbrev sL:M':=top 33
abbrev mx:M':=top 34
abbrev nC:M':=top 35
theorem Dz:Qc "min"=some (.builtin "min"):=by decide +kernel
theorem FX:Qc "dict"=some (.type "dict"):=by decide +kernel
structure Yy (K)(mg:MV->Option D')(CO):Prop where
 t:Oy K mg CO
 min:mg "min"=none
 dict:mg "dict"=none
section
def vf (K:MZ):Sp:=λvs H Q _=>∃(c:A') (cl:Bk.Cl) (a b:Int),vs=[.ref c,.int a,.int b]/\bS.rep K H (.ref c) (enc cl)/\∀(v:V) (H':Hp),aB H H'->cC K H' v (Bk.eE cl a b)->Q v H'
theorem AH:N3 ["closes","one","other","settled"] ["closes","one","other"] (am sL):=⟨rfl,rfl,rfl,by decide +kernel,rfl,by decide +kernel,by decide +kernel⟩
theorem EG {cl:Bk.Cl}:(enc cl).any (λa=>decide (a=[x,y]))=decide ((x,y)∈cl):=by
 induction cl with
 | nil=>rfl
 | cons p cl ih=>
  rw[show enc (p::cl)=[p.1,p.2]::enc cl from rfl,Td,ih];obtain⟨a,b⟩:=p
  by_cases h:a=x/\b=y
  .obtain⟨rfl,rfl⟩:=h;simp
  .have h1:¬[a,b]=[x,y]:=λe=>h (by injection e with e1 e2;injection e2 with e2 _;exact⟨e1,e2⟩);have h2:¬(x,y)=(a,b):=λe=>h (by injection e with e1 e2;exact⟨e1.symm,e2.symm⟩);simp[h1,h2]
theorem xh (a:Int):(if (1:Int)<a then (1:Int) else a)=min a 1:=by
 by_cases h:1<a
 .rw[M6 h,acC (by lia)]
 .rw[M0 h,acL (by lia)]
theorem xm (F:NE K "meet" "meet" sL f fd)(T:Yy K mg CO):Nq P w K mg base Nb 1 f fd ["closes","one","other"] (vf K):=by
 refine F.ok AH (λvs H Q E h=>?_) (λNo A outer s H vs Q E hr h=>?_)
 .obtain⟨c,cl,a,b,rfl,_⟩:=h;rfl
 obtain⟨c,cl,a,b,rfl,rc,z⟩:=h;obtain⟨t0,m0⟩:=T.t.no;obtain⟨t1,m1⟩:=T.t.en;have hu:(A.deeper (S8 "meet" (am sL) s.heap.objs.size f No)).units+1+aK.OT<ND:=by have:=hr.un;show(A.deeper _).units+1+1<ND;lia
 refine⟨_,ad (aV (i:=3) AH.nd rfl (by first|exact NB rfl|exact N' rfl) (IP (cg iM (pv 1) (aM (v:=.int 1) rfl m1 ⟨t1,rfl⟩) (aw _)) (kF (cg iM (pv 2) (aM (v:=.int 1) rfl m1 ⟨t1,rfl⟩) (aw _)))))
  (ad (aD (PW.pt (ji (mV (pv 3) (λ_=>rfl)) (gX (ar (show N4 _ _ (CA aK K true) from AG aK hu) (bI (ac (aQ (qz rfl) rfl T.min Dz (ac (pv 1) (ac (aM (v:=.int 1) rfl m1 ⟨t1,rfl⟩) ae))) (ac (aQ (qz rfl) rfl T.min Dz (ac (pv 2) (ac (aM (v:=.int 1) rfl m1 ⟨t1,rfl⟩) ae))) ae))) (pv 0) rfl)))) (af (aH (aM (v:=.int 0) rfl m0 ⟨t0,rfl⟩))) au)
  (ad (aD (PW.pt (ji (ar iM (pv 1) (aM (v:=.int 1) rfl m1 ⟨t1,rfl⟩) (aw _)) (gX (ar iM (pv 2) (aM (v:=.int 1) rfl m1 ⟨t1,rfl⟩) (aw _))))) (af (aH (aM (v:=.int 1) rfl m1 ⟨t1,rfl⟩))) au)
  (af (aH (bI (ac (pv 1) (ac (pv 2) ae))))))),?_⟩
 have last:∀(H1:Hp) (v3:Option V),aB H H1->¬((a<=1\/b<=1)/\(min a 1,min b 1)∉cl)->xG (xH (xF (jN (Tu (RE λi j=>V.bl (decide (i<=j))) (dL 1) (tC (V.int 1)))) (jN (Tu (RE λi j=>V.bl (decide (i<=j))) (dL 2) (tC (V.int 1))))) (mU (tC (V.int 1))) sx) (mU (ti (dX (dL 1) (dX (dL 2) jP)))) { nx:=λx H'=>Q V.Nr H',rt:=Q } [some (.ref c),some (.int a),some (.int b),v3] H1:=by
  intro H1 v3 s1 nc;refine⟨_,rfl,a,1,rfl,rfl,_,rfl,?_⟩;have two:¬(a<=1/\b<=1)->mU (ti (dX (dL 1) (dX (dL 2) jP))) { nx:=λx H'=>Q V.Nr H',rt:=Q } [some (.ref c),some (.int a),some (.int b),v3] H1:=λnb=>by
   refine⟨_,rfl,_,rfl,by show 2<=Nh;decide,λp hp=>?_⟩;refine z _ _ (s1.trans (ak hp _)) ?_;unfold Bk.eE;rw[M0 nc,M0 nb];exact cr (o:=[a,b]) Ni.up
  by_cases ha:a<=1
  .rw[Nz ha];refine aZ ⟨_,rfl,b,1,rfl,rfl,_,rfl,?_⟩
   by_cases hb:b<=1
   .rw[Nz hb];refine aZ (z _ _ s1 ?_);unfold Bk.eE;rw[M0 nc,M6 ⟨ha,hb⟩];rfl
   .rw[Ny hb];exact aA (two λh=>hb h.2)
  .rw[Ny ha];exact aA (aA (two λh=>ha h.1))
 have rest:∀st:Bool,st=decide (a<=1\/b<=1)->xG (xH (xF (λσ H_1 Q=>dL 3 σ H_1 λx H'=>∃k,Br K x H' k/\Q k H') (jN (Tu (CA aK K true) (ti (dX (Z2 (λxs H Q=>∃i j,xs=[V.int i,V.int j]/\Q (V.int (if j<i then j else i)) H) (dX (dL 1) (dX (tC (V.int 1)) jP))) (dX (Z2 (λxs H Q=>∃i j,xs=[V.int i,V.int j]/\Q (V.int (if j<i then j else i)) H) (dX (dL 2) (dX (tC (V.int 1)) jP))) jP))) (dL 0)))) (mU (tC (V.int 0))) sx)
   (xG (xH (xF (jN (Tu (RE λi j=>V.bl (decide (i<=j))) (dL 1) (tC (V.int 1)))) (jN (Tu (RE λi j=>V.bl (decide (i<=j))) (dL 2) (tC (V.int 1))))) (mU (tC (V.int 1))) sx) (mU (ti (dX (dL 1) (dX (dL 2) jP))))) { nx:=λx H'=>Q V.Nr H',rt:=Q } [some (.ref c),some (.int a),some (.int b),some (.bl st)] H:=by
  intro st Ui;refine⟨_,rfl,st,rfl,?_⟩;cases st with
  | false=>
   have nc:¬(a<=1\/b<=1):=of_decide_eq_false Ui.symm;exact aA (aA (last H _ (aB.refl H) λh=>nc h.1))
  | true=>
   have hc:a<=1\/b<=1:=TY Ui.symm;refine aZ ⟨_,rfl,a,1,rfl,_,rfl,b,1,rfl,by show 2<=Nh;decide,λp hp=>?_⟩;have s1:=ak hp (.tup [V.int (if (1:Int)<a then 1 else a),V.int (if (1:Int)<b then 1 else b)]);refine⟨_,rfl,[if (1:Int)<a then 1 else a,if (1:Int)<b then 1 else b],enc cl,cr (o:=[if (1:Int)<a then 1 else a,if (1:Int)<b then 1 else b]) Ni.up,bS.mono s1 rc,_,rfl,?_⟩;rw[xh,xh] at s1 ⊢;rw[M6 rfl,EG]
   by_cases hm:(min a 1,min b 1)∈cl
   .rw[Nz hm];exact aA (last _ _ s1 λh=>h.2 hm)
   .rw[Ny hm];refine aZ (z _ _ s1 ?_);unfold Bk.eE;rw[M6 ⟨hc,hm⟩];rfl
 refine⟨_,rfl,a,1,rfl,rfl,_,rfl,?_⟩
 by_cases ha:a<=1
 .rw[Nz ha];exact aZ (rest true (Nz (.inl ha)).symm)
 .rw[Ny ha];refine aA ⟨_,rfl,b,1,rfl,rfl,rest (decide (b<=1)) ?_⟩
  by_cases hb:b<=1
  .rw[Nz hb,Nz (.inr hb)]
  .rw[Ny hb,Ny (λh=>h.elim ha hb)]
end
end Ord
namespace Bk
theorem AI {a b:List Int}(ha:a.Pairwise (· < ·))(hb:b.Pairwise (· < ·))(h:∀x,x∈a↔x∈b):a=b:=by
 have nd:∀{l:List Int},l.Pairwise (· < ·)->l.Nodup:=λh=>h.imp λh e=>by lia
 have p:a.Perm b:=(aac (nd ha) (nd hb)).mpr h;exact p.eq_of_pairwise (le:=(· < ·)) (λx y _ _ h1 h2=>by lia) ha hb
theorem wb (p:ns.Perm ks)(le:ns.Pairwise (·<=·))(nd:ks.Nodup)(mem:∀x,x∈ks↔x∈r1.map (·.1)\/x∈r2.map (·.1))(s1:∀d∈r1,0<=d.1/\d.1<8)(s2:∀d∈r2,0<=d.1/\d.1<8):ns=gB r1 r2:=by
 have Wl:ns.Nodup:=p.nodup_iff.mpr nd;have lt:ns.Pairwise (· < ·):=by
  have h2:ns.Pairwise (·≠·):=Wl;exact(le.and h2).imp λh=>by lia
 refine AI lt (oO r1 r2) λx=>?_;rw[p.mem_iff,mem,lu,NR,NR];constructor
 .rintro(⟨d,hd,rfl⟩|⟨d,hd,rfl⟩)
  .exact⟨s1 d hd,.inl ⟨d,hd,rfl⟩⟩
  .exact⟨s2 d hd,.inr ⟨d,hd,rfl⟩⟩
 .rintro⟨_,⟨d,hd,e⟩|⟨d,hd,e⟩⟩
  .exact .inl ⟨d,hd,e⟩
  .exact .inr ⟨d,hd,e⟩
end Bk
namespace Ord
open PySem L2 Mx
theorem oY (r:Bk.MX)(t:Int):(cz (Oz r) (.inl t)).getD (.int 0)=.int (Bk.ck r t):=by
 unfold Bk.ck
 induction r with
 | nil=>rfl
 | cons d r ih=>
  rw[show Oz (d::r)=(.inl d.1,.int d.2)::Oz r from rfl]
  by_cases h:d.1=t
  .rw[dY (by rw[h]),aet (by simpa using h)];rfl
  .rw[dZ (λz=>h (Xu z)),VG (by simpa using h)];exact ih
section
def rP (K:MZ):Sp:=λvs H Q _=>∃(l:A') (xs:List V) (rs:List Bk.MX) (k:Int),vs=[.ref l,.int k]/\Nj K H l xs/\Nd (bD K H) xs rs/\(k=0\/(2<=k/\k<(rs.length:Int)+2))/\((Bk.bv rs k).map (·.1)).Nodup/\(Bk.bv rs k).length<=100/\
 ∀(d:A') (H':Hp),aB H H'->H d=none->H' d=some (.dK (Oz (Bk.bv rs k)))->Q (.ref d) H'
theorem AJ:N3 ["rooms","number"] ["rooms","number"] (am nC):=⟨rfl,rfl,rfl,by decide +kernel,rfl,by decide +kernel,by decide +kernel⟩
theorem oZ (F:NE K "doors_by_thing" "doors_by_thing" nC f fd)(T:Yy K mg CO):Nq P w K mg base Nb 1 f fd ["rooms","number"] (rP K):=by
 refine F.ok AJ (λvs H Q E h=>?_) (λNo A outer s H vs Q E hr h=>?_)
 .obtain⟨l,xs,rs,k,rfl,_⟩:=h;rfl
 obtain⟨l,xs,rs,k,rfl,ql,pr,hk,nd,NH,z⟩:=h;obtain⟨t0,m0⟩:=T.t.no;obtain⟨t2,m2⟩:=T.t.low;refine⟨_,ad (aD (ar bf (pv 1) (aM (v:=.int 0) rfl m0 ⟨t0,rfl⟩) (aw _)) (af (aH ub)) au)
  (af (aH (bC (yC rfl) rfl T.dict FX (ac (ay (show Np _ (gM K) from cL) (pv 0) (aO jm (pv 1) (aM (v:=.int 2) rfl m2 ⟨t2,rfl⟩)) (λ_ _=>rfl)) ae)))),?_⟩
 refine⟨_,rfl,rfl,_,rfl,?_⟩
 by_cases k0:k=0
 .subst k0;rw[Nz rfl];exact aZ λd hd=>z d _ (ak hd _) hd al
 .obtain⟨k2,kl⟩:=hk.resolve_left k0;rw[Ny λh=>k0 (V.int.inj h)];refine aA ⟨_,rfl,_,rfl,k,2,rfl,rfl,?_⟩;have kl':(k-2).toNat<rs.length:=by lia
  obtain⟨x,hx,ra⟩:=fU pr (Bk.gI kl');obtain⟨a,ys,rfl,qa,pd⟩:=id ra;have ik:Qj xs (k-2)=some (.ref a):=by
   have:=cG hx;rw[show(((k-2).toNat:Nat):Int)=k-2 by lia] at this;exact this
  have er:Bk.bv rs k=Bk.bj rs k:=by unfold Bk.bv;rw[M0 k0]
  rw[er] at nd NH z;exact⟨l,xs,k-2,.ref a,rfl,rfl,ql,ik,a,ys,Bk.bj rs k,rfl,qa,pd,nd,NH,λq hq=>z q _ (ak hq _) hq al⟩
structure Vv (rs:List Bk.MX)(k:Int):Prop where
 rn:k=0\/(2<=k/\k<(rs.length:Int)+2)
 rise:((Bk.bv rs k).map (·.1)).Pairwise (· < ·)
 small:∀d∈Bk.bv rs k,0<=d.1/\d.1<4
theorem Vv.nd (R:Vv rs k):((Bk.bv rs k).map (·.1)).Nodup:=R.rise.imp λh e=>by lia
theorem Vv.NH (R:Vv rs k):(Bk.bv rs k).length<=4:=by
 have:=pY R.nd λx hx=>by
  obtain⟨d,hd,rfl⟩:=NR.mp hx;exact R.small d hd
 rwa[NT] at this
def iA (K:MZ):Sp:=λvs H Q _=>∃(c l1 l2:A') (RW RX:List V) (Na M9:List Bk.MX) (cl:Bk.Cl) (y:V) (a b:Int),vs=[.ref c,.ref l1,.ref l2,y]/\bS.rep K H (.ref c) (enc cl)/\Nj K H l1 RW/\Nd (bD K H) RW Na/\Nj K H l2 RX/\Nd (bD K H) RX M9/\aK.rep K H y [a,b]/\Vv Na a/\Vv M9 b/\
 ∀(l:A') (ys:List V) (H':Hp),aB H H'->H l=none->H' l=some (.lst ys)->Nd (gK K H') ys (Bk.fZ cl Na M9 a b)->Q (.ref l) H'
abbrev NDp:List MV:=["closes","rooms","others","pair","mine","theirs","found","thing"]
theorem iB:N3 NDp ["closes","rooms","others","pair"] (am mx):=⟨rfl,rfl,rfl,by decide +kernel,rfl,by decide +kernel,by decide +kernel⟩
theorem rQ (F:NE K "doors_of_pair" "doors_of_pair" mx f fd)(T:Yy K mg CO)(WB:Df P w K mg base Nb 1 "doors_by_thing" ["rooms","number"] (rP K))(WM:Df P w K mg base Nb 1 "meet" ["closes","one","other"] (vf K)):
  Nq P w K mg base Nb 2 f fd ["closes","rooms","others","pair"] (iA K):=by
 refine F.ok iB (λvs H Q E h=>?_) (λNo A outer s H vs Q E hr h=>?_)
 .obtain⟨c,l1,l2,RW,RX,Na,M9,cl,y,a,b,rfl,_⟩:=h;rfl
 obtain⟨c,l1,l2,RW,RX,Na,M9,cl,y,a,b,rfl,rc,q1,p1,q2,p2,ry,R1,R2,z⟩:=h;obtain⟨t0,m0⟩:=T.t.no;have hu:(A.deeper (S8 "doors_of_pair" (am mx) s.heap.objs.size f No)).units+1<ND:=by have:=hr.un;show(A.deeper _).units+1<ND;lia
 obtain⟨pa,rfl,qa⟩:=cu ry;refine⟨_,ad (aV (i:=4) iB.nd rfl (by first|exact NB rfl|exact N' rfl) (aE WB hr rfl (az (E:=λ_ _ _ _=>False)) (ac (pv 1) (ac (ay (show Np _ (aU K) from ax) (pv 3) ag (λ_ _=>rfl)) ae))))
  (ad (aV (i:=5) iB.nd rfl (by first|exact NB rfl|exact N' rfl) (aE WB hr rfl (az (E:=λ_ _ _ _=>False)) (ac (pv 2) (ac (ay (show Np _ (aU K) from ax) (pv 3) ag (λ_ _=>rfl)) ae))))
  (ad (aV (i:=6) iB.nd rfl (by first|exact NB rfl|exact N' rfl) (bW ae))
  (ad (dQ RL rfl (cX (aQ (vd rfl) rfl T.t.t.sorted jS (ac (aO FW (bC rO rfl T.t.set yp (ac (pv 4) ae)) (bC rO rfl T.t.set yp (ac (pv 5) ae))) ae)))
    (cJ (i:=7) iB.nd rfl (by first|exact NB rfl|exact N' rfl))
    (af (bE (gR UI VE VF eP (pv 6) (ac (bI (ac (pv 7) (ac (aE WM hr rfl (az (E:=λ_ _ _ _=>False)) (ac (pv 0) (ac (ud hu (pv 4) (pv 7) (aM (v:=.int 0) rfl m0 ⟨t0,rfl⟩) ⟨rfl,rfl,rfl,rfl⟩) (ac (ud hu (pv 5) (pv 7) (aM (v:=.int 0) rfl m0 ⟨t0,rfl⟩) ⟨rfl,rfl,rfl,rfl⟩) ae)))) ae))) ae)))))
  (af (aH (pv 6)))))),?_⟩
 refine⟨_,rfl,_,rfl,pa,_,0,.int a,rfl,rfl,qa,rfl,l1,RW,Na,a,rfl,q1,p1,R1.rn,R1.nd,by have:=R1.NH;lia,λd1 H1 s1 f1 ν=>?_⟩;refine⟨_,rfl,_,rfl,pa,_,1,.int b,rfl,rfl,s1.NM qa,rfl,l2,RX,M9,b,rfl,s1.Po q2,aX (λ_ _ z=>z.same s1) p2,R2.rn,R2.nd,by have:=R2.NH;lia,λd2 H2 s2 f2 hd2=>?_⟩;refine⟨by show 0<=Nh;decide,λg hg=>?_⟩;have s3:=ak hg (.lst []);have ψ:=s1.trans (s2.trans s3);have adK:=s3 _ _ (s2 _ _ ν);have adL:=s3 _ _ hd2;refine⟨_,rfl,d1,_,rfl,adK,R1.NH,λk1 ka fk1 nda abE=>?_⟩;have s4:=ak fk1 (gw w k1 true ka);refine⟨_,rfl,d2,_,rfl,s4 _ _ adL,R2.NH,λk2 kb fk2 ndb abF=>?_⟩;have s5:=ak fk2 (gw w k2 true kb);refine⟨k1,k2,ka,kb,rfl,rfl,av al fk2,s5 _ _ al,al,λx hx=>?_,λk3 kc fk3 ndc adM=>?_⟩
 .rcases hx with hx|hx
  .obtain⟨d,hd,rfl⟩:=NR.mp ((abE x).mp hx);exact R1.small d hd
  .obtain⟨d,hd,rfl⟩:=NR.mp ((abF x).mp hx);exact R2.small d hd
 have s6:=ak fk3 (gw w k3 false kc);have kc4:kc.length<=4:=pY ndc λx hx=>by
  rcases(adM x).mp hx with hx|hx
  .obtain⟨d,hd,rfl⟩:=NR.mp ((abE x).mp hx);exact R1.small d hd
  .obtain⟨d,hd,rfl⟩:=NR.mp ((abF x).mp hx);exact R2.small d hd
 refine⟨k3,false,kc,rfl,al,by lia,λsl ns fsl pns afS=>?_⟩;have s7:=ak fsl (.lst (ns.map V.int));have en:=Bk.wb (r1:=Bk.bv Na a) (r2:=Bk.bv M9 b) pns afS ndc (λx=>by rw[adM,abE,abF]) (λd hd=>by have:=R1.small d hd;lia) (λd hd=>by have:=R2.small d hd;lia);have nl:ns.length<=4:=by rw[pns.length_eq];exact kc4
 subst en;have Tr:=s4.trans (s5.trans (s6.trans s7));have Wy:=ψ.trans Tr;have nsg:sl≠g:=N1 (av ((s4.trans (s5.trans s6)) _ _ (al (H:=H2) (a:=g) (o:=.lst []))) fsl);have g7:=Tr _ _ (al (H:=H2) (a:=g) (o:=.lst []));have gH:H g=none:=(s1.trans s2).free hg;refine⟨sl,rfl,⟨_,Nj.up⟩,fu (K:=K) (a:=sl) (xs:=(Bk.gB (Bk.bv Na a) (Bk.bv M9 b)).map V.int) (λi σ H8=>∃v7 ys,σ=[some (.ref c),some (.ref l1),some (.ref l2),some (.ref pa),some (.ref d1),some (.ref d2),some (.ref g),v7]/\aB H H8/\H8 d1=some (.dK (Oz (Bk.bv Na a)))/\H8 d2=some (.dK (Oz (Bk.bv M9 b)))/\H8 sl=some (.lst ((Bk.gB (Bk.bv Na a) (Bk.bv M9 b)).map V.int))/\H8 g=some (.lst ys)/\Nd (gK K H8) ys ((Bk.fZ cl Na M9 a b).take i))
  ⟨none,[],rfl,Wy,Tr _ _ adK,Tr _ _ adL,al,g7,.nil⟩ ?_ ?_ ?_⟩
 .rintro i σ H8 _ ⟨v7,ys,rfl,_,_,_,hsl,_⟩;exact Nj.of hsl
 .rintro i x σ H8 hx ⟨v7,ys,rfl,s8,e1,e2,esl,eg,Yz⟩;rw[Pa] at hx;obtain⟨t,ht,rfl⟩:=TV.mp hx;have hpd:(Bk.fZ cl Na M9 a b)[i]?=some (t,Bk.eE cl (Bk.ck (Bk.bv Na a) t) (Bk.ck (Bk.bv M9 b) t)):=by
   unfold Bk.fZ;rw[Pa,ht];rfl
  have il:=(OA.mp ht).1;refine⟨_,rfl,.inl ⟨rfl,_,.inl (.inl eg)⟩,_,rfl,_,rfl,_,rfl,d1,rfl,.inl ⟨_,.inl e1⟩,_,rfl,_,.inl ⟨_,.inl t,.inl e1,rfl,rfl⟩,_,rfl,d2,rfl,.inl ⟨_,.inl e2⟩,_,rfl,_,.inl ⟨_,.inl t,.inl e2,rfl,rfl⟩,?_⟩;rw[oY,oY];refine⟨c,cl,_,_,rfl,bS.mono s8 rc,λv H9 s9 rv=>?_⟩;refine⟨by show 2<=Nh;decide,λtq SR=>?_⟩;have Ql:=ak SR (.tup [V.int t,v]);have eg9:=Ql _ _ (s9 _ _ eg);have yl:ys.length<=i:=by
   have:=Yz.length;rw[Qb] at this;lia
  refine⟨g,ys,.ref tq,rfl,rfl,eg9,by rw[NU];lia,_,ys++[.ref tq],rfl,λb' o' e'=>?_,?_,?_,?_,al,?_⟩
  .rw[aq (av e' gH)];exact Ql _ _ (s9 _ _ (s8 _ _ e'))
  .rw[aq (iK e1 eg (by intro h;cases h))];exact Ql _ _ (s9 _ _ e1)
  .rw[aq (iK e2 eg (by intro h;cases h))];exact Ql _ _ (s9 _ _ e2)
  .rw[aq nsg];exact Ql _ _ (s9 _ _ esl)
  .have SS:bp [g] (upd H9 tq (.tup [V.int t,v])) (upd (upd H9 tq (.tup [V.int t,v])) g (.lst (ys++[.ref tq]))):=λb' o' hb e=>by
    rw[aq (λz=>hb (by simp[z]))];exact e
   have so:dh (upd H9 tq (.tup [V.int t,v])) [g]:=λa' ha=>by
    obtain rfl:a'=g:=by simpa using ha
    exact⟨_,eg9,trivial⟩
   rw[cx hpd];refine de (aX (λ_ _ z=>?_) Yz) (.cons ⟨tq,v,rfl,SS.Pb so Ni.up,SS.sk so (rv.mono Ql)⟩ .nil);obtain⟨p',lv',e',q',r'⟩:=z.same (s9.trans Ql);exact⟨p',lv',e',SS.Pb so q',SS.sk so r'⟩
 .rintro σ H8 ⟨v7,ys,rfl,s8,e1,e2,esl,eg,Yz⟩;have pl:(Bk.fZ cl Na M9 a b).length=(Bk.gB (Bk.bv Na a) (Bk.bv M9 b)).length:=by unfold Bk.fZ;rw[NT]
  rw[NT,<-pl,Rf] at Yz;exact⟨_,rfl,z g ys H8 s8 gH eg Yz⟩
end
end Ord
namespace L2
open PySem PySem.Spec PyProof.Rows
def ko (oc:G')(qual:MV):Prop:=∃vs t,oc.data=.fields vs/\vs[1]?=some (.str qual t)
def eG (H:Hp)(Pt:A')(pos:NS)(qual:MV):Prop:=∃ps,H Pt=some (.PR ps)/\TriplesOk ps.toList/\
 (codeAmong pos ps.toList=none\/∃c oc,codeAmong pos ps.toList=some (.ref c)/\H c=some (.Oq oc (.own 0))/\ko oc qual)
def Bm (mg:MV->Option D')(base:M4):Prop:=∃bm o,mg "__builtins__"=some (.ref bm)/\bm≠builtinsNs/\bm≠N5/\base.get? bm=some o/\o.cls=.type "module"/\o.dict=some builtinsNs/\o.data=.plain
def dH (Pt:A')(H H':Hp):Prop:=∀b o,b≠Pt->H b=some o->H' b=some o
theorem rR:∀{l:List D'},TriplesOk l->TriplesOk (l++[.int a t,.int b u,c])
 | [],_=>trivial
 | .int _ _::.int _ _::_::r,h=>rR (l:=r) h
section
variable {σ:St} in
theorem FY (I:Inv X aa σ H s)(SE:X.env.code=.ref c)(hc:QT X.base c Pt)(bm:Bm X.mg X.base)(T:eG H Pt QH (X.env.qual++"<lambda>"))(abG:defaultsOf params X.env=([],[]))(Qp:closureFor scope X.env=pure Ot)(h:∀(h':M4) (tk:Nat) (H':Hp) (f c':A') (oc:G') (pm Qy:D'),Inv X aa σ H' { s with heap:=h',toks:=tk }->s.heap.objs.size<=f->H' f=none->dH Pt H H'->eG H' Pt QH (X.env.qual++"<lambda>")->H' c'=some (.Oq oc (.own 0))->ko oc (X.env.qual++"<lambda>")->
   h'.get? f=some (Zu "<lambda>" (X.env.qual++"<lambda>") params body scope Ot pm c' Qy)->Q (.ref f) { s with heap:=h',toks:=tk }):
  M3 (M8 X.prog X.w) X.A (eval (.Lambda params body scope QH) X.env) Q E s:=by
 obtain⟨ps,hT,ht,Ul⟩:=T;have hP:s.heap.get? Pt=some (XC ps):=I.Nf Pt _ hT;have hg:s.heap.Ns N5 X.mg:=I.ok.mod.glob.keeps I.bk;have hgP:N5≠Pt:=λz=>by
  obtain⟨o,es,ep,e,_⟩:=I.ok.mod.glob;have:=(I.bs _ _ e).2;rw[z,hT] at this;cases this
 have hb:s.heap.BuiltinsAt X.mg Pt:=by
  obtain⟨b,o,b1,b2,b3,b4,b5⟩:=bm;refine⟨b,o,b1,b2,b3,λz=>?_,I.bk _ _ b4,b5⟩;have:=(I.bs _ _ b4).2;rw[z,hT] at this;cases this
 refine W.kla_eval abG ?_;rcases Ul with hn|⟨c',oc,hh,U',ho⟩
 .refine W.kla_makeFunction (mg:=X.mg) Qp I.ok.glob hg SE (hc.keeps I.bk) hP ht hn hgP hb λc' Qy h' tk hx hge N9 afT htb=>?_;obtain⟨_,oc,vs,t,e,X4,hd,hv⟩:=afT;cases e;have fc:H c'=none:=I.Nf.fresh hge;have nP:c'≠Pt:=λz=>by rw[z,hT] at fc;cases fc
  have old:∀b o,b≠Pt->s.heap.get? b=some o->(h'.push (Zu "<lambda>" (X.env.qual++"<lambda>") params body scope Ot ((X.mg "__name__").getD .none) c' Qy)).get? b=some o:=λb o z e=>NK _ (hx b o z e);have abH:s.heap.objs.size<=h'.objs.size:=Ph hge (UR N9);have un:∀fs:List A',Un fs [] H (upd (upd H Pt (.PR (ps++#[rawInt QH.line,rawInt QH.col,.ref c']))) c' (.Oq oc (.own 0))) s.heap (h'.push (Zu "<lambda>" (X.env.qual++"<lambda>") params body scope Ot ((X.mg "__name__").getD .none) c' Qy)):=λfs=>by
   have nb:∀b,H b=none->b≠Pt:=λb n z=>by rw[z,hT] at n;cases n
   have sb:∀b u,H b=some u->b≠c':=λb u q=>av q fc;refine⟨λb o q n _ _=>old b o (nb b n) q,λb o q n _ _=>⟨o.slots,old b o (nb b n) q⟩,λb o q n _=>?_,λb o q _=>?_,λb xs q=>?_,λb o u q=>?_,λb qs q=>?_⟩
   .rw[aq (N0 (OY (NC q) hge)),aq (nb b n)];exact n
   .by_cases z:b=Pt
    .subst z;exact⟨_,NK _ htb⟩
    .exact⟨o,old b o z q⟩
   .rw[aq (sb b _ q),aq (λz=>by rw[z,hT] at q;cases q)];exact q
   .rw[aq (sb b _ q),aq (λz=>by rw[z,hT] at q;cases q)];exact q
   .rw[aq (sb b _ q)]
    by_cases z:b=Pt
    .subst z;rw[hT] at q;cases q;exact⟨_,al⟩
    .rw[aq z];exact⟨#[],by rw[q];simp⟩
  have Nf:OP X.prog X.w (upd (upd H Pt (.PR (ps++#[rawInt QH.line,rawInt QH.col,.ref c']))) c' (.Oq oc (.own 0))) (h'.push (Zu "<lambda>" (X.env.qual++"<lambda>") params body scope Ot ((X.mg "__name__").getD .none) c' Qy)):=λb u q=>by
   by_cases z:b=c'
   .subst z;rw[al] at q;cases q;exact⟨NK _ X4,_,NK _ X4⟩
   .rw[aq z] at q
    by_cases z2:b=Pt
    .subst z2;rw[al] at q;cases q;exact NK _ htb
    .rw[aq z2] at q;refine(I.Nf b u q).Ud (λa v hc r=>old a v ?_ r) (λa r=>?_) λa xs r=>?_
     .rcases hc with rfl|hc
      .exact z2
      .intro z3;rw[z3,hT] at hc;cases hc
     .rw[aq (av r fc),aq (λz3=>by rw[z3,hT] at r;cases r)];exact r
     .rw[aq (av r fc),aq (λz3=>by rw[z3,hT] at r;cases r)];exact r
  have same:dH Pt H (upd (upd H Pt (.PR (ps++#[rawInt QH.line,rawInt QH.col,.ref c']))) c' (.Oq oc (.own 0))):=λb o z e=>by
   rw[aq (av e fc),aq z];exact e
  refine h _ tk _ h'.objs.size c' oc _ Qy (I.un (t':=tk) (un _) Nf) abH ?_ same ⟨_,by rw[aq (N1 nP),al],?_,.inr ⟨c',oc,?_,al,vs,t,hd,hv⟩⟩ al ⟨vs,t,hd,hv⟩ (OH _ rfl)
  .rw[aq (Te N9),aq (λz=>Nc (show h'.objs.size<s.heap.objs.size by rw[z];exact NC hP) (Nat.not_lt.mpr abH))];exact I.Nf.fresh abH
  .rw[aeP];exact rR ht
  .rw[aeP];exact codeAmong_snoc _ ht hn
 .refine W.kla_makeFunctionHit (mg:=X.mg) Qp I.ok.glob hg SE (hc.keeps I.bk) hP ht hh hb λQy h' tk hk hsz=>?_;exact h _ tk H h'.objs.size c' oc _ Qy (I.kept (t':=tk) λb o e=>NK _ (hk b o e)) hsz (I.Nf.fresh hsz) (λb o _ e=>e) ⟨ps,hT,ht,.inr ⟨c',oc,hh,U',ho⟩⟩ U' ho (OH _ rfl)
variable {X:Cx}{σ:St}{H:Hp} in
theorem o0 {CX:PU}{k:Nat}{fg c Pt:A'}{QM:Nt}{psg:List MV}{sp:A'->List V->A'->G'->Hp->Sp}{EE:XK}{g x:MV}{ys:List MV}{js:List Nat}{p pos QH:NS}{e1 e2:Nn}{params:V3}{body:Nn}{scope:PX}{Ot:List (MV×A')}{t1 t2:TE}(G:∀(OK:M4) (f:A') (fd:Nt) (c:A') (oc:G') (Og:List V) (H0:Hp),Mod X.K X.mg OK->Vt OK f fd x ys Og (X.env.qual++"<lambda>") params body scope Ot c->ko oc (X.env.qual++"<lambda>")->Nq X.prog X.w X.K X.mg OK CX k fg QM psg (sp f Og c oc H0))(hr:MX k X.A)(hg:Gl X g)(hm:X.mg g=some (.ref fg))(hkp:R8 X.K (.ref fg)=true)(hb:bH X.K QM psg [])(hx:jn CX X EE)(h1:PE X e1 t1)(h2:PE X e2 t2)(SE:X.env.code=.ref c)(hc:QT X.base c Pt)(bm:Bm X.mg X.base)(abG:defaultsOf params X.env=([],[]))(Qp:closureFor scope X.env=pure Ot)(X3:∀y,X.fn y=true)(kind:scope.kind=.function)(co:scope.isCoroutine=false)(gen:scope.isGenerator=false)(ZB:∀y∈scope.names,y.2≠.cell)(par:scope.names.lookup x=some .local)(has:∀y,scope.names.lookup y=some .free->∃a,Ot.lookup y=some a)(ZS:∀y a,Ot.lookup y=some a->X.env.cells.lookup y=some a)(ady:Nd (λy j=>X.N[j]?=some y/\X.env.kindOf y=some .cell/\scope.names.lookup y=some .free) ys js)(Q1:(g==("__debug__":MV))=false:=by decide)(he:Ob [e1,e2,.Lambda params body scope QH] X.env=[(false,eval e1 X.env),(false,eval e2 X.env),(false,eval (.Lambda params body scope QH) X.env)]:=by rfl):
  PE X (.Call (.Name g p) [e1,e2,.Lambda params body scope QH] [] pos) (λσ H Q=>t1 σ H λv1 H1=>t2 σ H1 λv2 H2=>eG H2 Pt QH (X.env.qual++"<lambda>")/\∃Og,Nd (λj v=>σ[j]?=some (some v)) js Og/\
   ∀f c oc H3,H2 f=none->H3 f=none->dH Pt H2 H3->eG H3 Pt QH (X.env.qual++"<lambda>")->H3 c=some (.Oq oc (.own 0))->sp f Og c oc H3 [v1,v2,.ref f] H3 Q EE):=by
 intro aa s σ H Q I h;refine Xd (jh I hg hm ?_ Q1);refine W.callWith_of (P:=λh=>X.K.In h) (by rw[he];rfl) (W.keeps_K hkp) ?_;show M3 _ _ (evalArgs _ true (backTo pos (Ob [e1,e2,.Lambda params body scope QH] X.env)) []) _ _ _;rw[he];refine ad9 ?_;refine Xc (Nk (h1 aa s σ H _ I h) λu1 s1 ⟨v1,H1,I1,r1,q1⟩=>?_);refine Xc (Nk (h2 aa s1 σ H1 _ I1 q1) λu2 s2 ⟨v2,H2,I2,r2,T,Og,pf,q2⟩=>?_);refine Xc (FY I2 SE hc bm T abG Qp λh' tk H3 f c' oc pm Qy I3 fresh hf3 same T3 YA ho hfo=>?_);refine acr ⟨I3.Ox,?_⟩;have q3:=q2 f c' oc H3 (I2.Nf.fresh fresh) hf3 same T3 YA;have cellOf:∀y a,Ot.lookup y=some a->H3 a=none/\a∉O2 X.stack/\∃v,h'.IsCell a v:=λy a e=>by
  have ec:=ZS y a e;refine⟨I3.Sb y a ec,λz=>?_,I3.cell y a ec⟩;rcases NG.mp (I3.Tk a z) with z|z
  .exact I3.Ug y a ec z
  .obtain⟨_,o,Pp,_⟩:=I3.ok.QW.mem z;have:=I3.ok.V9 y a (X3 y) ec;exact Nc (NC Pp) (Nat.not_lt.mpr this)
 have ffr:f∉O2 X.stack:=λz=>by
  obtain⟨_,o,Pp,_⟩:=I2.stack.mem z;exact Nc (NC Pp) (Nat.not_lt.mpr fresh)
 have adN:∀b,b∈Ot.filterMap (λp=>Ot.lookup p.1)->∃y,Ot.lookup y=some b:=λb hb=>by
  obtain⟨p,_,e⟩:=Rv.mp hb;exact⟨p.1,e⟩
 have afU:∀y a,Ot.lookup y=some a->a∈Ot.filterMap (λp=>Ot.lookup p.1):=λy a e=>Rv.mpr ⟨(y,a),Ra e,e⟩;have e3:=I3.ZH.more (as:=f::Ot.filterMap (λp=>Ot.lookup p.1)) (λb hb=>by
  rcases NG.mp hb with rfl|hb
  .exact hf3
  .obtain⟨y,e⟩:=adN b hb;exact(cellOf y b e).1) (λb hb z=>by
  rcases NG.mp z with rfl|z
  .exact ffr hb
  .obtain⟨y,e⟩:=adN b z;exact(cellOf y b e).2.1 hb)
 have adq:∀y a,Ot.lookup y=some a->∀v,h'.IsCell a v->(fY X.base h' (f::Ot.filterMap λp=>Ot.lookup p.1)).IsCell a v:=λy a e v ⟨o,Pp,hd⟩=>⟨o,lq Pp (.inr (NP _ (afU y a e))),hd⟩
 have lam:Vt (fY X.base h' (f::Ot.filterMap λp=>Ot.lookup p.1)) f (W.kla_fn "<lambda>" (X.env.qual++"<lambda>") params body scope Ot pm (.ref c') Qy) x ys Og (X.env.qual++"<lambda>") params body scope Ot c':=by
  refine⟨⟨pm,Qy,lq hfo (.inr Nu),rfl⟩,kind,co,gen,ZB,par,λy z a p q=>I3.ok.inj y z a (ZS y a p) (ZS z a q),has,λy a e=>?_,?_⟩
  .obtain⟨v,q⟩:=(cellOf y a e).2.2;exact⟨v,adq y a e v q⟩
  .have comp:∀{ys:List MV}{js:List Nat}{Og:List V},Nd (λy j=>X.N[j]?=some y/\X.env.kindOf y=some .cell/\scope.names.lookup y=some .free) ys js->Nd (λj v=>σ[j]?=some (some v)) js Og->
     Nd (λy v=>scope.names.lookup y=some .free/\∃a u,Ot.lookup y=some a/\(fY X.base h' (f::Ot.filterMap λp=>Ot.lookup p.1)).IsCell a (some u)/\aI v u) ys Og:=by
    intro ys js Og p
    induction p generalizing Og with
    | nil=>intro q;cases q;exact .nil
    | cons r _ ih=>
     intro q;cases q with
     | cons r2 t2=>
      refine .cons ⟨r.2.2,?_⟩ (ih t2);obtain⟨a,ea⟩:=has _ r.2.2;obtain⟨m,_,hl⟩:=I3.loc;obtain⟨u,ru,lk⟩:=hl _ _ _ r.1 r2 (.inr (.inl r.2.1));rcases lk with⟨k1,_⟩|⟨_,a',ea',ic⟩
      .rw[r.2.1] at k1;cases k1
      .rw[ZS _ _ ea] at ea';cases ea';exact⟨a,u,ea,adq _ _ ea _ ic,ru⟩
   exact comp ady pf
 have F:=G _ f _ c' oc Og H3 e3.mod lam ho;have r3:aL [v1,v2,V.ref f] [u1,u2,NQ f]:=.cons r1 (.cons r2 (.cons rfl .nil));have hl:([u1,u2,NQ f]++[]).length=psg.length:=by
  have:=F.len _ _ _ _ q3;rw[<-this];rfl
 refine Zr (T5 (F.run X.A X.stack _ H3 ⟨[u1,u2,NQ f],[]⟩ ([u1,u2,NQ f]++[]) [v1,v2,V.ref f] Q EE hr e3 (hb _ _ I3.Ox hl) (by simpa using r3) q3) λr s' hq=>?_);cases r with
 | error e=>exact hx aa σ H3 _ e s' I3 hq
 | ok fl=>
  cases fl with
  | ret u=>exact I3.after hq
  | next=>exact P3 hq
  | brk=>exact P3 hq
  | cont=>exact P3 hq
end
def gU (P:Ng)(w:M7)(K:MZ)(a:A')(kvs:List (Key×D')):Prop:=(a==Pr)=false/\∃o es ep,K.lookup a=some o/\o.ExactDict/\o.data=.dict es ep/\KeysOf (bg P w) es/\Pairs (bg P w) es.toList kvs/\(kvs.map (·.1)).Nodup
theorem gU.at {K:MZ}(d:gU P w K a kvs)(k:K.In h):h.DictOf (bg P w) a kvs:=let ⟨_,o,es,ep,e,r⟩:=d;⟨o,es,ep,k _ _ e,r⟩
section
theorem jG (D:gU X.prog X.w X.K a kvs)(ho:PE X o td)(hi:PE X i ty)(hs:tZ i):PE X (.Subscript o i pos) (λσ H Q=>td σ H λx H1=>ty σ H1 λy H2=>∃k v u,x=.ref a/\y=kV k/\valueAt kvs k=some u/\aI v u/\Q v H2):=by
 intro aa s σ H Q I h;refine lV aae.lookup hs (Nk (ho aa s σ H _ I h) λu s1 ⟨x,H1,I1,rx,q1⟩=>Nk (hi aa s1 σ H1 _ I1 q1) λiv s2 ⟨y,H2,I2,ry,k,v,u',ex,ey,hv,rv,q2⟩=>?_);subst ex ey;cases rx;have dd:=D.at I2.Ox;exact⟨dd.typeIs,wpAny_getItem_of (gT ry) dd.mapOf hv ⟨v,H2,I2.tok _,rv,q2⟩⟩
end
theorem Nq.pre {K:MZ}{G:Prop}(h:G->Nq P w K mg base CX k f fd ps sp):Nq P w K mg base CX k f fd ps (λvs H Q E=>G/\sp vs H Q E):=
 ⟨λvs H Q E q=>(h q.1).len _ _ _ _ q.2,λA outer s H args us vs Q E hr e0 hb r q=>(h q.1).run A outer s H args us vs Q E hr e0 hb r q.2⟩
theorem NE.okC {P:Ng}{w:M7}{K:MZ}{mg:MV->Option D'}{base:M4}{x qual:MV}{st:M'}{f:A'}{fd:Nt}{N ps:List MV}{k:Nat}{sp:Sp}(F:NE K x qual st f fd)(S:N3 N ps (am st))(len:∀vs H Q E,sp vs H Q E->vs.length=ps.length)(Tm:∀(No:D') (A:Nv) (outer:List OV) (s:J') (H:Hp) (vs:List V) (Q:VK) (E:XK),fd.code=No->MX k (A.deeper (envOfC qual (am st) s.heap.objs.size f No))->sp vs H Q E->
   ∃t,Rk (eO Nb P w K mg base N qual (am st) f No A outer s H E).QJ (cH st) t/\t { nx:=λ_ H'=>Q .Nr H',rt:=Q } (gz N vs) H):Nq P w K mg base Nb (k+1) f fd ps sp:=by
 obtain⟨oc,od,kV,doc,pm,an,No,ct,Qi,rfl,lk,Pq⟩:=F.ex;refine xT lk Pq S len λA outer s H vs Q E hr NW=>?_;obtain⟨t,h,q⟩:=Tm No A outer s H vs Q E rfl hr NW;exact⟨t,h.QJ,q⟩
end L2
namespace Bk
structure UC (many:Nat)(Na M9)(f1 f2:Int):Prop where
 w1:WF Na
 w2:WF M9
 s1:∀r∈Na,∀d∈r,0<=d.1/\d.1<4
 s2:∀r∈M9,∀d∈r,0<=d.1/\d.1<4
 pg:Pg Na M9 f1 f2 many
theorem UC.abg (J:UC many Na M9 f1 f2):oP Na:=λr hr d hd=>by have:=J.s1 r hr d hd;lia
theorem UC.abh (J:UC many Na M9 f1 f2):oP M9:=λr hr d hd=>by have:=J.s2 r hr d hd;lia
end Bk
namespace Ord
open PySem L2 Mx
abbrev cT:M':=top 32
def iC (st:M'):Nn:=match (cH st).getD 2 (.Pass ⟨0,0,0,0⟩) with
 | .Return (some (.Call _ [_,_,e] _ _)) _=>e
 | _=>.Name "" ⟨0,0,0,0⟩
def yD:Nn->V3
 | .Lambda a _ _ _=>a
 | _=>dS cT
def yE:Nn->Nn
 | .Lambda _ b _ _=>b
 | e=>e
def yF:Nn->PX
 | .Lambda _ _ s _=>s
 | _=>am cT
def jd:Nn->NS
 | .Lambda _ _ _ p=>p
 | _=>⟨0,0,0,0⟩
theorem AK (wf:Bk.WF rs)(s4:∀r∈rs,∀d∈r,0<=d.1/\d.1<4)(rn:Bk.Rn rs k)(k1:k≠1):Vv rs k:=by
 rcases rn with rfl|⟨h1,h2⟩
 .exact⟨.inl rfl,UM,λd hd=>nomatch hd⟩
 .have er:Bk.bv rs k=Bk.bj rs k:=by unfold Bk.bv;rw[M0 (by lia)]
  refine⟨.inr ⟨by lia,h2⟩,?_,λd hd=>?_⟩
  .rw[er];exact(Bk.mq wf (k:=k) (by lia) h2).1.rise
  .rw[er] at hd;have hm:Bk.bj rs k∈rs:=Oo (Bk.gI (by lia));exact s4 _ hm d hd
section
def CB (K:MZ)(cl:Bk.Cl)(many:Int)(Na M9:List Bk.MX)(f1 f2:Int)(Og:List V)(c:A')(oc:G')(H0:Hp):Prop:=∃(cA b1 b2 l1 l2:A') (RW RX:List V),Og=[.ref cA,.ref b1,.ref b2]/\bS.rep K H0 (.ref cA) (enc cl)/\
 Ni K H0 b1 [.int many,.ref l1,.int f1]/\Nj K H0 l1 RW/\Nd (bD K H0) RW Na/\Ni K H0 b2 [.int many,.ref l2,.int f2]/\Nj K H0 l2 RX/\Nd (bD K H0) RX M9/\H0 c=some (.Oq oc (.own 0))
theorem EH (J:Bk.UC many Na M9 f1 f2)(L:Vt base f fd "pair" ["closes","one","other"] Og qual (yD (iC cT)) (yE (iC cT)) (yF (iC cT)) Ot c)(ho:ko oc qual)(WD:Df P w K mg base Nb 2 "doors_of_pair" ["closes","rooms","others","pair"] (iA K))(pre:CB K cl many Na M9 f1 f2 Og c oc H0):
  Nq P w K mg base Nb 3 f fd ["pair"] (jE K H0 (Bk.gv cl Na M9) (Bk.mn Na M9)):=by
 obtain⟨cA,b1,b2,l1,l2,RW,RX,rfl,rc,t1,q1,p1,t2,q2,p2,hc⟩:=pre;refine Ar (k:=2) L (by decide) (λvs H Q E h=>?_) (λvs H Q E h=>?_) ho (λA outer s H v Q E hr h=>?_)
 .obtain⟨v,st,rfl,_⟩:=h;rfl
 .obtain⟨v,st,_,s0,_⟩:=h;exact s0 _ _ hc
 .obtain⟨v',st,ev,s0,rv,gd,nt,z⟩:=h;cases ev;refine⟨_,aE WD hr rfl (az (E:=λ_ _ _ _=>False)) (ac (pv 1) (ac (ay (show Np _ (aU K) from ax) (pv 2) ag (λ_ _=>rfl)) (ac (ay (show Np _ (aU K) from ax) (pv 3) ag (λ_ _=>rfl)) (ac (pv 0) ae)))),?_⟩
  match st,gd,nt,rv,z with
  | .inl k,_,nt,_,_=>exact Nc trivial nt
  | .inr [a,b],⟨a1,b1',nab,n,pg⟩,_,rv,z=>
   refine⟨_,rfl,_,rfl,b1,_,1,.ref l1,rfl,rfl,s0.NM t1,rfl,_,rfl,b2,_,1,.ref l2,rfl,rfl,s0.NM t2,rfl,_,rfl,?_⟩;exact⟨cA,l1,l2,RW,RX,Na,M9,cl,v,a,b,rfl,bS.mono s0 rc,s0.Po q1,aX (λ_ _ z=>z.same s0) p1,s0.Po q2,aX (λ_ _ z=>z.same s0) p2,rv,AK J.w1 J.s1 pg.ra a1,AK J.w2 J.s2 pg.rb b1',z⟩
end
end Ord
namespace L2
open PySem
theorem dH.l (s:dH Pt H H'):Ord.bp [Pt] H H':=λb o hb e=>s b o (λz=>hb (by simp[z])) e
end L2
namespace Ord
open PySem L2 Mx
section
theorem vg (h:H Pt=some (.PR ps)):dh H [Pt]:=λa ha=>by
 obtain rfl:a=Pt:=by simpa using ha
 exact⟨_,h,trivial⟩
theorem bp.Po (s:bp as H H')(n:∀b∈as,∀xs,¬Rd H b (.lst xs))(h:Nj K H a xs):Nj K H' a xs:=by
 rcases h with(h|⟨o,h⟩)|h
 .exact .inl (.inl (s _ _ (λz=>n _ z _ (.inl h)) h))
 .exact .inl (.inr ⟨o,s _ _ (λz=>n _ z _ (.inr ⟨o,h⟩)) h⟩)
 .exact .inr h
theorem AL (h:H Pt=some (.PR ps)):∀b∈[Pt],∀xs,¬Rd H b (.lst xs):=λb hb xs z=>by
 obtain rfl:b=Pt:=by simpa using hb
 rcases z with z|⟨o,z⟩ <;> rw[h] at z <;> cases z
theorem bp.room (s:bp as H H')(so:dh H as)(h:bD K H x r):bD K H' x r:=by
 obtain⟨a,xs,e,q,p⟩:=h;exact⟨a,xs,e,s.Pb so q,aX (λ_ _ z=>s.door so z) p⟩
end
def UD (x:MV):Option Bk.Cl:=if x="or" then some [(1,0),(0,1),(1,1)] else if x="and" then some [(1,1)] else if x="less" then some [(1,0)] else if x="odd" then some [(1,0),(0,1)] else none
section
structure TxC (P)(w)(K)(mg:MV->Option D')(a)(kvs):Prop where
 at_:mg "CLOSES"=some (.ref a)
 d:gU P w K a kvs
 val:∀x cl,UD x=some cl->∃c,valueAt kvs (.inr x)=some (.ref c)/\∀H,bS.rep K H (.ref c) (enc cl)
 Nr:∀x,UD x=none->valueAt kvs (.inr x)=none
def ib (P:Ng)(w:M7)(K:MZ)(mg:MV->Option D')(base:M4)(fg:A')(QM:Nt):Prop:=∀(fl:A') (RV:Nt) (ol:G') (H0:Hp) (kl n:Nat) (xl:MV) (M5:SK->List (Int×SK)) (os:SK->Bk.ap) (Oa:SK->Nat) (good:SK->Prop),
 Bk.Way M5 os Oa Bk.P8 good->os (.inl 0)=[]->os (.inl 1)=[[]]->(∀k,good (.inl k)->k=0\/k=1)->(∀s,(M5 s).length<=8)->n<=5->Nq P w K mg base Nb kl fl RV [xl] (jE K H0 M5 good)->base.get? fl=some ol->ol.data=.func RV->
 (∀us:List D',us.length=[xl].length->bindArgs RV ⟨us,[]⟩=pure ([xl].zip us))->Nq P w K mg base Nb (n+kl+3) fg QM ["many","state","doors_from"] (h9 K H0 fl M5 Oa good n)
theorem CC (Fg:NE K "grown" "grown" oU f fd)(Fw:NE K "grow" "grow" mw g gd)(T:Oy K mg CO)(c:SN K C)(M:Mk K C fi)(Fi:Nq P w K mg base Nb 1 fi Uy ["self"] (oC K C))(bi:bH K Uy ["self"] [])(mC:mg "Shelf"=some (.ref C))(mk:Ue K C "keep" fk)(Fk:Nq P w K mg base Nb 1 fk Rs ["self","room"] (jB K C))(bk:bH K Rs ["self","room"] [])(b:bH K gd ["shelf","state","doors_from","known"] [])(m:mg "grow"=some (.ref g)):ib P w K mg base f fd:=
 λfl RV ol H0 kl n xl M5 os Oa good W h0 h1 hg SI n5 FL ho hd bl=>Cv n5 h0 h1 hg SI Fg T c M Fi bi mC ⟨g,gd,xf W SI Fw T c mk Fk bk FL ho hd bl b m n,b,Fw.kp,m⟩
theorem yG (J:Bk.UC many Na M9 f1 f2)(m5:many<=5)(c0:(0,0)∉cl)(L:Vt base f fd "pair" ["closes","one","other"] Og qual (yD (iC cT)) (yE (iC cT)) (yF (iC cT)) Ot c)(ho:ko oc qual)(WD:Df P w K mg base Nb 2 "doors_of_pair" ["closes","rooms","others","pair"] (iA K))(pre:CB K cl many Na M9 f1 f2 Og c oc H0)(GK:ib P w K mg base fg QM):
  Nq P w K mg base Nb (many+3+3) fg QM ["many","state","doors_from"] (h9 K H0 f (Bk.gv cl Na M9) (Bk.uU Na M9) (Bk.mn Na M9) many):=by
 have FL:=EH J L ho WD pre;obtain⟨pm,Qy,hf,rfl⟩:=L.fn;exact GK f _ _ H0 3 many "pair" _ _ _ _ (Bk.j8 J.w1 J.w2 J.abg J.abh c0) rfl rfl (λk h=>h) (Bk.Cu cl Na M9) m5 FL hf rfl (λus hl=>match us,hl with | [_],_=>rfl)
abbrev qJ:MV:="join_books"++".<locals>."++"<lambda>"
def jH (K:MZ)(Pt:A'):Sp:=λvs H Q _=>∃(word:MV) (x1 x2:V) (many:Nat) (Na M9:List Bk.MX) (f1 f2:Int) (cl:Bk.Cl),vs=[.str word,x1,x2]/\UD word=some cl/\QV K H x1 many Na f1/\QV K H x2 many M9 f2/\Bk.UC many Na M9 f1 f2/\many<=4/\
 eG H Pt (jd (iC cT)) qJ/\(Bk.eZ (Bk.gv cl Na M9) many (Bk.eE cl f1 f2)).1.length<1000/\
 ∀(t lr:A') (H':Hp),dH Pt H H'->eG H' Pt (jd (iC cT)) qJ->Sc K H H' t lr many (Bk.eZ (Bk.gv cl Na M9) many (Bk.eE cl f1 f2)).1 (Bk.eZ (Bk.gv cl Na M9) many (Bk.eE cl f1 f2)).2->Q (.ref t) H'
theorem p8:N3 ["word","one","other","closes","first"] ["word","one","other"] (am cT):=⟨rfl,rfl,rfl,by decide +kernel,rfl,by decide +kernel,by decide +kernel⟩
theorem CD (F:NE K "join_books" "join_books" cT f fd)(SE:fd.code=.ref c0)(CH:QT base c0 Pt)(bm:Bm mg base)(T:Yy K mg CO)(TC:TxC P w K mg aC kvs)(WM:Df P w K mg base Nb 1 "meet" ["closes","one","other"] (vf K))(DP:∀OK,Mod K mg OK->Df P w K mg OK Nb 2 "doors_of_pair" ["closes","rooms","others","pair"] (iA K))(GR:∀OK,Mod K mg OK->ib P w K mg OK fg QM)(mG:mg "grown"=some (.ref fg))(kG:R8 K (.ref fg)=true)(bG:bH K QM ["many","state","doors_from"] []):Nq P w K mg base Nb 11 f fd ["word","one","other"] (jH K Pt):=by
 refine NE.okC F p8 (λvs H Q E h=>?_) (λNo A outer s H vs Q E Pq hr h=>?_)
 .obtain⟨word,x1,x2,many,Na,M9,f1,f2,cl,rfl,_⟩:=h;rfl
 obtain⟨word,x1,x2,many,Na,M9,f1,f2,cl,rfl,hw,B1,B2,J,m4,TA,NH,z⟩:=h;obtain⟨b1,l1,RW,rfl,t1,q1,p1⟩:=B1.ex;obtain⟨b2,l2,RX,rfl,t2,q2,p2⟩:=B2.ex;obtain⟨cA,hv,rc⟩:=TC.val word cl hw;have c0':(0,0)∉cl:=by
  unfold UD at hw
  split at hw
  .cases hw;decide
  .split at hw
   .cases hw;decide
   .split at hw
    .cases hw;decide
    .split at hw
     .cases hw;decide
     .cases hw
 have W:=Bk.j8 J.w1 J.w2 J.abg J.abh c0';obtain⟨gd,_,lv⟩:=Bk.mv J.w1 J.w2 c0' J.pg;refine⟨_,ad (aV (i:=3) p8.nd rfl (by first|exact NB rfl|exact N' rfl) (jG TC.d (aM (v:=.ref aC) rfl TC.at_ rfl) (pv 0) (λ_ _=>rfl)))
  (ad (aV (i:=4) p8.nd rfl (by first|exact NB rfl|exact N' rfl) (aE WM (hr.mono (by decide)) rfl (az (E:=λ_ _ _ _=>False)) (ac (pv 3) (ac (ay (show Np _ (aU K) from ax) (pv 1) ag (λ_ _=>rfl)) (ac (ay (show Np _ (aU K) from ax) (pv 2) ag (λ_ _=>rfl)) ae)))))
  (af (aH (o0 (x:="pair") (ys:=["closes","one","other"]) (js:=[3,1,2]) (sp:=λf Og c oc H0 vs H Q E=>CB K cl many Na M9 f1 f2 Og c oc H0/\h9 K H0 f (Bk.gv cl Na M9) (Bk.uU Na M9) (Bk.mn Na M9) many vs H Q E)
   (λOK f' Yo c' oc Og H0 M L ho=>Nq.pre λpre=>yG J (by lia) c0' L ho (DP OK M) pre (GR OK M))
   (hr.mono (by lia)) rfl mG kG bG lH (ay (show Np _ (aU K) from ax) (pv 1) ag (λ_ _=>rfl)) (pv 4) (c:=c0) (Pt:=Pt) (Pq.symm.trans SE) CH bm rfl rfl (λ_=>rfl) rfl rfl rfl (by decide +kernel) rfl (λy hy=>by
    have hm:=Ra hy;simp only[NG,Pf,or_false,aaS] at hm;rcases hm with⟨_,z⟩|⟨rfl,_⟩|⟨rfl,_⟩|⟨rfl,_⟩|⟨_,z⟩
    .cases z
    .exact⟨_,rfl⟩
    .exact⟨_,rfl⟩
    .exact⟨_,rfl⟩
    .cases z) (λy a e=>by
    have hm:=Ra e;simp only[NG,Pf,or_false,aaS] at hm;rcases hm with⟨rfl,rfl⟩|⟨rfl,rfl⟩|⟨rfl,rfl⟩ <;> rfl) (.cons ⟨rfl,rfl,rfl⟩ (.cons ⟨rfl,rfl,rfl⟩ (.cons ⟨rfl,rfl,rfl⟩ .nil))))))),?_⟩
 refine⟨_,rfl,.inr word,.ref cA,_,rfl,rfl,hv,rfl,?_⟩;refine⟨_,rfl,_,rfl,b1,_,2,.int f1,rfl,rfl,t1,rfl,_,rfl,b2,_,2,.int f2,rfl,rfl,t2,rfl,?_⟩;refine⟨cA,cl,f1,f2,rfl,rc H,λv H2 s2 rv=>?_⟩;refine⟨_,rfl,b1,_,0,.int many,rfl,rfl,s2.NM t1,rfl,_,rfl,?_⟩;obtain⟨ps,hT,htr,Ul⟩:=TA;have TA2:eG H2 Pt (jd (iC cT)) qJ:=⟨ps,s2 _ _ hT,htr,Ul.imp id λ⟨c,oc,e1,e2,e3⟩=>⟨c,oc,e1,s2 _ _ e2,e3⟩⟩
 refine⟨TA2,[.ref cA,.ref b1,.ref b2],.cons rfl (.cons rfl (.cons rfl .nil)),λf' c' oc H3 ff2 ff3 s3 TA3 YA=>?_⟩;have TL:=s2 _ _ hT;have so:=vg TL;have nl:=AL TL;refine⟨⟨cA,b1,b2,l1,l2,RW,RX,rfl,rc H3,s3.l.Pb so (s2.NM t1),s3.l.Po nl (s2.Po q1),aX (λ_ _ z=>s3.l.room so (z.same s2)) p1,s3.l.Pb so (s2.NM t2),s3.l.Po nl (s2.Po q2),aX (λ_ _ z=>s3.l.room so (z.same s2)) p2,YA⟩,?_⟩;refine⟨many,v,Bk.eE cl f1 f2,rfl,s3.l.sk so rv,aB.refl H3,gd,lv.imp id λe=>VX e,NH,λt lr H4 s4 BN=>?_⟩;have up:∀b o,b≠Pt->H b=some o->H3 b=some o:=λb o hb e=>s3 b o hb (s2 b o e);obtain⟨ps3,Wx,abI,abJ⟩:=TA3;have fr:∀b,H3 b=none->H b=none:=λb hb=>by
  cases e:H b with
  | none=>rfl
  | some o=>
   by_cases hp:b=Pt
   .rw[hp,Wx] at hb;cases hb
   .rw[up b o hp e] at hb;cases hb
 exact z t lr H4 (λb o hb e=>s4 _ _ (up b o hb e)) ⟨ps3,s4 _ _ Wx,abI,abJ.imp id λ⟨c,oc,e1,e2,e3⟩=>⟨c,oc,e1,s4 _ _ e2,e3⟩⟩ ⟨fr _ BN.ft,fr _ BN.fl,BN.at_,BN.rooms⟩
end
end Ord
namespace Bk
open Mx
def FZ (many:Nat)(o:List Int):ap:=((bw many).filter λt=>!o.contains t).map λt=>o++[t]
def ext (many:Nat)(os:ap):ap:=os.flatMap (FZ many)
def nE (many:Nat):Nat->ap
 | 0=>[[]]
 | k+1=>ext many (nE many k)
def dU (many:Nat):ap:=nE many many
def ω:List Int->List Int->Bool
 | x::a,y::b=>decide (x<y)||(decide (x=y)&&ω a b)
 | _,_=>false
theorem rS:∀{a b:List Int},ω a b=true->lt a b
 | [],_,h=>by cases h
 | _::_,[],h=>by cases h
 | x::a,y::b,h=>by
  simp only[ω,acK,Rc,decide_eq_true_eq] at h;rcases h with h|⟨h1,h2⟩
  .exact .inl h
  .exact .inr ⟨h1,rS h2⟩
def yH:ap->Bool
 | []=>true
 | o::os=>os.all (ω o)&&yH os
theorem AM:∀{os:ap},yH os=true->cS os
 | [],_=>UM
 | o::os,h=>by
  simp only[yH,Rc,Sy] at h;exact List.Pairwise.cons (λo' ho=>rS (h.1 o' ho)) (AM h.2)
theorem CF:∀m∈[1,2,3,4,5],(dU m).all (λo=>(bw m).isPerm o)=true:=by decide +kernel
theorem EI:∀m∈[1,2,3,4],yH (dU m)=true:=by decide +kernel
theorem nF:∀m∈[1,2,3,4],(dU m).length<=24:=by decide +kernel
theorem CG:∀m∈[1,2,3,4,5],∀k∈[0,1,2,3,4,5],(nE m k).length<=200:=by decide +kernel
theorem in5 (h1:1<=m)(h5:m<=5):m∈[1,2,3,4,5]:=by
 have:m=1\/m=2\/m=3\/m=4\/m=5:=by lia
 rcases this with rfl|rfl|rfl|rfl|rfl <;> decide
theorem in4 (h1:1<=m)(h4:m<=4):m∈[1,2,3,4]:=by
 have:m=1\/m=2\/m=3\/m=4:=by lia
 rcases this with rfl|rfl|rfl|rfl <;> decide
theorem Kd (h:k<=5):k∈[0,1,2,3,4,5]:=by
 have:k=0\/k=1\/k=2\/k=3\/k=4\/k=5:=by lia
 rcases this with rfl|rfl|rfl|rfl|rfl|rfl <;> decide
theorem ly (h1:1<=m)(h5:m<=5)(h:o∈dU m):(bw m).Perm o:=by
 have:=CF m (in5 h1 h5);rw[Sy] at this;exact List.isPerm_iff.mp (this o h)
theorem iD (h1:1<=m)(h5:m<=5)(h:o∈dU m):o.length=m/\Mx.Ord o:=by
 have p:=ly h1 h5 h;have l:o.length=m:=by rw[<-p.length_eq,eB]
 refine⟨l,?_⟩;unfold Mx.Ord;rw[l];exact(tS p (vS m)).symm
theorem vh:∀(k:Nat),∀o∈nE m k,o.length=k
 | 0,o,h=>by
  rw[Pl.mp h];rfl
 | k+1,o,h=>by
  obtain⟨o',h1,h2⟩:=Rg.mp h;obtain⟨t,_,rfl⟩:=NR.mp h2;rw[Os,vh k o' h1];rfl
theorem CI {os:ap}(h:os[i]?=some o):ext m (os.take (i+1))=ext m (os.take i)++FZ m o:=by
 unfold ext;rw[Ta,h];simp
theorem F1 (i:Nat):(ext m (os.take i)).length<=(ext m os).length:=by
 have:ext m os=ext m (os.take i)++ext m (os.drop i):=by
  unfold ext;rw[<-List.flatMap_append,TW]
 rw[this,Os];lia
structure Op (many:Nat)(os:ap):Prop where
 m1:1<=many
 m5:many<=5
 mem:∀o∈os,o∈dU many
 RH:cS os
 len:os.length<=24
 ZT:many=5->os.length<=2
theorem Op.of (m1:1<=many)(m4:many<=4)(h:os.Sublist (dU many)):Op many os where
 m1:=m1
 m5:=by lia
 mem:=λo ho=>h.subset ho
 RH:=(AM (EI many (in4 m1 m4))).sublist h
 len:=Ph h.length_le (nF many (in4 m1 m4))
 ZT:=λe=>by lia
theorem Op.XX (S:Op many os):fb many (λx=>0<=x/\x<(many:Int)) os:=λo ho=>by
 have p:=ly S.m1 S.m5 (S.mem o ho);have mm:∀x,x∈o↔0<=x/\x<(many:Int):=λx=>by rw[<-p.mem_iff];exact dc
 refine⟨(iD S.m1 S.m5 (S.mem o ho)).1,λx hx=>?_,p.nodup_iff.mp (x8 many),mm⟩;have:=(mm x).mp hx;have:=S.m5;lia
theorem F2:∀m∈[1,2,3,4],jZ m<=41:=by decide +kernel
theorem Op.rooms (S:Op many os)(ne:os≠[]):(lay many os []).2.length<70:=by
 by_cases h:many=5
 .have a:=iV many os [] ne;have b:=S.ZT h;have c:os.length*many<=2*5:=acT b S.m5;simp only[T2] at a;lia
 .have a:=rq many _ os [] S.XX ne;have b:=F2 many (in4 S.m1 (by have:=S.m5;lia));simp only[T2] at a;lia
inductive Bs where
 | free|at_ (p t:Nat)|ahead (a b:Nat)|next (a b:Nat)|QI
 deriving DecidableEq
inductive Rl where
 | bs (b:Bs)|Nr (r:Rl)|both (r s:Rl)|either (r s:Rl)
def ef (many g:Nat):List Nat:=(Oe many).filter λt=>!g.testBit t
def o4 (many g t:Nat):Nat:=((Oe (many-(t+1))).filter λi=>g.testBit (t+1+i)).length
def du (many:Nat)(p g m t:Nat):Bs->Nat
 | .free=>0
 | .at_ q u=>if decide (p=q) != decide (t=u) then 2 else 0
 | .ahead a b=>if decide (t=b)&&!g.testBit a then 2 else 0
 | .next a b=>if decide (m=1) != decide (t=b) then 2 else if t=a then 1 else 0
 | .QI=>(m+o4 many g t) % 2
def QA (many:Nat)(b:Bs)(p g m t:Nat):Sk:=
 if du many p g m t b=2 then .inl 0 else if p+1<many then .inr [((p+1:Nat):Int),((g ||| 1 <<< t:Nat):Int),((du many p g m t b:Nat):Int)]
 else if du many p g m t b=0 then .inl 1 else .inl 0
def dI (many:Nat)(b:Bs):Sk->List (Int×Sk)
 | .inr [p,g,m]=>(ef many g.toNat).map λ(t:Nat)=>((t:Int),QA many b p.toNat g.toNat m.toNat t)
 | _=>[]
def o5 (many:Nat):Sk->Prop
 | .inl k=>k=0\/k=1
 | .inr l=>∃p g m:Nat,l=[(p:Int),(g:Int),(m:Int)]/\p<many/\g<2 ^ many/\m<=2
def qc (many:Nat):Sk->Nat
 | .inr (p::_)=>many-p.toNat
 | _=>0
def Vx (many:Nat)(b:Bs):Nat->Sk->ap
 | _,.inl k=>if k=1 then [[]] else []
 | 0,.inr _=>[]
 | n+1,.inr l=>(dI many b (.inr l)).flatMap λd=>(Vx many b n d.2).map (d.1::·)
def Wz (many:Nat)(b:Bs)(s:Sk):ap:=Vx many b (qc many s) s
theorem EJ:du many p g m t b<=2:=by
 cases b <;> simp only[du]
 .omega
 .split <;> lia
 .split <;> lia
 .split
  .omega
  .split <;> lia
 .omega
theorem fR {p g m:Nat}:dI many b (.inr [(p:Int),(g:Int),(m:Int)])=(ef many g).map λ(t:Nat)=>((t:Int),QA many b p g m t):=rfl
theorem CJ (many:Nat)(b)(h8:many<=8):∀s,(dI many b s).length<=8
 | .inr [p,g,m]=>by
  show((ef many g.toNat).map _).length<=8;rw[NT];refine Ph (R0 _ _) ?_;rw[UN];exact h8
 | .inl _=>by simp[dI]
 | .inr []=>by simp[dI]
 | .inr [_]=>by simp[dI]
 | .inr [_,_]=>by simp[dI]
 | .inr (_::_::_::_::_)=>by simp[dI]
theorem iE:t∈ef many g↔t<many/\g.testBit t=false:=by
 unfold ef;rw[Pm,Pn];simp
theorem F4 (hg:g<2 ^ many)(ht:t<many):g ||| 1 <<< t<2 ^ many:=by
 refine Nat.or_lt_two_pow hg ?_;rw[Nat.one_shiftLeft];exact Nat.pow_lt_pow_right (by lia) ht
theorem nG (hg:g<2 ^ many)(ht:t<many):o5 many (QA many b p g m t)/\(P8 (QA many b p g m t)\/(p+1<many/\qc many (QA many b p g m t)=many-(p+1))):=by
 unfold QA
 split
 .exact⟨.inl rfl,.inl trivial⟩
 .split
  .exact⟨⟨p+1,g ||| 1 <<< t,_,rfl,by assumption,F4 hg ht,EJ⟩,.inr ⟨by assumption,rfl⟩⟩
  .split
   .exact⟨.inr rfl,.inl trivial⟩
   .exact⟨.inl rfl,.inl trivial⟩
theorem EK (h:QA many b p g m t=.inl k)(k1:k=1):¬p+1<many:=by
 subst k1;unfold QA at h
 split at h
 .cases h
 .split at h
  .cases h
  .assumption
theorem vi {p g m n:Nat}:o∈Vx many b (n+1) (.inr [(p:Int),(g:Int),(m:Int)])↔∃(t:Nat) (r:List Int),o=(t:Int)::r/\t∈ef many g/\r∈Vx many b n (QA many b p g m t):=by
 show o∈(dI many b (.inr [(p:Int),(g:Int),(m:Int)])).flatMap _↔_;rw[fR,Rg];constructor
 .rintro⟨d,hd,ho⟩;obtain⟨t,ht,rfl⟩:=NR.mp hd;obtain⟨r,hr,rfl⟩:=NR.mp ho;exact⟨t,r,rfl,ht,hr⟩
 .rintro⟨t,r,rfl,ht,hr⟩;exact⟨_,NR.mpr ⟨t,ht,rfl⟩,NR.mpr ⟨r,hr,rfl⟩⟩
theorem AN:∀(n:Nat) (p g m:Nat),p<many->g<2 ^ many->many-p=n+1->∀o∈Vx many b (n+1) (.inr [(p:Int),(g:Int),(m:Int)]),o.length=n+1
 | n,p,g,m,hp,hg,hn,o,ho=>by
  obtain⟨t,r,rfl,ht,hr⟩:=vi.mp ho;have htm:=(iE.mp ht).1;rw[OB]
  congr 1
  obtain⟨gd,lv⟩:=nG (b:=b) (p:=p) (m:=m) hg htm;cases e:QA many b p g m t with
  | inl k=>
   rw[e] at hr
   by_cases k1:k=1
   .have:=EK e k1;subst k1;have hr:r∈([[]]:ap):=by cases n <;> exact hr
    rw[Pl.mp hr];show 0=n;lia
   .have hr:r∈(if k=1 then [[]] else []:ap):=by cases n <;> exact hr
    rw[M0 k1] at hr;cases hr
  | inr l=>
   rw[e] at gd lv hr;obtain⟨p',g',m',rfl,Yh,hg',Uo⟩:=gd;rcases lv with h|⟨h1,h2⟩
   .exact h.elim
   have h2:many-p'=many-(p+1):=h2;cases n with
   | zero=>lia
   | succ n=>exact AN n p' g' m' Yh hg' (by lia) r hr
theorem vj {p g m:Nat}:Wz many b (.inr [(p:Int),(g:Int),(m:Int)])=Vx many b (many-p) (.inr [(p:Int),(g:Int),(m:Int)]):=rfl
theorem EL (hg:g<2 ^ many)(ht:t<many)(hn:many-p=n+1):Vx many b n (QA many b p g m t)=Wz many b (QA many b p g m t):=by
 obtain⟨gd,lv⟩:=nG (b:=b) (p:=p) (m:=m) hg ht;unfold Wz;cases e:QA many b p g m t with
 | inl k=>cases n <;> rfl
 | inr l=>
  rw[e] at lv;rcases lv with h|⟨h1,h2⟩
  .exact h.elim
  rw[h2,show many-(p+1)=n by lia]
theorem rT (h8:many<=8):Way (dI many b) (Wz many b) (qc many) P8 (o5 many) where
 pos:=λs hs ht=>by
  match s,hs,ht with
  | .inl _,_,ht=>exact Nc trivial ht
  | .inr _,⟨p,g,m,rfl,hp,_⟩,_=>show 1<=many-p;lia
 len:=λs hs ht o ho=>by
  match s,hs,ht,ho with
  | .inl _,_,ht,_=>exact Nc trivial ht
  | .inr _,⟨p,g,m,rfl,hp,hg,_⟩,_,ho=>
   rw[vj] at ho;obtain⟨n,hn⟩:∃n,many-p=n+1:=⟨many-p-1,by lia⟩
   rw[hn] at ho;show o.length=many-p;rw[hn];exact AN n p g m hp hg hn o ho
 down:=λs hs ht d hd=>by
  match s,hs,ht,hd with
  | .inl _,_,ht,_=>exact Nc trivial ht
  | .inr _,⟨p,g,m,rfl,hp,hg,_⟩,_,hd=>
   rw[fR] at hd;obtain⟨t,ht,rfl⟩:=NR.mp hd;obtain⟨gd,lv⟩:=nG (b:=b) (p:=p) (m:=m) hg (iE.mp ht).1;refine⟨gd,lv.imp id λ⟨h1,h2⟩=>?_⟩;show qc many (QA many b p g m t)+1=many-p;rw[h2];lia
 rise:=λs hs ht=>by
  match s,hs,ht with
  | .inl _,_,ht=>exact Nc trivial ht
  | .inr _,⟨p,g,m,rfl,_⟩,_=>
   rw[fR,VZ];refine Sx.mpr ?_;have h:(Oe many).Pairwise (· < ·):=YY;exact(h.sublist VL).imp λ{a b} h=>by show(a:Int)<(b:Int);lia
 μ:=λs hs ht d hd=>by
  match s,hs,ht,hd with
  | .inl _,_,ht,_=>exact Nc trivial ht
  | .inr _,⟨p,g,m,rfl,_⟩,_,hd=>
   rw[fR] at hd;obtain⟨t,ht,rfl⟩:=NR.mp hd;have:=(iE.mp ht).1;exact⟨by show(0:Int)<=(t:Int);lia,by show(t:Int)<8;lia⟩
 rest:=λs hs ht d hd=>by
  match s,hs,ht,hd with
  | .inl _,_,ht,_=>exact Nc trivial ht
  | .inr _,⟨p,g,m,rfl,hp,hg,_⟩,_,hd=>
   rw[fR] at hd;obtain⟨t,ht,rfl⟩:=NR.mp hd;obtain⟨n,hn⟩:∃n,many-p=n+1:=⟨many-p-1,by lia⟩
   intro r;rw[bt,vj,hn,vi];dsimp only;rw[<-EL (b:=b) (m:=m) hg (iE.mp ht).1 hn];constructor
   .rintro⟨t',r',e,TD,RU⟩;injection e with e1 e2
    have e1:t=t':=Int.ofNat.inj e1;subst e1 e2;exact RU
   .exact λh=>⟨t,r,rfl,ht,h⟩
 all:=λs hs ht t r hr=>by
  match s,hs,ht,hr with
  | .inl _,_,ht,_=>exact Nc trivial ht
  | .inr _,⟨p,g,m,rfl,hp,hg,_⟩,_,hr=>
   obtain⟨n,hn⟩:∃n,many-p=n+1:=⟨many-p-1,by lia⟩
   rw[vj,hn] at hr;obtain⟨t',r',e,TD,RU⟩:=vi.mp hr;injection e with e1 e2
   subst e1;rw[fR];exact⟨_,NR.mpr ⟨t',TD,rfl⟩⟩
def Ke (o:List Int):Nat:=((Oe o.length).map λk=>((Oe k).filter λj=>decide (o.getD k 0<o.getD j 0)).length).sum
def CK (o:List Int)(a b:Nat):Int:=(o.idxOf (b:Int):Int)-(o.idxOf (a:Int):Int)
def o6 (o:List Int):Bs->Bool
 | .free=>true
 | .at_ p t=>decide (o[p]?=some (t:Int))
 | .ahead a b=>decide (0<CK o a b)
 | .next a b=>decide (CK o a b=1)
 | .QI=>decide (Ke o % 2=0)
def bN (o:List Int):Rl->Bool
 | .bs b=>o6 o b
 | .Nr r=>!bN o r
 | .both r s=>bN o r&&bN o s
 | .either r s=>bN o r||bN o s
def YB (many:Nat):Bs->Prop
 | .free=>True
 | .at_ p t=>p<many/\t<many
 | .ahead a b=>a<many/\b<many/\a≠b
 | .next a b=>a<many/\b<many/\a≠b
 | .QI=>True
def QB (many:Nat):Rl->Prop
 | .bs b=>YB many b/\b≠.free
 | .Nr r=>QB many r
 | .both r s=>QB many r/\QB many s
 | .either r s=>QB many r/\QB many s
def Oj:Rl->Nat
 | .bs _=>1
 | .Nr r=>Oj r+1
 | .both r s=>max (Oj r) (Oj s)+1
 | .either r s=>max (Oj r) (Oj s)+1
def sM (m:Nat):List Bs:=[.free,.QI]++(Oe m).flatMap λp=>(Oe m).flatMap λt=>.at_ p t::(if p=t then [] else [.ahead p t,.next p t])
theorem AO:∀{b:Bs},YB m b->b∈sM m
 | .free,_=>by simp[sM]
 | .QI,_=>by simp[sM]
 | .at_ p t,⟨h1,h2⟩=>PM _ (Rg.mpr ⟨p,Pn.mpr h1,Rg.mpr ⟨t,Pn.mpr h2,Nu⟩⟩)
 | .ahead p t,⟨h1,h2,h3⟩=>PM _ (Rg.mpr ⟨p,Pn.mpr h1,Rg.mpr ⟨t,Pn.mpr h2,by simp[h3]⟩⟩)
 | .next p t,⟨h1,h2,h3⟩=>PM _ (Rg.mpr ⟨p,Pn.mpr h1,Rg.mpr ⟨t,Pn.mpr h2,by simp[h3]⟩⟩)
theorem CL:∀m∈[1,2,3,4],∀b∈sM m,Wz m b (.inr [0,0,0])=(dU m).filter λo=>o6 o b:=by decide +kernel
def bq (many:Nat)(r:Rl):ap:=(dU many).filter λo=>bN o r
theorem bL (m1:1<=many)(m4:many<=4)(f:List Int->Bool):Op many ((dU many).filter f):=.of m1 m4 VL
end Bk
namespace Ord
open PySem L2 Mx
abbrev yI:M':=top 52
abbrev sP:M':=top 51
abbrev kq:M':=top 56
abbrev vm:M':=top 55
abbrev vn:M':=top 54
def Ss:Bk.Bs->List V
 | .free=>[.str "free"]
 | .at_ p t=>[.str "at",.int (p:Int),.int (t:Int)]
 | .ahead a b=>[.str "ahead",.int (a:Int),.int (b:Int)]
 | .next a b=>[.str "next",.int (a:Int),.int (b:Int)]
 | .QI=>[.str "even"]
theorem EM (g t:Nat):aaJ ((g:Int) / 2 ^ t) 1=((g.testBit t).toNat:Int):=by
 have e:(g:Int) / 2 ^ t=((g >>> t:Nat):Int):=by
  rw[aed];simp
 rw[e,show(1:Int)=((1:Nat):Int) from rfl,oA]
 congr 1
 rw[Nat.and_one_is_mod,Nat.testBit_eq_decide_div_mod_eq,aed]
 by_cases h:g / 2 ^ t % 2=1
 .rw[h];rfl
 .rw[Ny h];show _=0;lia
section
def o7:Sp:=λvs H Q _=>∃g t:Nat,vs=[.int (g:Int),.int (t:Int)]/\Q (.bl (g.testBit t)) H
theorem F5:N3 ["gone","thing"] ["gone","thing"] (am yI):=⟨rfl,rfl,rfl,by decide +kernel,rfl,by decide +kernel,by decide +kernel⟩
theorem my (F:NE K "has_gone" "has_gone" yI f fd):Nq P w K mg base Nb 1 f fd ["gone","thing"] o7:=by
 refine F.ok F5 (λvs H Q E h=>?_) (λNo A outer s H vs Q E hr h=>?_)
 .obtain⟨g,t,rfl,_⟩:=h;rfl
 obtain⟨g,t,rfl,z⟩:=h;refine⟨_,af (aH (cg bf (aO zd (aO Fc (pv 0) (pv 1)) ag) ag (aw _))),?_⟩;refine⟨_,rfl,_,rfl,_,_,rfl,rfl,by show(0:Int)<=(t:Int);lia,_,_,rfl,rfl,rfl,?_⟩;show Q (V.bl (decide (V.int (aaJ ((g:Int) / 2 ^ ((t:Int)).toNat) 1)=V.int 1))) H;rw[QQ,EM];cases h:g.testBit t with
 | true=>rw[h] at z;exact z
 | false=>rw[h] at z;exact z
def dz (ns:List Nat):List V:=ns.map λn:Nat=>V.int (n:Int)
def AQ:Sp:=λvs H Q _=>∃many g:Nat,vs=[.int (many:Int),.int (g:Int)]/\many<=8/\∀(l:A'),H l=none->Q (.ref l) (upd H l (.lst (dz (Bk.ef many g))))
theorem AR:N3 ["many","gone"] ["many","gone"] (am sP):=⟨rfl,rfl,rfl,by decide +kernel,rfl,by decide +kernel,by decide +kernel⟩
theorem je {α:Type}:(Oe (i+1)).filter f=(Oe i).filter f++if f i=true then [i] else []:=by
 rw[aaH,UL]
 congr 1
 by_cases h:f i=true
 .rw[M6 h,Sw h];rfl
 .rw[M0 h,UJ h];rfl
theorem xn (F:NE K "things_left" "things_left" sP f fd)(T:Oy K mg CO)(WG:Df P w K mg base Nb 1 "has_gone" ["gone","thing"] o7):Nq P w K mg base Nb 2 f fd ["many","gone"] AQ:=by
 refine F.ok AR (λvs H Q E h=>?_) (λNo A outer s H vs Q E hr h=>?_)
 .obtain⟨many,g,rfl,_⟩:=h;rfl
 obtain⟨many,g,rfl,m8,z⟩:=h;refine⟨_,af (aH (eA rfl (show Qf (am sP) ["many","gone"] _ _ from by constructor <;> decide +kernel) (eM rfl T.t.range (ac (pv 0) ae))
  (λ_ _ _ _ _ _=>ez (cf (cp (aE WG hr rfl (az (E:=λ_ _ _ _=>False)) (ac (pv 2) (ac (pv 0) ae))))))
  (λcl C NY OM fp aa=>pv 0) AR.nd)),?_⟩
 refine⟨_,rfl,many,rfl,by show -(2:Int) ^ 62<=(many:Int);lia,by show(many:Int)<2 ^ 62;lia,gj (lo:=0) (n:=((many:Int)).toNat) (λi zs H2=>H2=H/\zs=dz ((Oe i).filter λt=>!g.testBit t)) ⟨rfl,rfl⟩ ?_ (by rw[NU,QQ];lia) ?_ ?_⟩
 .rintro i zs H2 _ ⟨_,rfl⟩;unfold dz;rw[NT];exact Ph (R0 _ _) (by rw[UN];exact Nl _)
 .rintro i zs H2 hi ⟨rfl,rfl⟩;rw[ac4];refine⟨_,rfl,_,rfl,g,i,rfl,?_⟩;refine⟨_,rfl,?_⟩;rw[je (α:=Unit)];cases hb:g.testBit i with
  | true=>exact aA ⟨rfl,by simp⟩
  | false=>
   refine aZ ⟨_,rfl,rfl,?_⟩;unfold dz;rw[M6 (by rfl),QF];rfl
 .rintro zs H2 p ⟨rfl,rfl⟩ hp;rw[QQ];exact z p hp
def rV:Sp:=λvs H Q _=>∃many g t:Nat,vs=[.int (many:Int),.int (g:Int),.int (t:Int)]/\many<=8/\t<=8/\∀H',aB H H'->Q (.int (Bk.o4 many g t:Nat)) H'
theorem rW:N3 ["many","gone","thing"] ["many","gone","thing"] (am kq):=⟨rfl,rfl,rfl,by decide +kernel,rfl,by decide +kernel,by decide +kernel⟩
theorem o8 (F:NE K "crossed_by" "crossed_by" kq f fd)(T:Oy K mg CO)(WG:Df P w K mg base Nb 1 "has_gone" ["gone","thing"] o7):Nq P w K mg base Nb 2 f fd ["many","gone","thing"] rV:=by
 refine F.ok rW (λvs H Q E h=>?_) (λNo A outer s H vs Q E hr h=>?_)
 .obtain⟨many,g,t,rfl,_⟩:=h;rfl
 obtain⟨many,g,t,rfl,m8,t8,z⟩:=h;refine⟨_,af (aH (aQ bd rfl T.t.len cq (ac (eA rfl (show Qf (am kq) ["many","gone","thing"] _ _ from by constructor <;> decide +kernel) (zb rfl T.t.range (ac (aO bR (pv 2) ag) (ac (pv 0) ae)))
  (λ_ _ _ _ _ _=>ez (cp (aE WG hr rfl (az (E:=λ_ _ _ _=>False)) (ac (pv 2) (ac (pv 0) ae)))))
  (λcl C NY OM fp aa=>pv 0) rW.nd) ae))),?_⟩
 refine⟨_,rfl,_,_,rfl,rfl,_,rfl,_,_,rfl,⟨by show -(2:Int) ^ 62<=(t:Int)+1;lia,by show(t:Int)+1<2 ^ 62;lia,by show -(2:Int) ^ 62<=(many:Int);lia,by show(many:Int)<2 ^ 62;lia⟩,?_⟩;have en:((many:Int)-((t:Int)+1)).toNat=many-(t+1):=by lia
 rw[en];refine gj (lo:=(t:Int)+1) (n:=many-(t+1)) (λi zs H2=>H2=H/\zs.length=((Oe i).filter λj=>g.testBit (t+1+j)).length) ⟨rfl,rfl⟩ ?_ (by rw[NU];lia) ?_ ?_
 .rintro i zs H2 _ ⟨_,e⟩;rw[e];exact Ph (R0 _ _) (by rw[UN];exact Nl _)
 .rintro i zs H2 hi ⟨rfl,e⟩;refine⟨_,rfl,_,rfl,g,t+1+i,by simp,_,rfl,?_⟩;rw[je (α:=Unit)];cases hb:g.testBit (t+1+i) with
  | true=>exact aZ ⟨_,rfl,rfl,by rw[M6 rfl,Os,Os,e];rfl⟩
  | false=>exact aA ⟨rfl,by simpa using e⟩
 .rintro zs H2 p ⟨rfl,e⟩ hp;refine⟨p,zs,rfl,.inl Nj.up,?_⟩;rw[e];exact z _ (ak hp _)
def xp (K:MZ):Sp:=λvs H Q _=>∃(r st:A') (a b p g m t:Nat),vs=[.ref r,.ref st,.int (t:Int)]/\Ni K H r [.str "next",.int (a:Int),.int (b:Int)]/\Ni K H st [.int (p:Int),.int (g:Int),.int (m:Int)]/\Q (.int (Bk.du 0 p g m t (.next a b):Nat)) H
theorem EN:N3 ["rule","state","thing"] ["rule","state","thing"] (am vm):=⟨rfl,rfl,rfl,by decide +kernel,rfl,by decide +kernel,by decide +kernel⟩
theorem cF (a b:Nat):decide (V.int (a:Int)=V.int (b:Int))=decide (a=b):=by
 by_cases h:a=b
 .subst h;simp
 .rw[Ny h,Ny (λz=>h (by have:=V.int.inj z;lia))]
theorem kH (a b):(!decide (V.bl a=V.bl b))=(a != b):=by cases a <;> cases b <;> rfl
structure Vy (K)(mg:MV->Option D')(CO):Prop where
 t:Oy K mg CO
 br:∃t,mg "BROKEN"=some (.int 2 t)
theorem vo (F:NE K "mark_behind_next" "mark_behind_next" vm f fd)(T:Vy K mg CO):Nq P w K mg base Nb 1 f fd ["rule","state","thing"] (xp K):=by
 refine F.ok EN (λvs H Q E h=>?_) (λNo A outer s H vs Q E hr h=>?_)
 .obtain⟨r,st,a,b,p,g,m,t,rfl,_⟩:=h;rfl
 obtain⟨r,st,a,b,p,g,m,t,rfl,qr,qs,z⟩:=h;obtain⟨t2,m2⟩:=T.br;refine⟨_,ad (aD (ar fS (cg bf (ay (show Np _ (aU K) from ax) (pv 1) ag (λ_ _=>rfl)) ag (aw _)) (cg bf (pv 2) (ay (show Np _ (aU K) from ax) (pv 0) ag (λ_ _=>rfl)) (aw _)) (aw _))
   (af (aH (aM (v:=.int 2) rfl m2 ⟨t2,rfl⟩))) au)
  (af (aH (eK (ar bf (pv 2) (ay (show Np _ (aU K) from ax) (pv 0) ag (λ_ _=>rfl)) (aw _)) ag ag))),?_⟩
 refine⟨_,rfl,st,_,2,.int (m:Int),rfl,rfl,qs,rfl,rfl,_,rfl,_,rfl,r,_,2,.int (b:Int),rfl,rfl,qr,rfl,rfl,rfl,_,rfl,?_⟩;have e1:decide (V.int (m:Int)=V.int 1)=decide (m=1):=cF m 1;rw[e1,cF,kH];simp only[Bk.du] at z;cases hc:(decide (m=1) != decide (t=b)) with
 | true=>
  rw[hc] at z;exact aZ z
 | false=>
  rw[hc] at z;refine aA ⟨_,rfl,_,rfl,r,_,1,.int (a:Int),rfl,rfl,qr,rfl,rfl,_,rfl,?_⟩;rw[cF]
  by_cases h:t=a
  .rw[Nz h];rw[M0 (by decide),M6 h] at z;exact aZ z
  .rw[Ny h];rw[M0 (by decide),M0 h] at z;exact aA z
end
abbrev qe:M':=top 53
abbrev mz:M':=top 50
section
def xq (K:MZ):Sp:=λvs H Q _=>∃(r st:A') (b:Bk.Bs) (many p g m t:Nat),vs=[.int (many:Int),.ref r,.ref st,.int (t:Int)]/\Ni K H r (Ss b)/\Ni K H st [.int (p:Int),.int (g:Int),.int (m:Int)]/\many<=8/\t<=8/\∀H',aB H H'->Q (.int (Bk.du many p g m t b:Nat)) H'
theorem EO:N3 ["many","rule","state","thing"] ["many","rule","state","thing"] (am vn):=⟨rfl,rfl,rfl,by decide +kernel,rfl,by decide +kernel,by decide +kernel⟩
theorem vp (F:NE K "mark_behind" "mark_behind" vn f fd)(T:Vy K mg CO)(WG:Df P w K mg base Nb 1 "has_gone" ["gone","thing"] o7)(WN:Df P w K mg base Nb 1 "mark_behind_next" ["rule","state","thing"] (xp K))(WC:Df P w K mg base Nb 2 "crossed_by" ["many","gone","thing"] rV):
  Nq P w K mg base Nb 3 f fd ["many","rule","state","thing"] (xq K):=by
 refine F.ok EO (λvs H Q E h=>?_) (λNo A outer s H vs Q E hr h=>?_)
 .obtain⟨r,st,b,many,p,g,m,t,rfl,_⟩:=h;rfl
 obtain⟨r,st,b,many,p,g,m,t,rfl,qr,qs,m8,t8,z⟩:=h;obtain⟨t2,m2⟩:=T.br;refine⟨_,ad (aD (ar bf (ay (show Np _ (aU K) from ax) (pv 1) ag (λ_ _=>rfl)) bc (aw _))
   (af (aH (eK (ar fS (cg bf (ay (show Np _ (aU K) from ax) (pv 2) ag (λ_ _=>rfl)) (ay (show Np _ (aU K) from ax) (pv 1) ag (λ_ _=>rfl)) (aw _)) (cg bf (pv 3) (ay (show Np _ (aU K) from ax) (pv 1) ag (λ_ _=>rfl)) (aw _)) (aw _)) (aM (v:=.int 2) rfl m2 ⟨t2,rfl⟩) ag))) au)
  (ad (aD (ar bf (ay (show Np _ (aU K) from ax) (pv 1) ag (λ_ _=>rfl)) bc (aw _))
   (af (aH (eK (PW.pt (ji (ar bf (pv 3) (ay (show Np _ (aU K) from ax) (pv 1) ag (λ_ _=>rfl)) (aw _)) (gX (cf (cp (aE WG (hr.mono (by decide)) rfl (az (E:=λ_ _ _ _=>False)) (ac (ay (show Np _ (aU K) from ax) (pv 2) ag (λ_ _=>rfl)) (ac (ay (show Np _ (aU K) from ax) (pv 1) ag (λ_ _=>rfl)) ae)))))))) (aM (v:=.int 2) rfl m2 ⟨t2,rfl⟩) ag))) au)
  (ad (aD (ar bf (ay (show Np _ (aU K) from ax) (pv 1) ag (λ_ _=>rfl)) bc (aw _))
   (af (aH (aE WN (hr.mono (by decide)) rfl (az (E:=λ_ _ _ _=>False)) (ac (pv 1) (ac (pv 2) (ac (pv 3) ae)))))) au)
  (ad (aD (ar bf (ay (show Np _ (aU K) from ax) (pv 1) ag (λ_ _=>rfl)) bc (aw _))
   (af (aH (aO cD (aO bR (ay (show Np _ (aU K) from ax) (pv 2) ag (λ_ _=>rfl)) (aE WC hr rfl (az (E:=λ_ _ _ _=>False)) (ac (pv 0) (ac (ay (show Np _ (aU K) from ax) (pv 2) ag (λ_ _=>rfl)) (ac (pv 3) ae))))) ag))) au)
  (af (aH ag))))),?_⟩
 have w0:(Ss b)[0]?=some (.str (match b with | .free=>"free" | .at_ _ _=>"at" | .ahead _ _=>"ahead" | .next _ _=>"next" | .QI=>"even")):=by cases b <;> rfl
 have wi:∀v,(Ss b)[0]?=some v->Qj (Ss b) 0=some v:=λv h=>cG (j:=0) h;cases b with
 | free=>
  refine⟨_,rfl,r,_,0,.str "free",rfl,rfl,qr,rfl,rfl,_,rfl,?_⟩;rw[show decide (V.str "free"=V.str "at")=false by decide +kernel];refine aA ⟨_,rfl,r,_,0,.str "free",rfl,rfl,qr,rfl,rfl,_,rfl,?_⟩;rw[show decide (V.str "free"=V.str "ahead")=false by decide +kernel];refine aA ⟨_,rfl,r,_,0,.str "free",rfl,rfl,qr,rfl,rfl,_,rfl,?_⟩;rw[show decide (V.str "free"=V.str "next")=false by decide +kernel];refine aA ⟨_,rfl,r,_,0,.str "free",rfl,rfl,qr,rfl,rfl,_,rfl,?_⟩;rw[show decide (V.str "free"=V.str "even")=false by decide +kernel];exact aA (z H (aB.refl H))
 | at_ q u=>
  refine⟨_,rfl,r,_,0,.str "at",rfl,rfl,qr,rfl,rfl,_,rfl,?_⟩;rw[show decide (V.str "at"=V.str "at")=true by decide +kernel];refine aZ ⟨_,rfl,st,_,0,.int (p:Int),rfl,rfl,qs,rfl,_,rfl,r,_,1,.int (q:Int),rfl,rfl,qr,rfl,rfl,_,rfl,_,rfl,r,_,2,.int (u:Int),rfl,rfl,qr,rfl,rfl,rfl,_,rfl,?_⟩;rw[cF,cF,kH];have z:=z H (aB.refl H);simp only[Bk.du] at z;cases hc:(decide (p=q) != decide (t=u)) with
  | true=>rw[hc] at z;exact aZ z
  | false=>rw[hc] at z;exact aA z
 | ahead a b=>
  refine⟨_,rfl,r,_,0,.str "ahead",rfl,rfl,qr,rfl,rfl,_,rfl,?_⟩;rw[show decide (V.str "ahead"=V.str "at")=false by decide +kernel];refine aA ⟨_,rfl,r,_,0,.str "ahead",rfl,rfl,qr,rfl,rfl,_,rfl,?_⟩;rw[show decide (V.str "ahead"=V.str "ahead")=true by decide +kernel];refine aZ ⟨_,rfl,_,rfl,r,_,2,.int (b:Int),rfl,rfl,qr,rfl,rfl,_,rfl,?_⟩;rw[cF];have z:=z H (aB.refl H);simp only[Bk.du] at z
  by_cases h:t=b
  .rw[Nz h] at z ⊢;refine aZ ⟨_,rfl,st,_,1,.int (g:Int),rfl,rfl,qs,rfl,_,rfl,r,_,1,.int (a:Int),rfl,rfl,qr,rfl,g,a,rfl,_,rfl,?_⟩;cases hb:g.testBit a with
   | true=>rw[hb] at z;exact aA z
   | false=>rw[hb] at z;exact aZ z
  .rw[Ny h] at z ⊢;exact aA (aA z)
 | next a b=>
  refine⟨_,rfl,r,_,0,.str "next",rfl,rfl,qr,rfl,rfl,_,rfl,?_⟩;rw[show decide (V.str "next"=V.str "at")=false by decide +kernel];refine aA ⟨_,rfl,r,_,0,.str "next",rfl,rfl,qr,rfl,rfl,_,rfl,?_⟩;rw[show decide (V.str "next"=V.str "ahead")=false by decide +kernel];refine aA ⟨_,rfl,r,_,0,.str "next",rfl,rfl,qr,rfl,rfl,_,rfl,?_⟩;rw[show decide (V.str "next"=V.str "next")=true by decide +kernel];exact aZ ⟨_,rfl,_,rfl,_,rfl,r,st,a,b,p,g,m,t,rfl,qr,qs,z H (aB.refl H)⟩
 | QI=>
  refine⟨_,rfl,r,_,0,.str "even",rfl,rfl,qr,rfl,rfl,_,rfl,?_⟩;rw[show decide (V.str "even"=V.str "at")=false by decide +kernel];refine aA ⟨_,rfl,r,_,0,.str "even",rfl,rfl,qr,rfl,rfl,_,rfl,?_⟩;rw[show decide (V.str "even"=V.str "ahead")=false by decide +kernel];refine aA ⟨_,rfl,r,_,0,.str "even",rfl,rfl,qr,rfl,rfl,_,rfl,?_⟩;rw[show decide (V.str "even"=V.str "next")=false by decide +kernel];refine aA ⟨_,rfl,r,_,0,.str "even",rfl,rfl,qr,rfl,rfl,_,rfl,?_⟩;rw[show decide (V.str "even"=V.str "even")=true by decide +kernel];refine aZ ⟨_,rfl,st,_,2,.int (m:Int),rfl,rfl,qs,rfl,_,rfl,_,rfl,st,_,1,.int (g:Int),rfl,rfl,qs,rfl,_,rfl,many,g,t,rfl,m8,t8,λH' s'=>?_⟩;refine⟨_,_,rfl,rfl,_,_,rfl,rfl,by show(0:Int)<2;decide,?_⟩;have z:=z H' s';simp only[Bk.du] at z;rw[show(((m+Bk.o4 many g t) % 2:Nat):Int)=((m:Int)+(Bk.o4 many g t:Int)) % 2 by lia] at z;exact z
def vq (K:MZ):Sp:=λvs H Q _=>∃(r st:A') (b:Bk.Bs) (many p g m t:Nat),vs=[.int (many:Int),.ref r,.ref st,.int (t:Int)]/\Ni K H r (Ss b)/\Ni K H st [.int (p:Int),.int (g:Int),.int (m:Int)]/\many<=8/\t<=8/\∀v H',aB H H'->cC K H' v (Bk.QA many b p g m t)->Q v H'
abbrev NSB:List MV:=["many","rule","state","thing","mark"]
theorem vt:N3 NSB ["many","rule","state","thing"] (am qe):=⟨rfl,rfl,rfl,by decide +kernel,rfl,by decide +kernel,by decide +kernel⟩
theorem rX (F:NE K "state_behind" "state_behind" qe f fd)(T:Vy K mg CO)(WM:Df P w K mg base Nb 3 "mark_behind" ["many","rule","state","thing"] (xq K)):
  Nq P w K mg base Nb 4 f fd ["many","rule","state","thing"] (vq K):=by
 refine F.ok vt (λvs H Q E h=>?_) (λNo A outer s H vs Q E hr h=>?_)
 .obtain⟨r,st,b,many,p,g,m,t,rfl,_⟩:=h;rfl
 obtain⟨r,st,b,many,p,g,m,t,rfl,qr,qs,m8,t8,z⟩:=h;obtain⟨t2,m2⟩:=T.br;obtain⟨t0,m0⟩:=T.t.no;obtain⟨t1,m1⟩:=T.t.en;refine⟨_,ad (aV (i:=4) vt.nd rfl (by first|exact NB rfl|exact N' rfl) (aE WM hr rfl (az (E:=λ_ _ _ _=>False)) (ac (pv 0) (ac (pv 1) (ac (pv 2) (ac (pv 3) ae))))))
  (ad (aD (ar bf (pv 4) (aM (v:=.int 2) rfl m2 ⟨t2,rfl⟩) (aw _)) (af (aH (aM (v:=.int 0) rfl m0 ⟨t0,rfl⟩))) au)
  (ad (aD (ar iL (aO bR (ay (show Np _ (aU K) from ax) (pv 2) ag (λ_ _=>rfl)) ag) (pv 0) (aw _))
   (af (aH (bI (ac (aO bR (ay (show Np _ (aU K) from ax) (pv 2) ag (λ_ _=>rfl)) ag) (ac (aO Dh (ay (show Np _ (aU K) from ax) (pv 2) ag (λ_ _=>rfl)) (aO sZ ag (pv 3))) (ac (pv 4) ae)))))) au)
  (af (aH (eK (ar bf (pv 4) ag (aw _)) (aM (v:=.int 1) rfl m1 ⟨t1,rfl⟩) (aM (v:=.int 0) rfl m0 ⟨t0,rfl⟩)))))),?_⟩
 refine⟨_,rfl,_,rfl,_,rfl,_,rfl,r,st,b,many,p,g,m,t,rfl,qr,qs,m8,t8,λH1 s1=>?_⟩;refine⟨_,rfl,rfl,_,rfl,?_⟩;have e2:decide (V.int ((Bk.du many p g m t b:Nat):Int)=V.int 2)=decide (Bk.du many p g m t b=2):=cF _ 2;rw[e2];unfold Bk.QA at z
 by_cases h2:Bk.du many p g m t b=2
 .rw[Nz h2];rw[M6 h2] at z;exact aZ (z _ _ s1 rfl)
 rw[Ny h2];rw[M0 h2] at z;refine aA ⟨_,rfl,st,_,0,.int (p:Int),rfl,rfl,s1.NM qs,rfl,_,_,rfl,rfl,_,rfl,_,_,rfl,rfl,_,rfl,?_⟩
 by_cases hp:p+1<many
 .rw[Nz (show(p:Int)+1<(many:Int) by lia)];rw[M6 hp] at z;refine aZ ⟨_,rfl,st,_,0,.int (p:Int),rfl,rfl,s1.NM qs,rfl,_,_,rfl,rfl,_,rfl,st,_,1,.int (g:Int),rfl,rfl,s1.NM qs,rfl,_,rfl,1,(t:Int),rfl,rfl,⟨by lia,by lia,by decide⟩,_,_,rfl,rfl,_,rfl,by show 3<=Nh;decide,λq hq=>?_⟩;refine z _ _ (s1.trans (ak hq _)) ?_;have e1:(1:Int)*(2:Int) ^ ((t:Int)).toNat=((1 <<< t:Nat):Int):=by rw[QQ,Nat.one_shiftLeft];simp
  have eo:aaO (g:Int) ((1:Int)*(2:Int) ^ ((t:Int)).toNat)=((g ||| 1 <<< t:Nat):Int):=by rw[e1,ri]
  dsimp only;rw[eo];exact cr (o:=[((p+1:Nat):Int),((g ||| 1 <<< t:Nat):Int),((Bk.du many p g m t b:Nat):Int)]) (Ni.up (H:=H1) (p:=q))
 .rw[Ny (show ¬(p:Int)+1<(many:Int) by lia)];rw[M0 hp] at z;refine aA ⟨_,rfl,rfl,_,rfl,?_⟩;have e0:decide (V.int ((Bk.du many p g m t b:Nat):Int)=V.int 0)=decide (Bk.du many p g m t b=0):=cF _ 0;rw[e0]
  by_cases h0:Bk.du many p g m t b=0
  .rw[Nz h0];rw[M6 h0] at z;exact aZ (z _ _ s1 rfl)
  .rw[Ny h0];rw[M0 h0] at z;exact aA (z _ _ s1 rfl)
end
abbrev cN:M':=top 49
def gb (st:M'):Nn:=match (cH st).getD 0 (.Pass ⟨0,0,0,0⟩) with
 | .Return (some (.Call _ [_,_,e] _ _)) _=>e
 | _=>.Name "" ⟨0,0,0,0⟩
section
def iG (K:MZ):Sp:=λvs H Q _=>∃(r:A') (b:Bk.Bs) (many p g m:Nat) (y:V),vs=[.int (many:Int),.ref r,y]/\Ni K H r (Ss b)/\aK.rep K H y [(p:Int),(g:Int),(m:Int)]/\many<=8/\
 ∀(l:A') (ys:List V) (H':Hp),aB H H'->H l=none->H' l=some (.lst ys)->Nd (gK K H') ys (Bk.dI many b (.inr [(p:Int),(g:Int),(m:Int)]))->Q (.ref l) H'
theorem vv:N3 ["many","rule","state"] ["many","rule","state"] (am mz):=⟨rfl,rfl,rfl,by decide +kernel,rfl,by decide +kernel,by decide +kernel⟩
theorem rY (F:NE K "doors_by_rule" "doors_by_rule" mz f fd)(WL:Df P w K mg base Nb 2 "things_left" ["many","gone"] AQ)(WS:Df P w K mg base Nb 4 "state_behind" ["many","rule","state","thing"] (vq K)):
  Nq P w K mg base Nb 5 f fd ["many","rule","state"] (iG K):=by
 refine F.ok vv (λvs H Q E h=>?_) (λNo A outer s H vs Q E hr h=>?_)
 .obtain⟨r,b,many,p,g,m,y,rfl,_⟩:=h;rfl
 obtain⟨r,b,many,p,g,m,y,rfl,qr,ry,m8,z⟩:=h;obtain⟨st,rfl,qs⟩:=cu ry;have qs:Ni K H st [.int (p:Int),.int (g:Int),.int (m:Int)]:=qs;refine⟨_,af (aH (eA rfl (show Qf (am mz) ["many","rule","state"] _ _ from by constructor <;> decide +kernel) (cX (aE WL (hr.mono (by decide)) rfl (az (E:=λ_ _ _ _=>False)) (ac (pv 0) (ac (ay (show Np _ (aU K) from ax) (pv 2) ag (λ_ _=>rfl)) ae))))
  (λ_ _ _ _ _ _=>hG)
  (λcl C NY OM fp aa=>bI (ac (pv 0) (ac (aE WS hr rfl (az (E:=λ_ _ _ _=>False)) (ac (pv 1) (ac (pv 2) (ac (pv 3) (ac (pv 0) ae))))) ae))) vv.nd)),?_⟩
 refine⟨_,rfl,_,rfl,st,_,1,.int (g:Int),rfl,rfl,qs,rfl,many,g,rfl,m8,λl0 RS=>?_⟩;have s0:=ak RS (.lst (dz (Bk.ef many g)));have ll:(Bk.ef many g).length<=8:=Ph (R0 _ _) (by rw[UN];exact m8);have nl:(dz (Bk.ef many g)).length=(Bk.ef many g).length:=by unfold dz;rw[NT]
 refine⟨l0,rfl,⟨_,Nj.up⟩,iq (K:=K) (a:=l0) (xs:=dz (Bk.ef many g)) (λi zs H2=>aB (upd H l0 (.lst (dz (Bk.ef many g)))) H2/\i<=(dz (Bk.ef many g)).length/\Nd (gK K H2) zs ((Bk.dI many b (.inr [(p:Int),(g:Int),(m:Int)])).take i)) ⟨aB.refl _,Ow _,.nil⟩ ?_ (by rw[NU,nl];lia) ?_ ?_⟩
 .rintro i zs H2 _ ⟨s2,_,pz⟩;refine⟨Nj.of (s2 _ _ al),?_⟩;rw[pz.length,Qb];exact Nat.min_le_left _ _
 .rintro i x zs H2 hx ⟨s2,_,pz⟩;have Us:=hx;unfold dz at Us;rw[Pa] at Us;obtain⟨t,ht,rfl⟩:=TV.mp Us;have tm:=(Bk.iE.mp (Oo ht)).1;have π:=s0.trans s2;have hd:(Bk.dI many b (.inr [(p:Int),(g:Int),(m:Int)]))[i]?=some ((t:Int),Bk.QA many b p g m t):=by
   rw[Bk.fR,Pa,ht];rfl
  refine Wf (aZ ⟨_,rfl,_,rfl,_,rfl,_,rfl,_,rfl,r,st,b,many,p,g,m,t,rfl,π.NM qr,π.NM qs,m8,by lia,λv H3 s3 rv=>?_⟩);refine⟨by show 2<=Nh;decide,λtq SR=>?_⟩;have s4:=ak SR (.tup [V.int (t:Int),v]);refine⟨s2.trans (s3.trans s4),(OA.mp hx).1,?_⟩;rw[cx hd];exact de (aX (λ_ _ z=>z.same (s3.trans s4)) pz) (.cons ⟨tq,v,rfl,Ni.up,rv.mono s4⟩ .nil)
 .rintro zs H2 q ⟨s2,_,pz⟩ hq;have pl:(Bk.dI many b (.inr [(p:Int),(g:Int),(m:Int)])).length=(dz (Bk.ef many g)).length:=by rw[Bk.fR,NT,nl]
  rw[<-pl,Rf] at pz;have s3:=ak hq (.lst zs);exact z q zs _ (s0.trans (s2.trans s3)) ((s0.trans s2).free hq) al (aX (λ_ _ z=>z.same s3) pz)
def CM (K:MZ)(b:Bk.Bs)(many:Nat)(Og:List V)(c:A')(oc:G')(H0:Hp):Prop:=∃r:A',Og=[.int (many:Int),.ref r]/\Ni K H0 r (Ss b)/\H0 c=some (.Oq oc (.own 0))
theorem EQ (m8:many<=8)(L:Vt base f fd "state" ["many","rule"] Og qual (yD (gb cN)) (yE (gb cN)) (yF (gb cN)) Ot c)(ho:ko oc qual)(WD:Df P w K mg base Nb 5 "doors_by_rule" ["many","rule","state"] (iG K))(pre:CM K b many Og c oc H0):
  Nq P w K mg base Nb 6 f fd ["state"] (jE K H0 (Bk.dI many b) (Bk.o5 many)):=by
 obtain⟨r,rfl,qr,hc⟩:=pre;refine Ar (k:=5) L (by decide) (λvs H Q E h=>?_) (λvs H Q E h=>?_) ho (λA outer s H v Q E hr h=>?_)
 .obtain⟨v,st,rfl,_⟩:=h;rfl
 .obtain⟨v,st,_,s0,_⟩:=h;exact s0 _ _ hc
 .obtain⟨v',st,ev,s0,rv,gd,nt,z⟩:=h;cases ev;refine⟨_,aE WD hr rfl (az (E:=λ_ _ _ _=>False)) (ac (pv 1) (ac (pv 2) (ac (pv 0) ae))),?_⟩
  match st,gd,nt,rv,z with
  | .inl k,_,nt,_,_=>exact Nc trivial nt
  | .inr _,⟨p,g,m,rfl,hp,hg,hm⟩,_,rv,z=>
   exact⟨_,rfl,_,rfl,_,rfl,r,b,many,p,g,m,v,rfl,s0.NM qr,rv,m8,z⟩
theorem yJ (m5:many<=5)(L:Vt base f fd "state" ["many","rule"] Og qual (yD (gb cN)) (yE (gb cN)) (yF (gb cN)) Ot c)(ho:ko oc qual)(WD:Df P w K mg base Nb 5 "doors_by_rule" ["many","rule","state"] (iG K))(pre:CM K b many Og c oc H0)(GK:ib P w K mg base fg QM):
  Nq P w K mg base Nb (many+6+3) fg QM ["many","state","doors_from"] (h9 K H0 f (Bk.dI many b) (Bk.qc many) (Bk.o5 many) many):=by
 have FL:=EQ (by lia) L ho WD pre;obtain⟨pm,Qy,hf,rfl⟩:=L.fn;exact GK f _ _ H0 6 many "state" _ _ _ _ (Bk.rT (b:=b) (by lia)) rfl rfl (λk h=>h) (Bk.CJ many b (by lia)) m5 FL hf rfl (λus hl=>match us,hl with | [_],_=>rfl)
abbrev qW:MV:="book_of_walk"++".<locals>."++"<lambda>"
def qf (K:MZ)(Pw:A'):Sp:=λvs H Q _=>∃(r:A') (b:Bk.Bs) (many:Nat),vs=[.int (many:Int),.ref r]/\Ni K H r (Ss b)/\1<=many/\many<=4/\
 eG H Pw (jd (gb cN)) qW/\(Bk.eZ (Bk.dI many b) many (.inr [0,0,0])).1.length<1000/\
 ∀(t lr:A') (H':Hp),dH Pw H H'->eG H' Pw (jd (gb cN)) qW->Sc K H H' t lr many (Bk.eZ (Bk.dI many b) many (.inr [0,0,0])).1 (Bk.eZ (Bk.dI many b) many (.inr [0,0,0])).2->Q (.ref t) H'
theorem CP:N3 ["many","rule"] ["many","rule"] (am cN):=⟨rfl,rfl,rfl,by decide +kernel,rfl,by decide +kernel,by decide +kernel⟩
theorem AS (F:NE K "book_of_walk" "book_of_walk" cN f fd)(SE:fd.code=.ref c0)(CH:QT base c0 Pw)(bm:Bm mg base)(DP:∀OK,Mod K mg OK->Df P w K mg OK Nb 5 "doors_by_rule" ["many","rule","state"] (iG K))(GR:∀OK,Mod K mg OK->ib P w K mg OK fg QM)(mG:mg "grown"=some (.ref fg))(kG:R8 K (.ref fg)=true)(bG:bH K QM ["many","state","doors_from"] []):Nq P w K mg base Nb 14 f fd ["many","rule"] (qf K Pw):=by
 refine NE.okC F CP (λvs H Q E h=>?_) (λNo A outer s H vs Q E Pq hr h=>?_)
 .obtain⟨r,b,many,rfl,_⟩:=h;rfl
 obtain⟨r,b,many,rfl,qr,m1,m4,TA,NH,z⟩:=h;refine⟨_,af (aH (o0 (x:="state") (ys:=["many","rule"]) (js:=[0,1]) (sp:=λf Og c oc H0 vs H Q E=>CM K b many Og c oc H0/\h9 K H0 f (Bk.dI many b) (Bk.qc many) (Bk.o5 many) many vs H Q E)
   (λOK f' Yo c' oc Og H0 M L ho=>Nq.pre λpre=>yJ (by lia) L ho (DP OK M) pre (GR OK M))
   (hr.mono (by lia)) rfl mG kG bG lH (pv 0) (bI (ac ag (ac ag (ac ag ae)))) (c:=c0) (Pt:=Pw) (Pq.symm.trans SE) CH bm rfl rfl (λ_=>rfl) rfl rfl rfl (by decide +kernel) rfl (λy hy=>by
    have hm:=Ra hy;simp only[NG,Pf,or_false,aaS] at hm;rcases hm with⟨_,z⟩|⟨rfl,_⟩|⟨rfl,_⟩|⟨_,z⟩
    .cases z
    .exact⟨_,rfl⟩
    .exact⟨_,rfl⟩
    .cases z) (λy a e=>by
    have hm:=Ra e;simp only[NG,Pf,or_false,aaS] at hm;rcases hm with⟨rfl,rfl⟩|⟨rfl,rfl⟩ <;> rfl) (.cons ⟨rfl,rfl,rfl⟩ (.cons ⟨rfl,rfl,rfl⟩ .nil)))),?_⟩
 refine⟨_,rfl,by show 3<=Nh;decide,λq hq=>?_⟩;have s2:=ak hq (.tup [V.int 0,V.int 0,V.int 0]);obtain⟨ps,hT,htr,Ul⟩:=TA;have TA2:eG (upd H q (.tup [V.int 0,V.int 0,V.int 0])) Pw (jd (gb cN)) qW:=⟨ps,s2 _ _ hT,htr,Ul.imp id λ⟨c,oc,e1,e2,e3⟩=>⟨c,oc,e1,s2 _ _ e2,e3⟩⟩
 refine⟨TA2,[.int (many:Int),.ref r],.cons rfl (.cons rfl .nil),λf' c' oc H3 ff2 ff3 s3 TA3 YA=>?_⟩;have TL:=s2 _ _ hT;have so:=vg TL;have sk:cC K H3 (.ref q) (.inr [((0:Nat):Int),((0:Nat):Int),((0:Nat):Int)]):=s3.l.sk so (k:=.inr [((0:Nat):Int),((0:Nat):Int),((0:Nat):Int)]) (cr (o:=[((0:Nat):Int),((0:Nat):Int),((0:Nat):Int)]) Ni.up);refine⟨⟨r,rfl,s3.l.Pb so (s2.NM qr),YA⟩,?_⟩;refine⟨many,.ref q,.inr [((0:Nat):Int),((0:Nat):Int),((0:Nat):Int)],rfl,sk,aB.refl H3,⟨0,0,0,rfl,by lia,Nat.two_pow_pos _,by lia⟩,.inr (by show many-0<=many;lia),NH,λt lr H4 s4 BN=>?_⟩;have up:∀b o,b≠Pw->H b=some o->H3 b=some o:=λb o hb e=>s3 b o hb (s2 b o e);obtain⟨ps3,Wx,abI,abJ⟩:=TA3;have fr:∀b,H3 b=none->H b=none:=λb hb=>by
  cases e:H b with
  | none=>rfl
  | some o=>
   by_cases hp:b=Pw
   .rw[hp,Wx] at hb;cases hb
   .rw[up b o hp e] at hb;cases hb
 exact z t lr H4 (λb o hb e=>s4 _ _ (up b o hb e)) ⟨ps3,s4 _ _ Wx,abI,abJ.imp id λ⟨c,oc,e1,e2,e3⟩=>⟨c,oc,e1,s4 _ _ e2,e3⟩⟩ ⟨fr _ BN.ft,fr _ BN.fl,BN.at_,BN.rooms⟩
end
end Ord
namespace L2
open PySem PySem.Spec PyProof.Rows
section
theorem jI (D:gU X.prog X.w X.K a kvs):N4 X (Ps .In) (λx y H Q=>∃k,y=.ref a/\x=kV k/\Q (.bl (valueAt kvs k).isSome) H):=by
 intro aa s σ H x y v u Q I rx ry h;obtain⟨k,rfl,rfl,q⟩:=h;cases ry;have dd:=D.at I.Ox;exact wpAny_in_of (gT rx) D.1 dd.mapOf ⟨.bl _,H,I.tok _,rfl,q⟩
theorem CQ (hc:X.calm=true):cK X (.builtin "any") (λxs H Q=>∃(p:A') (bs:List Bool),xs=[.ref p]/\Nj X.K H p (bs.map V.bl)/\Q (.bl (bs.any id)) H):=by
 intro aa s σ H xs us Q I r h;obtain⟨p,bs,rfl,hp,q⟩:=h;obtain⟨u,rfl,ru⟩:=dm r;cases ru;obtain⟨MY,rv,pl,hz⟩:=I.list hp;have hl:=rv.length;rw[NT] at hl;have Ol:p≠s.heap.objs.size:=by
  obtain⟨o,ho,_⟩:=pl.isList;exact N0 (NC ho)
 have tr:TruthOf X.prog X.w X.A.in1 (λi v=>MY.toArray[i]?=some v) (λi=>(bs[i]?).getD false):=λi v s' Q' E' hP hQ=>by
  have e:MY[i]?=some v:=by simpa using hP
  have hi:i<bs.length:=by have:=(OA.mp e).1;lia
  obtain⟨w,e1,e2⟩:=rv.get (i:=i) (x:=V.bl bs[i]) (by simp[hi]);rw[e] at e1;cases e1;cases e2;refine Rb ?_;have Yi:Q' ((bs[i]?).getD false) s':=hQ;rw[Ou hi] at Yi;exact Yi
 refine call_any_walk (aaw pl.isList ⟨s.heap.objs.size,_,_,_,_,_,_,rfl,ac8 (A:=X.A.in1) (show X.A.in1.handled=none from I.ok.hd hc) s.heap.objs.size p Ol MY.toArray,⟨⟨_,OH _ rfl,rfl,rfl⟩,pl.isList.at λo e=>NK _ e⟩,tr,λh' tk k=>?_⟩);have Iw:Inv X aa σ H { s with heap:=h',toks:=tk }:=nY I k;refine⟨.bl (bs.any id),H,Iw,?_,q⟩;show _=RN _
 congr 1
 have:∀(l:List Bool),(Oe l.length).any (λi=>(l[i]?).getD false)=l.any id:=λl=>by
  rw[Sz];simp only[List.any_eq_true,Pn,id];constructor
  .rintro⟨i,hi,h⟩;rw[Ou hi] at h;exact⟨_,UQ _,h⟩
  .rintro⟨x,hx,h⟩;obtain⟨i,hi,e⟩:=aeI hx;exact⟨i,hi,by rw[Ou hi,e];exact h⟩
 rw[Od,<-hl];exact this bs
end
theorem sv (l)(items)(n:Nat)(dd:Option A')(sl:Array (Option D'))(x)(e:D'->Bool)(j:Nat)(hj:j<items.size)(hit:e items[j]=true)(miss:∀(m:Nat) (hm:m<items.size),m<j->e items[m]=false):
  Meets (P4.«tuple.index» ⟨[.ref l,x],[]⟩) (λA R s=>s.heap.get? l=some { cls:=.type "tuple",dict:=dd,data:=.seq items n,slots:=sl }/\(∀y∈items,RP A.in1 s y x (e y))/\R (.ok (.ret (.int (j:Int) s.toks))) { s with toks:=s.toks+1 }):=
 .of_wp λprog ww A R s h=>by
  obtain⟨ho,he,h⟩:=h;have g:UY s.heap l items:=⟨_,ho,rfl,n,rfl⟩
  unfold P4.«tuple.index» selfAndSome noKeywords checkCount;simp only[adT];wp_walk;have hN:[:min items.size items.size].size=items.size:=by simp[Std.Legacy.Range.size]
  refine Re (l:=aa1 0 [:min items.size items.size].size) (b:=(none,())) (λ(i:Nat) (__s:Option PySem.Fin×Unit)=>(match items[i]? with
   | some y=>do
    let __do_lift <-eqBool y x
    if __do_lift=true then do
      let __do_lift <-retInt (i:Int)
      pure (ForInStep.done (some __do_lift,()))
     else pure (T1 (none,()))
   | _=>pure (T1 (none,())):PY (ForInStep (Option PySem.Fin×Unit)))) (λrest b s'=>s'=s/\b=(none,())/\∃i,i<=j/\rest=aa1 i (items.size-i)) _ ?_ ?_ ?_
  .rintro i rest b s' ⟨rfl,rfl,i',hi,er⟩;obtain⟨k,hk⟩:∃k,items.size-i'=k+1:=⟨items.size-i'-1,by lia⟩
   rw[hk,acz] at er;injection er with e1 e2
   subst e1 e2;have OW:i<items.size:=by lia
   rw[RI OW];dsimp only;refine MW (he items[i] (aeY OW) prog ww _ _ ?_)
   by_cases c:i=j
   .subst c;rw[M6 hit];unfold retInt ret;refine MW (MW (wpAny_mkInt (M1 (M1 ?_))));dsimp only;exact M1 ⟨_,rfl,h⟩
   .rw[M0 (by rw[miss i OW (by lia)];decide)];refine M1 ⟨rfl,rfl,i+1,by lia,?_⟩;rw[show items.size-(i+1)=k by lia]
  .rintro b s' ⟨_,_,i,hi,er⟩;have:=congrArg RM er;rw[List.length_range'] at this;simp at this;lia
  .exact⟨rfl,rfl,0,Ow _,by rw[hN];rfl⟩
def Jv (K:MZ):V->List V->Hp->VK->Prop:=λo vs H Q=>∃(p:A') (ns:List Int) (i:Int),o=.ref p/\vs=[.int i]/\Ni K H p (ns.map V.int)/\i∈ns/\Q (.int ((ns.idxOf i:Nat):Int)) H
theorem i4:Z7 X "tuple.index" (Jv X.K):=by
 intro aa s σ H o vs v us Q I ro rv h;obtain⟨p,ns,i,rfl,rfl,hp,hi,q⟩:=h;cases ro;obtain⟨u,rfl,ru⟩:=rv.one;obtain⟨MY,r,pl,hz⟩:=I.tuple hp;obtain⟨⟨cls,dd,data,sl⟩,ho,hc,n,hd⟩:=pl;simp only at hc hd;subst hc hd;have hl:=r.length;rw[NT] at hl;have fs:(ns.map V.int).all dC=true:=by simp[dC]
 have hj:ns.idxOf i<ns.length:=List.idxOf_lt_length_iff.mpr hi;have Vo:ns.idxOf i<MY.toArray.size:=by simp;lia
 have at_:∀(k:Nat) (hk:k<MY.toArray.size) (z:Int),ns[k]?=some z->Qw (.int i) MY.toArray[k]=decide (z=i):=λk hk z hz=>by
  obtain⟨w,e1,e2⟩:=r.get (i:=k) (x:=V.int z) (by rw[Pa,hz];rfl);have:MY.toArray[k]=w:=by
   have:=(OA.mp e1).2;simpa using this
  rw[this];have e3:=tE (x:=V.int i) e2 rfl;rw[e3];show(z==i)=decide (z=i);rw[Sz];simp
 refine Xv YW ⟨_,ho,rfl⟩ PySem.F.entry_tuple_index (PySem.F.args_tuple_index_2 _ _)
  (sv p MY.toArray n dd sl u (Qw (.int i)) (ns.idxOf i) Vo (by rw[at_ _ Vo i (by rw[Ou hj,aeW]),Nz rfl]) λm hm N9=>?_) ⟨ho,λz hz=>gh ru rfl r fs z (by simpa using hz),?_⟩
 .have Uo:m<ns.length:=by lia
  rw[at_ m hm _ (Ou Uo)];refine Ny λe=>?_;unfold List.idxOf at N9;have:=List.not_of_lt_findIdx N9;simp[e] at this
 .exact⟨.int ((ns.idxOf i:Nat):Int),H,I.tok _,⟨s.toks,rfl⟩,q⟩
theorem nH:PlainAttrs "tuple" where
 ga:=⟨"tuple.__getattribute__",by rw[Ze,Y1];rfl,by decide +kernel⟩
 noGetattr:=by rw[Ze,Y1];rfl
section
theorem ER {σ:St}(I:Inv X aa σ H s)(h:Ni X.K H p xs):s.TypeIs (.ref p) "tuple"/\∀a,NQ p=.ref a->∃ob,s.heap.get? a=some ob/\ob.dict=none:=by
 rcases h with h|⟨o,MY,n,hk,hc,hs,hz,r,hd⟩
 .obtain⟨z,MY,r,o,e,c,n,d,hd⟩:=h.ok I.Nf;exact⟨⟨o,e,c⟩,λa ea=>by cases ea;exact⟨o,e,hd⟩⟩
 .exact⟨⟨o,I.Ox p o hk,hc⟩,λa ea=>by cases ea;exact⟨o,I.Ox _ o hk,hd⟩⟩
variable {X:Cx}{o:Nn}{e:Nn}{es:List Nn}{to:TE}{t:TA}{name:MV}{apos:NS}{O6:NS}{id:String}{r:V->List V->Hp->VK->Prop} in
theorem o9 (slot:Slot "tuple" name id)(hty:typeOf (.builtin id)=pure (.type "method_descriptor"))(hm:Z7 X id r)(ho:PE X o to)(ha:PA X (e::es) t)(abi:attributeBase o name X.env (eval o X.env)=eval o X.env:=by rfl)(abr:((backTo O6 (Ob (e::es) X.env)).all (λx=>!x.1)&&(backToKw O6 (keywordEach [] X.env)).all (λx=>x.1.isSome)
   && decide ((e::es).length+([]:List V4).length+(if ([]:List V4).isEmpty then 0 else 1)<30))=true:=by rfl)(abj:(apos.endLine==O6.line)=true:=by rfl)(hs:Ob (e::es) X.env=(false,eval e X.env)::Ob es X.env:=by rfl)(abd:(backTo O6 (Ob es X.env)).any (·.1)=false:=by rfl):
  PE X (.Call (.Attribute o name apos) (e::es) [] O6) (λσ H Q=>to σ H λx H1=>(∃p xs,x=.ref p/\Ni X.K H1 p xs)/\t σ H1 λys H2=>r x ys H2 Q):=by
 intro aa s σ H Q I h;refine wpAny_Call_method_late abi abr abj rfl (Nk (ho aa s σ H _ I h) λv s1 ⟨x,H1,I1,r1,⟨p,xs,ex,hq⟩,q1⟩=>?_);subst ex;cases r1;obtain⟨h1,h2⟩:=ER I1 hq;refine⟨"tuple",id,nH,slot,hty,h1,h2,?_⟩;have hA:=ha O6 aa s1 σ H1 _ I1 q1;rw[hs] at hA ⊢;refine ab7 (by show(false||(backTo O6 (Ob es X.env)).any (·.1))=false;rw[abd] <;> rfl) (aan ?_);exact Nk hA λus s2 ⟨vs,H2,I2,r2,q2⟩=>hm aa s2 σ H2 (.ref p) vs (.ref p) us Q I2 rfl r2 q2
end
end L2
namespace Ord
open PySem L2 Mx
abbrev qh:M':=top 46
abbrev vw:M':=top 47
abbrev pc:M':=top 45
def ce (K:MZ)(H:Hp):V->Bk.Rl->Prop
 | v,.bs b=>∃p,v=.ref p/\Ni K H p (Ss b)
 | v,.Nr r=>∃p x,v=.ref p/\Ni K H p [.str "not",x]/\ce K H x r
 | v,.both r s=>∃p x y,v=.ref p/\Ni K H p [.str "both",x,y]/\ce K H x r/\ce K H y s
 | v,.either r s=>∃p x y,v=.ref p/\Ni K H p [.str "either",x,y]/\ce K H x r/\ce K H y s
theorem ce.mono (s:∀{a xs},Ni K H a xs->Ni K H' a xs):∀{r:Bk.Rl}{v:V},ce K H v r->ce K H' v r
 | .bs _,_,⟨p,e,q⟩=>⟨p,e,s q⟩
 | .Nr _,_,⟨p,x,e,q,h⟩=>⟨p,x,e,s q,h.mono s⟩
 | .both _ _,_,⟨p,x,y,e,q,h,h'⟩=>⟨p,x,y,e,s q,h.mono s,h'.mono s⟩
 | .either _ _,_,⟨p,x,y,e,q,h,h'⟩=>⟨p,x,y,e,s q,h.mono s,h'.mono s⟩
theorem ce.same (s:aB H H')(h:ce K H v r):ce K H' v r:=h.mono λq=>s.NM q
def cW:Bk.Bs->MV
 | .free=>"free" | .at_ _ _=>"at" | .ahead _ _=>"ahead" | .next _ _=>"next" | .QI=>"even"
def eu:Bk.Bs->List Nat
 | .free=>[] | .at_ p t=>[p,t] | .ahead p t=>[p,t] | .next p t=>[p,t] | .QI=>[]
theorem vx (b):Ss b=.str (cW b)::dz (eu b):=by cases b <;> rfl
section
structure UE (P)(w)(K)(mg:MV->Option D')(CO aN aR aJ aF)(kN kR kJ):Prop where
 k:Vy K mg CO
 str:mg "str"=none
 most:∃t,mg "MOST_WITHIN"=some (.int 6 t)
 nb:mg "NUMBERS_BEHIND"=some (.ref aN)
 dN:gU P w K aN kN
 vN:∀b:Bk.Bs,b≠.free->∃t,valueAt kN (.inr (cW b))=some (.int ((eu b).length:Nat) t)
 nN:valueAt kN (.inr "not")=none/\valueAt kN (.inr "both")=none/\valueAt kN (.inr "either")=none
 rb:mg "RULES_BEHIND"=some (.ref aR)
 dR:gU P w K aR kR
 vR:(∃t,valueAt kR (.inr "not")=some (.int 1 t))/\(∃t,valueAt kR (.inr "both")=some (.int 2 t))/\(∃t,valueAt kR (.inr "either")=some (.int 2 t))
 jo:mg "JOINS"=some (.ref aJ)
 dJ:gU P w K aJ kJ
 vJ:(∃t,valueAt kJ (.inr "both")=some (.str "and" t))/\(∃t,valueAt kJ (.inr "either")=some (.str "or" t))
 nJ:∀b:Bk.Bs,valueAt kJ (.inr (cW b))=none
 fr:mg "FREE"=some (.ref aF)
 sF:∀H,Ni K H aF [.str "free"]
def nK (K:MZ):Sp:=λvs H Q _=>∃(r:A') (xs:List V) (c:Nat),vs=[.ref r,.int (c:Int)]/\Ni K H r xs/\xs.length=c+1/\Q .Nr H
theorem CS:N3 ["rule","count"] ["rule","count"] (am qh):=⟨rfl,rfl,rfl,by decide +kernel,rfl,by decide +kernel,by decide +kernel⟩
theorem AU (F:NE K "look_parts_behind" "look_parts_behind" qh f fd)(T:Oy K mg CO):Nq P w K mg base Nb 1 f fd ["rule","count"] (nK K):=by
 refine F.ok CS (λvs H Q E h=>?_) (λNo A outer s H vs Q E hr h=>?_)
 .obtain⟨r,xs,c,rfl,_⟩:=h;rfl
 obtain⟨r,xs,c,rfl,q,hl,z⟩:=h;refine⟨_,af (aD (ar fS (aQ bd rfl T.t.len cq (ac (pv 0) ae)) (aO bR (pv 1) ag) (aw _)) (af ao) au),?_⟩;refine⟨_,rfl,r,_,rfl,.inr q,_,rfl,_,_,rfl,rfl,rfl,_,rfl,?_⟩;rw[hl,show(((c+1:Nat)):Int)=(c:Int)+1 by lia,Nz rfl];exact aA z
def qi (K:MZ):Sp:=λvs H Q _=>∃(r:A') (b:Bk.Bs) (many:Nat),vs=[.int (many:Int),.ref r]/\Ni K H r (Ss b)/\Bk.YB many b/\b≠.free/\∀H',aB H H'->Q .Nr H'
theorem xr:N3 ["many","rule","number"] ["many","rule"] (am vw):=⟨rfl,rfl,rfl,by decide +kernel,rfl,by decide +kernel,by decide +kernel⟩
theorem CT:∀{b:Bk.Bs},Bk.YB many b->∀n∈eu b,n<many
 | .free,_,n,h=>nomatch h
 | .QI,_,n,h=>nomatch h
 | .at_ p t,⟨h1,h2⟩,n,h=>by
  simp only[eu,NG,Pf,or_false] at h;rcases h with rfl|rfl <;> assumption
 | .ahead p t,⟨h1,h2,_⟩,n,h=>by
  simp only[eu,NG,Pf,or_false] at h;rcases h with rfl|rfl <;> assumption
 | .next p t,⟨h1,h2,_⟩,n,h=>by
  simp only[eu,NG,Pf,or_false] at h;rcases h with rfl|rfl <;> assumption
theorem qj (x)(xs):cQ (x::xs) (some 1) none=xs:=by
 unfold cQ HT.NI;simp
theorem CU (F:NE K "look_numbers" "look_numbers" vw f fd)(W:Df P w K mg base Nb 1 "is_whole" ["value"] hV):Nq P w K mg base Nb 2 f fd ["many","rule"] (qi K):=by
 refine F.ok xr (λvs H Q E h=>?_) (λNo A outer s H vs Q E hr h=>?_)
 .obtain⟨r,b,many,rfl,_⟩:=h;rfl
 obtain⟨r,b,many,rfl,q,hb,nf,z⟩:=h;refine⟨_,ad (dQ RL rfl (im (gf (nU) (pv 1) (gZ ag) gY)) (cJ (i:=2) xr.nd rfl (by first|exact NB rfl|exact N' rfl))
   (af (aD (PW.pt (gQ (cf (cp (aE W hr rfl (az (E:=λ_ _ _ _=>False)) (ac (pv 2) ae)))) (ig (cf (jO iM iL ag (pv 2) (pv 0)))))) (af ao) au)))
  (af (aD (PW.pt (ji (ar (show N4 _ _ (Tw K false) from fH) (ay (show Np _ (aU K) from ax) (pv 1) ag (λ_ _=>rfl)) (bI (ac bc (ac bc ae))) rfl) (gX (ar bf (ay (show Np _ (aU K) from ax) (pv 1) ag (λ_ _=>rfl)) (ay (show Np _ (aU K) from ax) (pv 1) ag (λ_ _=>rfl)) (aw _))))) (af ao) au)),?_⟩
 have q0:=q;rw[vx] at q;have nw:¬(HT.NI (V.str (cW b)::dz (eu b)).length 0 (some 1)=0/\HT.NI (V.str (cW b)::dz (eu b)).length (V.str (cW b)::dz (eu b)).length none=(V.str (cW b)::dz (eu b)).length):=λh=>by
  have:=h.1;unfold HT.NI at this;simp at this
 refine⟨_,rfl,1,rfl,r,_,rfl,q,nw,λp hp=>?_⟩;rw[qj];have s1:=ak hp (.tup (dz (eu b)));refine⟨p,rfl,⟨_,Ni.up⟩,lE (K:=K) (a:=p) (xs:=dz (eu b)) (λi σ H2=>∃v2,σ=[some (.int (many:Int)),some (.ref r),v2]/\H2=upd H p (.tup (dz (eu b)))) ⟨none,rfl,rfl⟩ ?_ ?_ ?_⟩
 .rintro i σ H2 _ ⟨v2,rfl,rfl⟩;exact Ni.up
 .rintro i x σ H2 hx ⟨v2,rfl,rfl⟩;unfold dz at hx;rw[Pa] at hx;obtain⟨n,hn,rfl⟩:=TV.mp hx;have lt:=CT hb n (Oo hn);refine⟨_,rfl,_,rfl,_,rfl,aA ?_⟩;refine⟨_,rfl,_,_,rfl,rfl,_,rfl,?_⟩;rw[Nz (show(0:Int)<=(n:Int) by lia)];refine aZ ⟨_,rfl,_,_,rfl,rfl,_,rfl,?_⟩;rw[Nz (show(n:Int)<(many:Int) by lia)];exact aA ⟨_,rfl,rfl⟩
 .rintro σ H2 ⟨v2,rfl,rfl⟩;refine⟨_,rfl,r,_,0,.str (cW b),rfl,rfl,s1.NM q,bU,by show 2<=Nh;decide,λp2 QK=>?_⟩;have s2:=s1.trans (ak QK (.tup [V.str "ahead",V.str "next"]));refine⟨p2,_,rfl,.inr Ni.up,rfl,rfl,_,rfl,?_⟩;cases b with
  | free=>exact Nc rfl nf
  | at_ p t=>exact aA (aA (z _ s2))
  | QI=>exact aA (aA (z _ s2))
  | ahead a c=>
   refine aZ ⟨_,rfl,r,_,1,.int (a:Int),rfl,rfl,s2.NM q,rfl,_,rfl,r,_,2,.int (c:Int),rfl,rfl,s2.NM q,rfl,rfl,_,rfl,?_⟩;rw[cF,Ny hb.2.2];exact aA (z _ s2)
  | next a c=>
   refine aZ ⟨_,rfl,r,_,1,.int (a:Int),rfl,rfl,s2.NM q,rfl,_,rfl,r,_,2,.int (c:Int),rfl,rfl,s2.NM q,rfl,rfl,_,rfl,?_⟩;rw[cF,Ny hb.2.2];exact aA (z _ s2)
end
theorem AV:Qc "str"=some (.type "str"):=by decide +kernel
theorem xt:UU K (.type "str") (.type "str")=some true:=rfl
section
def jJ (K:MZ)(n:Nat):Sp:=λvs H Q _=>∃(v:V) (r:Bk.Rl) (many d:Nat),vs=[.int (many:Int),v,.int (d:Int)]/\ce K H v r/\Bk.QB many r/\Bk.Oj r<=n/\d+Bk.Oj r<=7/\∀H',aB H H'->Q .Nr H'
abbrev NLR:List MV:=["many","rule","depth","part"]
theorem xu:N3 NLR ["many","rule","depth"] (am pc):=⟨rfl,rfl,rfl,by decide +kernel,rfl,by decide +kernel,by decide +kernel⟩
theorem qk:∀r:Bk.Rl,1<=Bk.Oj r
 | .bs _=>Nl _
 | .Nr _=>acM _ _
 | .both _ _=>acM _ _
 | .either _ _=>acM _ _
def cw:Bk.Rl->List Bk.Rl
 | .bs _=>[] | .Nr r=>[r] | .both r s=>[r,s] | .either r s=>[r,s]
def bM:Bk.Rl->MV
 | .bs b=>cW b | .Nr _=>"not" | .both _ _=>"both" | .either _ _=>"either"
theorem rZ:∀{r:Bk.Rl},ce K H v r->(∀b,r≠.bs b)->∃p xs,v=.ref p/\Ni K H p (.str (bM r)::xs)/\Nd (ce K H) xs (cw r)
 | .bs b,_,n=>Nc rfl (n b)
 | .Nr _,⟨p,x,e,q,h⟩,_=>⟨p,_,e,q,.cons h .nil⟩
 | .both _ _,⟨p,x,y,e,q,h,h'⟩,_=>⟨p,_,e,q,.cons h (.cons h' .nil)⟩
 | .either _ _,⟨p,x,y,e,q,h,h'⟩,_=>⟨p,_,e,q,.cons h (.cons h' .nil)⟩
theorem xx:∀{r:Bk.Rl},Bk.QB many r->∀s∈cw r,Bk.QB many s/\Bk.Oj s+1<=Bk.Oj r
 | .bs _,_,s,h=>nomatch h
 | .Nr r,k,s,h=>by
  rw[Pl.mp h];exact⟨k,Nl _⟩
 | .both r s',k,s,h=>by
  simp only[cw,NG,Pf,or_false] at h;have h1:=aaI (Bk.Oj r) (Bk.Oj s');have h2:=aaF (Bk.Oj r) (Bk.Oj s');rcases h with rfl|rfl
  .exact⟨k.1,VN h1⟩
  .exact⟨k.2,VN h2⟩
 | .either r s',k,s,h=>by
  simp only[cw,NG,Pf,or_false] at h;have h1:=aaI (Bk.Oj r) (Bk.Oj s');have h2:=aaF (Bk.Oj r) (Bk.Oj s');rcases h with rfl|rfl
  .exact⟨k.1,VN h1⟩
  .exact⟨k.2,VN h2⟩
theorem UE.vW (T:UE P w K mg CO aN aR aJ aF kN kR kJ):∀{r:Bk.Rl},(∀b,r≠.bs b)->valueAt kN (.inr (bM r))=none/\∃t,valueAt kR (.inr (bM r))=some (.int ((cw r).length:Nat) t)
 | .bs b,n=>Nc rfl (n b)
 | .Nr _,_=>⟨T.nN.1,T.vR.1⟩
 | .both _ _,_=>⟨T.nN.2.1,T.vR.2.1⟩
 | .either _ _,_=>⟨T.nN.2.2,T.vR.2.2⟩
theorem se (F:NE K "look_rule" "look_rule" pc f fd)(T:UE P w K mg CO aN aR aJ aF kN kR kJ)(WP:Df P w K mg base Nb 1 "look_parts_behind" ["rule","count"] (nK K))(WN:Df P w K mg base Nb 2 "look_numbers" ["many","rule"] (qi K))(n:Nat)(WW:∀m,n=m+1->Df P w K mg base Nb (m+2) "look_rule" ["many","rule","depth"] (jJ K m)):Nq P w K mg base Nb (n+2) f fd ["many","rule","depth"] (jJ K n):=by
 refine F.ok xu (λvs H Q E h=>?_) (λNo A outer s H vs Q E hr h=>?_)
 .obtain⟨v,r,many,d,rfl,_⟩:=h;rfl
 obtain⟨v,r,many,d,rfl,ra,ok,hn,hd,z⟩:=h;obtain⟨t6,m6⟩:=T.most;have hp:=qk r;cases n with
 | zero=>lia
 | succ n=>
 have D:=WW n rfl
 by_cases hb:∃b,r=.bs b
 .obtain⟨b,rfl⟩:=hb;obtain⟨p,rfl,q⟩:=ra;obtain⟨TM,nf⟩:=ok;obtain⟨tn,hv⟩:=T.vN b nf;have q0:=q;rw[vx] at q;refine⟨_,ad (aD (ar iO (pv 2) (aM (v:=.int 6) rfl m6 ⟨t6,rfl⟩) (aw _)) (af ao) au)
   (ad (aD (PW.pt (gQ (cf (cp (aQ cZ rfl T.k.t.t.Sm fT (ac (pv 1) (ac (dM (v:=.ty "tuple") rfl T.k.t.t.tuple dB rfl) ae)))))
    (gQ (ar bf (aQ bd rfl T.k.t.t.len cq (ac (pv 1) ae)) ag (aw _)) (ig (cf (cp (aQ cZ rfl T.k.t.t.Sm fT (ac (ay (show Np _ (aU K) from ax) (pv 1) ag (λ_ _=>rfl)) (ac (dM (v:=.ty "str") rfl T.str AV rfl) ae))))))))) (af ao) au)
   (af (aD (ar (jI T.dN) (ay (show Np _ (aU K) from ax) (pv 1) ag (λ_ _=>rfl)) (aM (v:=.ref aN) rfl T.nb rfl) rfl)
    (ad (bE (aE WP (hr.mono (by lia)) rfl (az (E:=λ_ _ _ _=>False)) (ac (pv 1) (ac (jG T.dN (aM (v:=.ref aN) rfl T.nb rfl) (ay (show Np _ (aU K) from ax) (pv 1) ag (λ_ _=>rfl)) (λ_ _=>rfl)) ae))))
     (af (bE (aE WN (hr.mono (by lia)) rfl (az (E:=λ_ _ _ _=>False)) (ac (pv 0) (ac (pv 1) ae))))))
    (af ao)))),?_⟩
  refine⟨_,rfl,_,_,rfl,rfl,_,rfl,?_⟩;rw[Ny (show ¬(6:Int)<(d:Int) by lia)];refine aA ⟨_,rfl,_,_,_,_,_,rfl,rfl,.tup q,jt,_,rfl,aA ?_⟩;refine⟨_,rfl,p,_,rfl,.inr q,rfl,_,rfl,?_⟩;rw[Ny (λh=>by have:=V.int.inj h;rw[OB] at this;lia)];refine aA ⟨_,rfl,p,_,0,.str (cW b),rfl,rfl,q,bU,_,_,_,_,_,rfl,rfl,.of (.str _),xt,_,rfl,aA ?_⟩;refine⟨_,rfl,p,_,0,.str (cW b),rfl,rfl,q,bU,.inr (cW b),rfl,rfl,_,rfl,?_⟩;rw[hv];refine aZ ⟨_,rfl,_,rfl,p,_,0,.str (cW b),rfl,rfl,q,bU,.inr (cW b),.int ((eu b).length:Nat),_,rfl,rfl,hv,⟨_,rfl⟩,?_⟩;refine⟨p,_,(eu b).length,rfl,q,by simp[dz],?_⟩;exact⟨_,rfl,_,rfl,p,b,many,rfl,q0,TM,nf,z⟩
 .have nb:∀b,r≠.bs b:=λb e=>hb ⟨b,e⟩;obtain⟨p,xs,rfl,q,pk⟩:=rZ ra nb;obtain⟨hN,tr,hR⟩:=T.vW nb;have lk:=pk.length;refine⟨_,ad (aD (ar iO (pv 2) (aM (v:=.int 6) rfl m6 ⟨t6,rfl⟩) (aw _)) (af ao) au)
   (ad (aD (PW.pt (gQ (cf (cp (aQ cZ rfl T.k.t.t.Sm fT (ac (pv 1) (ac (dM (v:=.ty "tuple") rfl T.k.t.t.tuple dB rfl) ae)))))
    (gQ (ar bf (aQ bd rfl T.k.t.t.len cq (ac (pv 1) ae)) ag (aw _)) (ig (cf (cp (aQ cZ rfl T.k.t.t.Sm fT (ac (ay (show Np _ (aU K) from ax) (pv 1) ag (λ_ _=>rfl)) (ac (dM (v:=.ty "str") rfl T.str AV rfl) ae))))))))) (af ao) au)
   (af (aD (ar (jI T.dN) (ay (show Np _ (aU K) from ax) (pv 1) ag (λ_ _=>rfl)) (aM (v:=.ref aN) rfl T.nb rfl) rfl)
    (ad ao (af ao))
    (af (aD (ar (jI T.dR) (ay (show Np _ (aU K) from ax) (pv 1) ag (λ_ _=>rfl)) (aM (v:=.ref aR) rfl T.rb rfl) rfl)
     (ad (bE (aE WP (hr.mono (by lia)) rfl (az (E:=λ_ _ _ _=>False)) (ac (pv 1) (ac (jG T.dR (aM (v:=.ref aR) rfl T.rb rfl) (ay (show Np _ (aU K) from ax) (pv 1) ag (λ_ _=>rfl)) (λ_ _=>rfl)) ae))))
      (af (dQ RL rfl (im (gf (nU) (pv 1) (gZ ag) gY)) (cJ (i:=3) xu.nd rfl (by first|exact NB rfl|exact N' rfl))
       (af (bE (aE D (hr.mono (by lia)) rfl (az (E:=λ_ _ _ _=>False)) (ac (pv 0) (ac (pv 3) (ac (aO bR (pv 2) ag) ae)))))))))
     (af ao)))))),?_⟩
  refine⟨_,rfl,_,_,rfl,rfl,_,rfl,?_⟩;rw[Ny (show ¬(6:Int)<(d:Int) by lia)];refine aA ⟨_,rfl,_,_,_,_,_,rfl,rfl,.tup q,jt,_,rfl,aA ?_⟩;refine⟨_,rfl,p,_,rfl,.inr q,rfl,_,rfl,?_⟩;rw[Ny (λh=>by have:=V.int.inj h;rw[OB] at this;lia)];refine aA ⟨_,rfl,p,_,0,.str (bM r),rfl,rfl,q,bU,_,_,_,_,_,rfl,rfl,.of (.str _),xt,_,rfl,aA ?_⟩;refine⟨_,rfl,p,_,0,.str (bM r),rfl,rfl,q,bU,.inr (bM r),rfl,rfl,_,rfl,?_⟩;rw[hN];refine aA ⟨_,rfl,p,_,0,.str (bM r),rfl,rfl,q,bU,.inr (bM r),rfl,rfl,_,rfl,?_⟩;rw[hR];refine aZ ⟨_,rfl,_,rfl,p,_,0,.str (bM r),rfl,rfl,q,bU,.inr (bM r),.int ((cw r).length:Nat),_,rfl,rfl,hR,⟨_,rfl⟩,?_⟩;refine⟨p,_,(cw r).length,rfl,q,by rw[OB,lk],?_⟩;have nw:¬(HT.NI (V.str (bM r)::xs).length 0 (some 1)=0/\HT.NI (V.str (bM r)::xs).length (V.str (bM r)::xs).length none=(V.str (bM r)::xs).length):=λh=>by
   have:=h.1;unfold HT.NI at this;simp at this
  refine⟨_,rfl,1,rfl,p,_,rfl,q,nw,λp1 θ=>?_⟩;rw[qj];have s1:=ak θ (.tup xs);refine⟨p1,rfl,⟨_,Ni.up⟩,lE (K:=K) (a:=p1) (xs:=xs) (λi σ H2=>∃v3,σ=[some (.int (many:Int)),some (.ref p),some (.int (d:Int)),v3]/\aB (upd H p1 (.tup xs)) H2) ⟨none,rfl,aB.refl _⟩ ?_ ?_ ?_⟩
  .rintro i σ H2 _ ⟨v3,rfl,s2⟩;exact s2.NM Ni.up
  .rintro i x σ H2 hx ⟨v3,rfl,s2⟩;obtain⟨r',RU,rx⟩:=cy pk hx;obtain⟨k1,k2⟩:=xx ok r' (Oo RU);refine⟨_,rfl,_,rfl,_,rfl,_,_,rfl,rfl,x,r',many,d+1,by simp,rx.same (s1.trans s2),k1,by lia,by lia,λH3 s3=>?_⟩;exact⟨_,rfl,s2.trans s3⟩
  .rintro σ H2 ⟨v3,rfl,s2⟩;exact z _ (s1.trans s2)
theorem vy (F:NE K "look_rule" "look_rule" pc f fd)(T:UE P w K mg CO aN aR aJ aF kN kR kJ)(WP:Df P w K mg base Nb 1 "look_parts_behind" ["rule","count"] (nK K))(WN:Df P w K mg base Nb 2 "look_numbers" ["many","rule"] (qi K))(b:bH K fd ["many","rule","depth"] [])(m:mg "look_rule"=some (.ref f)):∀n,Nq P w K mg base Nb (n+2) f fd ["many","rule","depth"] (jJ K n)
 | 0=>se F T WP WN 0 λm h=>nomatch h
 | n+1=>se F T WP WN (n+1) λk h=>by
  cases h;exact⟨f,fd,vy F T WP WN b m n,b,F.kp,m⟩
end
end Ord
namespace L2
open PySem PySem.Spec PyProof.Rows
theorem ES (xs)(k:Nat):cQ xs none (some (k:Int))=xs.take k:=by
 unfold cQ;rw[HT.wm,HT.mW];simp only[aaN,Nat.sub_zero]
 by_cases h:k<=xs.length
 .rw[Nat.min_eq_left h]
 .rw[Nat.min_eq_right (by lia),W' (Nl _),W' (by lia)]
theorem AW (xs):cQ xs (some (-1)) none=xs.drop (xs.length-1):=by
 unfold cQ;have e:HT.NI xs.length 0 (some (-1))=xs.length-1:=by
  simp only[HT.NI];rw[M6 (by decide)];lia
 rw[e,HT.mW];exact W' (by rw[Xl];lia)
def DA (K:MZ):R2:=λx y H Q=>∃a b xs ys,x=.ref a/\y=.ref b/\Ni K H a xs/\Ni K H b ys/\xs.length+ys.length<=Nh/\∀r H',aB H H'->Ni K H' r (xs++ys)->Q (.ref r) H'
theorem ET:N4 X (binaryOp .Add) (DA X.K):=by
 intro aa s σ H x y v u Q I rx ry h;obtain⟨a,b,xs,ys,e1,e2,ha,hb,hz,q⟩:=h
 by_cases hx:xs=[]
 .subst hx;exact BC aa s σ H x y v u Q I rx ry ⟨a,b,ys,e1,e2,ha,hb,q b H (aB.refl H) hb⟩
 .refine wt aa s σ H x y v u Q I rx ry ⟨a,b,xs,ys,e1,e2,ha,hb,hx,hz,λhy=>?_,λhy p hp=>?_⟩
  .subst hy;exact q a H (aB.refl H) (by rw[QD];exact ha)
  .exact q p _ (ak hp _) Ni.up
section
variable {α β γ:Type} [DecidableEq α] [DecidableEq β] [DecidableEq γ]
def mB (a b:α×β×γ)(j:Nat):Bool:=match j with
 | 0=>decide (a.1=b.1)
 | 1=>decide (a.2.1=b.2.1)
 | _=>decide (a.2.2=b.2.2)
theorem vz (k1:Dk α)(k2:Dk β)(k3:Dk γ){X:Cx}{aa:List (A'×G')}{σ:St}{H:Hp}{s:J'}{A:Nv}{x1 x2 x3 y1 y2 y3:V}{a b:α×β×γ}{us vs:List D'}(I:Inv X aa σ H s)(hu:A.units+(k1.OT+k2.OT+k3.OT)<ND)(p1:k1.rep X.K H x1 a.1)(p2:k2.rep X.K H x2 a.2.1)(p3:k3.rep X.K H x3 a.2.2)(q1:k1.rep X.K H y1 b.1)(q2:k2.rep X.K H y2 b.2.1)(q3:k3.rep X.K H y3 b.2.2)(r1:aL [x1,x2,x3] us)(r2:aL [y1,y2,y3] vs):
  us.toArray.size=3/\vs.toArray.size=3/\∀j (h1:j<us.toArray.size) (h2:j<vs.toArray.size),RP A s us.toArray[j] vs.toArray[j] (mB a b j):=by
 cases r1 with
 | cons s1 r1=>cases r1 with
 | cons s2 r1=>cases r1 with
 | cons s3 r1=>cases r1 with
 | nil=>cases r2 with
 | cons t1 r2=>cases r2 with
 | cons t2 r2=>cases r2 with
 | cons t3 r2=>cases r2 with
 | nil=>
  refine⟨rfl,rfl,λj h1 h2=>?_⟩
  match j,h1,h2 with
  | 0,_,_=>exact k1.Tn I (by lia) p1 q1 s1 t1
  | 1,_,_=>exact k2.Tn I (by lia) p2 q2 s2 t2
  | 2,_,_=>exact k3.Tn I (by lia) p3 q3 s3 t3
  | n+3,h,_=>exact Nc h (by simp)
theorem qo (a b:α×β×γ):((Oe (min 3 3)).all (mB a b)&&3==3)=decide (a=b):=by
 obtain⟨a1,a2,a3⟩:=a;obtain⟨b1,b2,b3⟩:=b;simp[Oe,Oe.loop,Prod.ext_iff,mB]
theorem sw {p q:Prop}[Decidable p][Decidable q](h:p↔q):decide p=decide q:=by
 by_cases c:p
 .rw[Nz c,Nz (h.mp c)]
 .rw[Ny c,Ny λz=>c (h.mpr z)]
def Kf (k1:Dk α)(k2:Dk β)(k3:Dk γ):Dk (α×β×γ) where
 rep:=λK H x a=>∃p x1 x2 x3,x=.ref p/\Ni K H p [x1,x2,x3]/\k1.rep K H x1 a.1/\k2.rep K H x2 a.2.1/\k3.rep K H x3 a.2.2
 OT:=k1.OT+k2.OT+k3.OT+1
 mono:=λs ⟨p,x1,x2,x3,e,q,r1,r2,r3⟩=>⟨p,x1,x2,x3,e,s.NM q,k1.mono s r1,k2.mono s r2,k3.mono s r3⟩
 fn:=λ{X aa σ H s x a b} I ⟨p,x1,x2,x3,e,q,r1,r2,r3⟩ ⟨p',y1,y2,y3,e',q',t1,t2,t3⟩=>by
  rw[e] at e';cases e';have:=I.Xy q q';cases this;exact XA (k1.fn I r1 t1) (XA (k2.fn I r2 t2) (k3.fn I r3 t3))
 Tn:=λ{X aa σ H s A x y a b u v} I hu ⟨p,x1,x2,x3,e,q,r1,r2,r3⟩ ⟨p',y1,y2,y3,e',q',t1,t2,t3⟩ rx ry=>by
  subst e e';cases rx;cases ry
  by_cases hp:p=p'
  .subst hp;have:=I.Xy q q';cases this;have:a=b:=XA (k1.fn I r1 t1) (XA (k2.fn I r2 t2) (k3.fn I r3 t3));subst this;rw[Nz rfl];exact Xm _
  .obtain⟨MY,v1,w1,_⟩:=I.tuple q;obtain⟨its',v2,w2,_⟩:=I.tuple q';refine Y3 hp ?_;obtain⟨z1,z2,ev⟩:=vz k1 k2 k3 (A:=A.in1) I (by show A.units+1+_<ND;lia) r1 r2 r3 t1 t2 t3 v1 v2;have h:=Xi (A:=A) (e:=mB a b) w1 w2 (by lia) ev;rw[z1,z2,qo] at h;exact h
 XQ:=λ{X aa σ H s A x y a b u v} I hu ⟨p,x1,x2,x3,e,q,r1,r2,r3⟩ ⟨p',y1,y2,y3,e',q',t1,t2,t3⟩ rx ry=>by
  subst e e';cases rx;cases ry;obtain⟨MY,v1,w1,_⟩:=I.tuple q;obtain⟨its',v2,w2,_⟩:=I.tuple q';obtain⟨z1,z2,ev⟩:=vz k1 k2 k3 (A:=A.in1) I (by show A.units+1+_<ND;lia) r1 r2 r3 t1 t2 t3 v1 v2;have h:=Xi (A:=A) (e:=mB a b) w1 w2 (by lia) ev;rw[z1,z2,qo] at h;exact h
 XR:=λ{X aa σ H s A x y a b u v} I hu ⟨p,x1,x2,x3,e,q,r1,r2,r3⟩ ⟨p',y1,y2,y3,e',q',t1,t2,t3⟩ rx ry=>by
  subst e e';cases rx;cases ry;obtain⟨MY,v1,w1,_⟩:=I.tuple q;obtain⟨its',v2,w2,_⟩:=I.tuple q';obtain⟨z1,z2,ev⟩:=vz k1 k2 k3 (A:=A.in1) I (by show A.units+1+_<ND;lia) r1 r2 r3 t1 t2 t3 v1 v2;have h:=aeJ (A:=A) (e:=mB a b) w1 w2 (by lia) ev;rw[z1,z2,qo] at h;exact h
end
end L2
namespace Ord
open PySem L2 Mx
theorem kr (many:Nat):bx many []=([],0):=by unfold bx;rw[M6 rfl]
theorem qp {os:Bk.ap}(h:os≠[]):bx many os=((Bk.lay many os []).2,(Bk.lay many os []).1):=by unfold bx;rw[M0 h]
section
variable {many:Nat}{os:Bk.ap}(S:Bk.Op many os)
include S
theorem Op.whole:ZA many (bx many os).1 (bx many os).2:=by
 have m1:=S.m1;have m5:=S.m5
 by_cases e:os=[]
 .subst e;rw[kr];exact yr m1 (by lia)
 .rw[qp e];exact Ap m1 (by lia) S.XX e (S.rooms e)
theorem Op.Pd:Bk.Pd (bx many os).1 (bx many os).2=os:=by
 by_cases e:os=[]
 .subst e;rw[kr];exact Bk.uA []
 .rw[qp e];obtain⟨a,b⟩:=EB S.XX e;exact a.eq S.RH b
end
theorem CV (m1:1<=many)(m5:many<=5)(ho:o∈Bk.dU many):tW many o:=by
 obtain⟨a,b⟩:=Bk.iD m1 m5 ho;exact⟨by lia,by lia,by lia,b⟩
abbrev pe:Dk (Int×List (List (List Int))×Int):=Kf yb (kM bS) yb
def Kg (many:Nat)(p:List Bk.MX×Nat):Int×List (List (List Int))×Int:=((many:Int),p.1.map enc,(p.2:Int))
theorem gx {many:Nat}(h:QV K H x many p.1 p.2):pe.rep K H x (Kg many p):=by
 obtain⟨b,l,xs,e,q,ql,pr⟩:=h.ex;exact⟨b,_,_,_,e,q,rfl,⟨l,xs,rfl,ql,fP pr⟩,rfl⟩
theorem Sc.a (h:Sc K H0 H t lr many rs first):QV K H (.ref t) many rs first:=by
 obtain⟨xs,a,b⟩:=h.rooms;exact⟨t,lr,xs,rfl,Ni.of h.at_,Nj.of a,b⟩
end Ord
namespace L2
open PySem
theorem AX {α:Type}{xs:List α}{z:Int}{v:α}(h0:0<=z)(h:xs[z.toNat]?=some v):Qj xs z=some v:=by
 have:=cG h;rw[show((z.toNat:Nat):Int)=z by lia] at this;exact this
end L2
namespace Ord
open PySem L2 Mx
abbrev yK:M':=top 58
abbrev CY:M':=top 59
abbrev Tr:M':=top 60
abbrev vA:M':=top 61
abbrev jf:M':=top 62
abbrev lz:M':=top 63
abbrev nL:M':=top 66
section
def ST (K:MZ)(H:Hp)(a:A'):Prop:=∃ns:List Int,Nj K H a (ns.map V.int)
theorem ST.same (h:ST K H a)(e:aB H H'):ST K H' a:=let ⟨ns,q⟩:=h;⟨ns,e.Po q⟩
def AY (K:MZ):Sp:=λvs H Q _=>∃(a:A') (k:Int),vs=[.ref a,.int k]/\ST K H a/\∀c:Int,Q (.int c) H
theorem F6:N3 ["_law_script","_law_k"] ["_law_script","_law_k"] (am yK):=⟨rfl,rfl,rfl,by decide +kernel,rfl,by decide +kernel,by decide +kernel⟩
theorem EU (F:NE K "_law_cell" "_law_cell" yK f fd)(T:Oy K mg CO):Nq P w K mg base Nb 1 f fd ["_law_script","_law_k"] (AY K):=by
 refine F.ok F6 (λvs H Q E h=>?_) (λNo A outer s H vs Q E hr h=>?_)
 .obtain⟨a,k,rfl,_⟩:=h;rfl
 obtain⟨a,k,rfl,⟨ns,hs⟩,q⟩:=h;refine⟨_,ad (aD (mV (pv 0) (λ_=>rfl)) (af (aH (ay cL (pv 0) (aO cD (pv 1) (aQ bd rfl T.t.len cq (ac (pv 0) ae))) (λ_ _=>rfl)))) au) (af (aH ag)),?_⟩;refine⟨_,rfl,_,.inl ⟨_,hs,rfl⟩,?_⟩;cases ns with
 | nil=>exact aA (q 0)
 | cons n0 nt=>
  refine aZ ?_;have hl:((n0::nt).map V.int).length=(n0::nt).length:=NT _;have pos:(0:Int)<(((n0::nt).map V.int).length:Nat):=by rw[hl];simp only[OB];lia
  have h0:=Tc k (Int.ne_of_gt pos);have h1:=S9 k pos;have N9:(k % (((n0::nt).map V.int).length:Nat)).toNat<(n0::nt).length:=by rw[hl] at h0 h1 ⊢;lia
  refine⟨_,rfl,_,rfl,_,rfl,a,_,rfl,.inl hs,_,_,rfl,rfl,pos,a,_,_,V.int ((n0::nt)[(k % (((n0::nt).map V.int).length:Nat)).toNat]'N9),rfl,rfl,hs,AX h0 ?_,q _⟩;rw[Pa,Ou N9];rfl
def ph (K:MZ):Sp:=λvs H Q _=>∃(a:A') (k:Int),vs=[.ref a,.int k]/\ST K H a/\∀m:Int,0<=m->m<4294967231->Q (.int m) H
theorem yL:N3 ["_law_script","_law_k","_law_number"] ["_law_script","_law_k"] (am CY):=⟨rfl,rfl,rfl,by decide +kernel,rfl,by decide +kernel,by decide +kernel⟩
theorem F7 (F:NE K "_law_mix" "_law_mix" CY f fd)(T:Oy K mg CO)(WC:Df P w K mg base Nb 1 "_law_cell" ["_law_script","_law_k"] (AY K)):Nq P w K mg base Nb 2 f fd ["_law_script","_law_k"] (ph K):=by
 refine F.ok yL (λvs H Q E h=>?_) (λNo A outer s H vs Q E hr h=>?_)
 .obtain⟨a,k,rfl,_⟩:=h;rfl
 obtain⟨a,k,rfl,hs,q⟩:=h;refine⟨_,ad (aV (i:=2) yL.nd rfl (NB rfl) (aO cD (aO bR (aE WC hr rfl (az (E:=λ_ _ _ _=>False)) (ac (pv 0) (ac (pv 1) ae))) (aO nO ag (aO bR (pv 1) ag))) ag))
  (ad (aV (i:=2) yL.nd rfl (NB rfl) (aO cD (aO nO (pv 2) ag) ag))
  (af (aH (aO cD (aO bR (aO nO (aO ge (pv 2) ag) ag) (pv 2)) ag)))),?_⟩
 refine⟨_,rfl,_,rfl,a,k,rfl,hs,λc=>?_⟩;refine⟨_,rfl,_,_,rfl,rfl,_,_,rfl,rfl,.inl ⟨by decide,by decide⟩,_,_,rfl,rfl,_,_,rfl,rfl,by show(0:Int)<4294967291;decide,?_⟩;refine⟨_,rfl,_,_,rfl,rfl,.inr ⟨by decide,by decide⟩,_,_,rfl,rfl,by show(0:Int)<4294967279;decide,?_⟩;refine⟨_,rfl,_,_,rfl,rfl,⟨by decide,by decide⟩,_,_,rfl,rfl,.inr ⟨by decide,by decide⟩,_,rfl,_,_,rfl,rfl,_,_,rfl,rfl,by show(0:Int)<4294967231;decide,?_⟩;exact q _ (Tc _ (by decide)) (S9 _ (by decide))
def OL (K:MZ)(H:Hp)(a:A')(os:Bk.ap):Prop:=∃ys,H a=some (.lst ys)/\Nd (aK.rep K H) ys os
theorem OL.same {os:Bk.ap}(s:aB H H')(h:OL K H a os):OL K H' a os:=by
 obtain⟨ys,q,p⟩:=h;exact⟨ys,s _ _ q,aX (λ_ _ z=>aK.mono s z) p⟩
theorem OL.rep {os:Bk.ap}(h:OL K H a os):(kM aK).rep K H (.ref a) os:=by
 obtain⟨ys,q,p⟩:=h;exact⟨a,ys,rfl,Nj.of q,p⟩
theorem OL.new {os:Bk.ap}(ha:H a=none)(p:Nd (aK.rep K H) ys os):OL K (upd H a (.lst ys)) a os:=
 ⟨ys,al,aX (λ_ _ z=>aK.mono (ak ha _) z) p⟩
def yM (K:MZ):Sp:=λvs H Q _=>∃many:Nat,vs=[.int (many:Int)]/\1<=many/\many<=5/\∀(l:A') (H':Hp),aB H H'->H l=none->OL K H' l (Bk.dU many)->Q (.ref l) H'
abbrev NA:List MV:=["_law_many","_law_found","_law_k","_law_longer","_law_order"]
theorem i5:N3 NA ["_law_many"] (am Tr):=⟨rfl,rfl,rfl,by decide +kernel,rfl,by decide +kernel,by decide +kernel⟩
theorem CZ {t:Int}{o:List Int}:We (.int t) (o.map V.int)=o.contains t:=by
 induction o with
 | nil=>rfl
 | cons x o ih=>
  simp only[We,N7,Td,List.contains_cons] at ih ⊢;rw[ih]
  congr 1
  simp[Qv,hW,eq_comm]
theorem AZ (many i:Nat)(o):(((Mx.bw (i+1)).filter λt=>!o.contains t).map λt=>o++[t])=(((Mx.bw i).filter λt=>!o.contains t).map λt=>o++[t])++(if o.contains (i:Int)=true then [] else [o++[(i:Int)]]):=by
 rw[Bk.qY,UL,QF]
 congr 1
 by_cases h:o.contains (i:Int)=true
 .rw[M6 h,UJ (by rw[h];decide)];rfl
 .rw[M0 h,Sw (by rw[act.mpr h];rfl)];rfl
theorem F8 (F:NE K "_law_all" "_law_all" Tr f fd)(T:Oy K mg CO):Nq P w K mg base Nb 1 f fd ["_law_many"] (yM K):=by
 refine F.ok i5 (λvs H Q E h=>?_) (λNo A outer s H vs Q E hr h=>?_)
 .obtain⟨many,rfl,_⟩:=h;rfl
 obtain⟨many,rfl,m1,m5,z⟩:=h;refine⟨_,ad (aV (i:=1) i5.nd rfl (NB rfl) (bW (ac (bI ae) ae)))
  (ad (dQ RL rfl (eM rfl T.t.range (ac (pv 0) ae)) (cJ (i:=2) i5.nd rfl (NB rfl))
   (ad (aV (i:=3) i5.nd rfl (NB rfl) (bW ae))
   (ad (dQ RL rfl (cX (pv 1)) (cJ (i:=4) i5.nd rfl (N' rfl))
    (af (aV (i:=3) i5.nd rfl (NB rfl) (aO Fm (pv 3) (eA rfl (show Qf (am Tr) NA _ _ from by constructor <;> decide +kernel) (eM rfl T.t.range (ac (pv 0) ae))
     (λ_ _ _ _ _ _=>ez (ar (show N4 _ _ (Tw K true) from tF) (pv 0) (pv 5) rfl))
     (λcl C NY OM fp aa=>aO (show N4 _ _ (DA K) from ET) (pv 5) (bI (ac (pv 0) ae))) i5.nd)))))
   (af (aV (i:=1) i5.nd rfl (NB rfl) (pv 3))))))
  (af (aH (pv 1)))),?_⟩
 refine⟨by show 0<=Nh;decide,λt0 ht0=>?_⟩;have u0:=ak ht0 (.tup []);refine⟨by show 1<=Nh;decide,λl0 RS=>?_⟩;have u1:=ak RS (.lst [V.ref t0]);have r0:aK.rep K (upd H t0 (.tup [])) (.ref t0) []:=cr (Ni.of al);refine⟨_,rfl,_,rfl,by lia,by lia,qx (lo:=0) (n:=((many:Int)).toNat) (λk σ H1=>∃v2 v3 v4 l,σ=[some (.int (many:Int)),some (.ref l),v2,v3,v4]/\aB H H1/\H l=none/\OL K H1 l (Bk.nE many k)) ⟨none,none,none,l0,rfl,u0.trans u1,u0.free RS,OL.new RS (.cons r0 .nil)⟩ ?_ ?_⟩
 .rintro k σ H1 hk ⟨v2,v3,v4,l,rfl,s1,hlf,ol⟩;have hk5:k<many:=by lia
  refine⟨by show 0<=Nh;decide,λg0 Vz=>?_⟩;have s2:=ak Vz (.lst []);obtain⟨ys,hl,py⟩:=ol;have hlen:=py.length;refine⟨_,rfl,l,rfl,⟨_,Nj.of (s2 _ _ hl)⟩,fu (K:=K) (a:=l) (xs:=ys) (λi σ H2=>∃v4 g,σ=[some (.int (many:Int)),some (.ref l),some (.int (0+(k:Int))),some (.ref g),v4]/\aB H1 H2/\H1 g=none/\OL K H2 g (Bk.ext many ((Bk.nE many k).take i))) ⟨v4,g0,rfl,s2,Vz,[],al,.nil⟩ ?_ ?_ ?_⟩
  .rintro i σ H2 _ ⟨v4,g,rfl,s3,_⟩;exact Nj.of (s3 _ _ hl)
  .rintro i y σ H2 hy ⟨v4,g,rfl,s3,hgf,og⟩;obtain⟨o,ho,ro⟩:=cy py hy;obtain⟨a,rfl,qa⟩:=cu (aK.mono s3 ro);have lo:o.length=k:=Bk.vh k o (Oo ho);obtain⟨gs,hg,pg⟩:=og;have afN:=pg.length;have b1:(Bk.ext many ((Bk.nE many k).take i)).length<=200:=Ph (Bk.F1 i) (Bk.CG many (Bk.in5 m1 m5) (k+1) (Bk.Kd (by lia)));refine⟨_,rfl,_,rfl,_,rfl,by lia,by lia,gj (lo:=0) (n:=((many:Int)).toNat) (λj zs H3=>aB H2 H3/\Nd (aK.rep K H3) zs (((Mx.bw j).filter λt=>!o.contains t).map λt=>o++[t])) ⟨aB.refl H2,.nil⟩ ?_ (by rw[NU];lia) ?_ ?_⟩
   .rintro j zs H3 hj ⟨_,p3⟩;rw[p3.length,NT];refine Ph (R0 _ _) ?_;rw[Mx.eB];exact Nl _
   .rintro j zs H3 hj ⟨s4,p3⟩;have qa3:=s4.NM qa;refine⟨_,rfl,_,rfl,a,_,rfl,.inr qa3,rfl,fJ _,_,rfl,?_⟩;rw[AZ many,M6 rfl,show(0+(j:Int))=(j:Int) by lia,CZ]
    by_cases c:o.contains (j:Int)=true
    .rw[c];refine aA ⟨s4,?_⟩;rw[M6 rfl,QD];exact p3
    .rw[act.mpr c];refine aZ ⟨_,rfl,_,rfl,by show 1<=Nh;decide,λt1 UB=>?_⟩;have s5:=ak UB (.tup [V.int (j:Int)]);refine⟨a,t1,_,_,rfl,rfl,s5.NM qa3,Ni.up,by rw[NT,NU];simp;lia,λr H5 s6 hr=>?_⟩;refine⟨s4.trans (s5.trans s6),?_⟩;rw[M0 OZ];refine de (aX (λ_ _ z=>aK.mono (s5.trans s6) z) p3) (.cons (cr ?_) .nil);rw[QF];exact hr
   .rintro zs H3 c0 ⟨s4,p3⟩ Vu;have s5:=ak Vu (.lst zs);have zl:zs.length<=5:=by
     rw[p3.length,NT];refine Ph (R0 _ _) ?_;rw[Mx.eB];lia
    refine⟨g,c0,gs,zs,rfl,rfl,s5 _ _ (s4 _ _ hg),al,by rw[NU];lia,λn0 hn0=>?_⟩;have s6:=ak hn0 (.lst (gs++zs));refine⟨_,n0,rfl,s3.trans (s4.trans (s5.trans s6)),s3.free (s4.free (s5.free hn0)),?_⟩;rw[Bk.CI ho];refine OL.new hn0 (de (aX (λ_ _ z=>aK.mono (s4.trans s5) z) pg) (aX (λ_ _ z=>aK.mono s5 z) p3))
  .rintro σ H2 ⟨v4,g,rfl,s3,hgf,og⟩;rw[hlen,Rf] at og;exact⟨_,rfl,_,_,_,g,rfl,s1.trans s3,s1.free hgf,og⟩
 .rintro σ H1 ⟨v2,v3,v4,l,rfl,s1,hlf,ol⟩;exact⟨_,rfl,z l H1 s1 hlf ol⟩
end
section
def DB (K:MZ):Sp:=λvs H Q _=>∃(a:A') (k:Int) (many:Nat),vs=[.ref a,.int k,.int (many:Int)]/\ST K H a/\1<=many/\many<=4/\∀(r:A') (os:Bk.ap) (H':Hp),aB H H'->OL K H' r os->os.Sublist (Bk.dU many)->Q (.ref r) H'
abbrev NSt:List MV:=["_law_script","_law_k","_law_many","_law_some","_law_way","_law_number","_law_share"]
theorem ku:N3 NSt ["_law_script","_law_k","_law_many"] (am vA):=⟨rfl,rfl,rfl,by decide +kernel,rfl,by decide +kernel,by decide +kernel⟩
theorem vB {L os:Bk.ap}(ho:L[i]?=some o)(h:os.Sublist (L.take i)):os.Sublist (L.take (i+1))/\(os++[o]).Sublist (L.take (i+1)):=by
 rw[cx ho];exact⟨h.trans (List.sublist_append_left _ _),h.append (aaA _)⟩
theorem Jw (h0:0<=i)(h1:i<6):∃c:Int,Qj [V.int 0,V.int 0,V.int 1,V.int 3,V.int 6,V.int 4] i=some (.int c):=by
 have:i=0\/i=1\/i=2\/i=3\/i=4\/i=5:=by lia
 rcases this with rfl|rfl|rfl|rfl|rfl|rfl
 .exact⟨0,rfl⟩
 .exact⟨0,rfl⟩
 .exact⟨1,rfl⟩
 .exact⟨3,rfl⟩
 .exact⟨6,rfl⟩
 .exact⟨4,rfl⟩
theorem F9 (F:NE K "_law_set" "_law_set" vA f fd)(T:Oy K mg CO)(WA:Df P w K mg base Nb 1 "_law_all" ["_law_many"] (yM K))(WM:Df P w K mg base Nb 2 "_law_mix" ["_law_script","_law_k"] (ph K)):Nq P w K mg base Nb 3 f fd ["_law_script","_law_k","_law_many"] (DB K):=by
 refine F.ok ku (λvs H Q E h=>?_) (λNo A outer s H vs Q E hr h=>?_)
 .obtain⟨a,k,many,rfl,_⟩:=h;rfl
 obtain⟨a,k,many,rfl,hs,m1,m4,z⟩:=h;refine⟨_,ad (aV (i:=3) ku.nd rfl (N' rfl) (aE WA (hr.mono (by decide)) rfl (az (E:=λ_ _ _ _=>False)) (ac (pv 2) ae)))
  (ad (aV (i:=4) ku.nd rfl (NB rfl) (aO cD (aE WM hr rfl (az (E:=λ_ _ _ _=>False)) (ac (pv 0) (ac (pv 1) ae))) ag))
  (ad (aV (i:=5) ku.nd rfl (N' rfl) (aE WM hr rfl (az (E:=λ_ _ _ _=>False)) (ac (pv 0) (ac (aO bR (pv 1) ag) ae))))
  (ad (aD (ar bf (pv 4) ag (aw _)) (af (aH (eA rfl (show Qf (am vA) NSt _ _ from by constructor <;> decide +kernel) (cX (pv 3))
    (λ_ _ _ _ _ _=>ez (ar bf (ay (show Np _ (aU K) from ax) (pv 0) (aO cD (pv 6) (pv 3)) (λ_ _=>rfl)) (aO cD (aO ge (pv 6) ag) (pv 3)) (aw _)))
    (λcl C NY OM fp aa=>pv 0) ku.nd))) au)
  (ad (aD (ar bf (pv 4) ag (aw _)) (af (aH (ay cL (bW (ac (bW ae) (ac (pv 3) (ac (gf wv (pv 3) gY (gZ ag)) (ac (gf wv (pv 3) (gZ (Dg ze ag)) gY) ae))))) (aO cD (pv 5) ag) (λ_ _=>rfl)))) au)
  (ad (aV (i:=6) ku.nd rfl (N' rfl) (ay cL (bW (ac ag (ac ag (ac ag (ac ag (ac ag (ac ag ae))))))) (pv 4) (λ_ _=>rfl)))
  (af (aH (eA rfl (show Qf (am vA) NSt _ _ from by constructor <;> decide +kernel) (eM rfl T.t.range (ac (aQ bd rfl T.t.len cq (ac (pv 3) ae)) ae))
    (λ_ _ _ _ _ _=>ez (ar iL (aO cD (aO ge (aE WM hr rfl (az (E:=λ_ _ _ _=>False)) (ac (pv 1) (ac (aO bR (aO bR (pv 2) ag) (pv 0)) ae))) ag) ag) (pv 7) (aw _)))
    (λcl C NY OM fp aa=>ay (show Np _ (gM K) from cL) (pv 4) (pv 0) (λ_ _=>rfl)) ku.nd)))))))),?_⟩
 refine⟨_,rfl,many,rfl,m1,by lia,λl H1 s1 hlf ol=>?_⟩;obtain⟨ys,hl,py⟩:=ol;have hlen:=py.length;have agg:=Bk.nF many (Bk.in4 m1 m4);refine⟨_,rfl,_,rfl,a,k,rfl,hs.same s1,λm _ _=>⟨_,_,rfl,rfl,by show(0:Int)<6;decide,?_⟩⟩;have w0:=Tc m (show(6:Int)≠0 by decide);have w1:=S9 m (show(0:Int)<6 by decide);refine⟨_,rfl,_,rfl,_,_,rfl,rfl,a,_,rfl,hs.same s1,λnum n0 _=>?_⟩;refine⟨_,rfl,rfl,_,rfl,?_⟩;refine pD (λ_=>?_) (λ_=>?_)
 .refine⟨_,rfl,l,rfl,⟨_,Nj.of hl⟩,iq (K:=K) (a:=l) (xs:=ys) (λi zs H2=>H2=H1/\zs.length<=i/\∃os,Nd (aK.rep K H1) zs os/\os.Sublist ((Bk.dU many).take i)) ⟨rfl,Ow _,[],.nil,aaA _⟩ ?_ (by rw[NU];lia) ?_ ?_⟩
  .rintro i zs H2 _ ⟨rfl,zl,_⟩;exact⟨Nj.of hl,zl⟩
  .rintro i y zs H2 hy ⟨rfl,zl,os,po,sub⟩;obtain⟨o,ho,ro⟩:=cy py hy;obtain⟨b,rfl,qb⟩:=cu ro;have lo:=(Bk.iD m1 (by lia) (Oo ho)).1;have p0:=Tc num (show(many:Int)≠0 by lia);have p1:=S9 num (show(0:Int)<(many:Int) by lia);have N9:(num % (many:Int)).toNat<o.length:=by lia
   obtain⟨t1,t2⟩:=vB ho sub;refine⟨_,rfl,_,rfl,_,rfl,_,_,rfl,rfl,by show(0:Int)<(many:Int);lia,b,_,_,.int (o[(num % (many:Int)).toNat]'N9),rfl,rfl,qb,AX p0 (by rw[Pa,Ou N9];rfl),?_⟩;refine⟨_,rfl,_,_,rfl,rfl,⟨by decide,by decide⟩,_,rfl,_,_,rfl,rfl,by show(0:Int)<(many:Int);lia,rfl,_,rfl,?_⟩;refine pD (λ_=>?_) (λ_=>?_)
   .exact⟨_,rfl,rfl,by rw[Os];show zs.length+1<=i+1;lia,os++[o],de po (.cons ro .nil),t2⟩
   .exact⟨rfl,by lia,os,po,t1⟩
  .rintro zs H2 p ⟨rfl,_,os,po,sub⟩ hp;exact z p os _ (s1.trans (ak hp _)) (OL.new hp po) (sub.trans (aax _ _))
 refine⟨_,rfl,rfl,_,rfl,?_⟩;refine pD (λ_=>?_) (λ_=>?_)
 .refine⟨by show 0<=Nh;decide,λe0 Px=>?_⟩;have s2:=ak Px (.lst []);refine⟨_,rfl,_,rfl,1,rfl,l,ys,rfl,Nj.of (s2 _ _ hl),λf0 hf0=>?_⟩;have s3:=ak hf0 (.lst (cQ ys none (some 1)));refine⟨_,rfl,1,rfl,-1,rfl,l,ys,rfl,Nj.of (s3 _ _ (s2 _ _ hl)),λg0 Vz=>?_⟩;have s4:=ak Vz (.lst (cQ ys (some (-1)) none));refine⟨by show 4<=Nh;decide,λh0 YC=>?_⟩;have s5:=ak YC (.lst [V.ref e0,V.ref l,V.ref f0,V.ref g0]);have s6:=s2.trans (s3.trans (s4.trans s5));have p0:=Tc num (show(4:Int)≠0 by decide);have p1:=S9 num (show(0:Int)<4 by decide);have c1:cQ ys none (some 1)=ys.take 1:=ES ys 1;have e1:OL K (upd (upd (upd (upd H1 e0 (.lst [])) f0 (.lst (cQ ys none (some 1)))) g0 (.lst (cQ ys (some (-1)) none))) h0 (.lst [V.ref e0,V.ref l,V.ref f0,V.ref g0])) e0 []:=OL.same (s3.trans (s4.trans s5)) ⟨[],al,.nil⟩;have e2:=OL.same s6 ⟨ys,hl,py⟩;have e3:OL K (upd (upd (upd (upd H1 e0 (.lst [])) f0 (.lst (cQ ys none (some 1)))) g0 (.lst (cQ ys (some (-1)) none))) h0 (.lst [V.ref e0,V.ref l,V.ref f0,V.ref g0])) f0 ((Bk.dU many).take 1):=OL.same (s4.trans s5) ⟨_,al,by have q:=sC 1 (aX (λ_ _ z=>aK.mono (s2.trans s3) z) py);rw[<-c1] at q;exact q⟩;have e4:OL K (upd (upd (upd (upd H1 e0 (.lst [])) f0 (.lst (cQ ys none (some 1)))) g0 (.lst (cQ ys (some (-1)) none))) h0 (.lst [V.ref e0,V.ref l,V.ref f0,V.ref g0])) g0 ((Bk.dU many).drop (ys.length-1)):=OL.same s5 ⟨_,al,by have q:=sD (ys.length-1) (aX (λ_ _ z=>aK.mono (s2.trans (s3.trans s4)) z) py);rw[<-AW] at q;exact q⟩;have cs:num % 4=0\/num % 4=1\/num % 4=2\/num % 4=3:=by lia
  refine⟨_,rfl,_,_,rfl,rfl,by show(0:Int)<4;decide,?_⟩;show gM _ (V.ref h0) (V.int (num % 4)) _ _;rcases cs with c|c|c|c
  .rw[c];exact⟨h0,_,0,V.ref e0,rfl,rfl,Nj.up,rfl,z e0 [] _ (s1.trans s6) e1 (List.nil_sublist _)⟩
  .rw[c];exact⟨h0,_,1,V.ref l,rfl,rfl,Nj.up,rfl,z l _ _ (s1.trans s6) e2 (aaA _)⟩
  .rw[c];exact⟨h0,_,2,V.ref f0,rfl,rfl,Nj.up,rfl,z f0 _ _ (s1.trans s6) e3 (aax _ _)⟩
  .rw[c];exact⟨h0,_,3,V.ref g0,rfl,rfl,Nj.up,rfl,z g0 _ _ (s1.trans s6) e4 (List.drop_sublist _ _)⟩
 obtain⟨sh,esh⟩:=Jw w0 w1;refine⟨by show 6<=Nh;decide,λe0 Px=>?_⟩;have s2:=ak Px (.lst [V.int 0,V.int 0,V.int 1,V.int 3,V.int 6,V.int 4]);refine⟨_,rfl,e0,_,_,V.int sh,rfl,rfl,Nj.up,esh,?_⟩;generalize (upd H1 e0 (.lst [V.int 0,V.int 0,V.int 1,V.int 3,V.int 6,V.int 4]))=H2 at s2 ⊢;have OD:=s2 _ _ hl;refine⟨_,rfl,l,_,rfl,.inl (Nj.of OD),_,rfl,by lia,by lia,gj (lo:=0) (n:=(((ys.length:Nat):Int)).toNat) (λi zs H3=>H3=H2/\zs.length<=i/\∃os,Nd (aK.rep K H2) zs os/\os.Sublist ((Bk.dU many).take i)) ⟨rfl,Ow _,[],.nil,aaA _⟩ ?_ (by rw[NU];lia) ?_ ?_⟩
 .rintro i zs H3 _ ⟨_,zl,_⟩;exact zl
 .rintro i zs H3 hi ⟨rfl,zl,os,po,sub⟩;have OW:i<ys.length:=by lia
  obtain⟨o,ho,ro⟩:=cy py (Ou OW);obtain⟨t1,t2⟩:=vB ho sub;refine⟨_,rfl,_,rfl,_,_,rfl,rfl,_,rfl,_,_,rfl,rfl,a,_,rfl,hs.same (s1.trans s2),λm2 _ _=>?_⟩;refine⟨_,_,rfl,rfl,⟨by decide,by decide⟩,_,_,rfl,rfl,by show(0:Int)<8;decide,_,rfl,_,_,rfl,rfl,_,rfl,?_⟩;refine pD (λ_=>?_) (λ_=>?_)
  .refine⟨_,rfl,_,rfl,l,ys,_,_,rfl,rfl,Nj.of OD,?_,rfl,by rw[Os];show zs.length+1<=i+1;lia,os++[o],de po (.cons (aK.mono s2 ro) .nil),t2⟩;rw[show(0+(i:Int))=(i:Int) by lia];exact cG (Ou OW)
  .exact⟨rfl,by lia,os,po,t1⟩
 .rintro zs H3 p ⟨rfl,_,os,po,sub⟩ hp;exact z p os _ (s1.trans (s2.trans (ak hp _))) (OL.new hp po) (sub.trans (aax _ _))
end
end Ord
namespace Bk
open Mx
theorem Ga {l:List Int}(h:l[i]?=some t)(pt:p t=true):(l.filter p)[((l.take i).filter p).length]?=some t/\(l.filter p).take ((l.take i).filter p).length=(l.take i).filter p:=by
 obtain⟨hi,rfl⟩:=OA.mp h;have e:l.filter p=(l.take i).filter p++l[i]::(l.drop (i+1)).filter p:=by
  have e1:l=l.take i++l[i]::l.drop (i+1):=by rw[<-aec hi,TW]
  have e2:=congrArg (List.filter p) e1;rw[UL,Sw pt] at e2;exact e2
 rw[e];exact⟨by rw[UG (Nl _),aaY];rfl,by rw[List.take_left'];rfl⟩
theorem yN {lf:List Int}(RH:lf.Pairwise (· < ·))(S:fb (n+1) (·∈lf) os):lf.filter (λt=>!(rests t os).isEmpty)=heads os:=by
 refine pU (RH.filter _) (cI os) λx=>?_;rw[Pm,bJ];have em:(!(rests x os).isEmpty)=true↔∃r,x::r∈os:=by
  rw[Bool.not_eq_true',List.isEmpty_eq_false_iff_exists_mem];exact exists_congr λr=>bt
 rw[em];constructor
 .rintro⟨_,r,hr⟩;exact⟨(S _ hr).2.1 x (Nu ..),r,hr⟩
 .rintro⟨_,r,hr⟩;exact⟨((S _ hr).2.2.2 x).mp (Nu ..),r,hr⟩
theorem yO {os:ap}(h:os[j]?=some o):rests t (os.take (j+1))=rests t (os.take j)++(eY t o).toList:=by
 unfold rests;rw[Ta,h,Xg,List.filterMap_append]
 congr 1
theorem A0:∀{rs:List MX},r∈rs->rs[rs.idxOf r]?=some r/\∀i,i<rs.idxOf r->rs[i]?≠some r
 | [],h=>by cases h
 | x::rs,h=>by
  rw[List.idxOf_cons]
  by_cases e:x=r
  .subst e;rw[beq_self_eq_true];exact⟨rfl,λi hi=>Nc hi (Zd _)⟩
  .rw[beq_false_of_ne e];have hr:r∈rs:=by
    rcases NG.mp h with h|h
    .exact Nc h.symm e
    .exact h
   obtain⟨a,b⟩:=A0 hr;refine⟨by simpa using a,λi hi=>?_⟩;cases i with
   | zero=>simpa using e
   | succ i=>simpa using b i (by simp at hi;lia)
theorem EV {r:MX}(h:r∉rs):(rs++[r])[rs.length]?=some r/\∀i,i<rs.length->(rs++[r])[i]?≠some r:=by
 refine⟨by simp,λi hi e=>h ?_⟩;rw[SX hi] at e;exact Oo e
end Bk
namespace L2
open PySem
theorem A2 (xs)(k:Nat):cQ xs (some (k:Int)) none=xs.drop k:=by
 unfold cQ;rw[HT.wm,HT.mW]
 by_cases h:k<=xs.length
 .rw[Nat.min_eq_left h,W' (by rw[Xl];lia)]
 .rw[Nat.min_eq_right (by lia),aev (Nl _),aev (by lia)];simp
section
theorem bF.of (s:aB H H'):bF d H H':=λb o _ e=>s b o e
theorem bF.sqT (e:bF d H H')(hd:H d=some o)(so:fF o)(h:Ni K H a xs):Ni K H' a xs:=by
 rcases h with(h|⟨ob,h⟩)|h
 .exact .inl (.inl (e _ _ (by rintro rfl;rw[hd] at h;cases h;exact so) h))
 .exact .inl (.inr ⟨ob,e _ _ (by rintro rfl;rw[hd] at h;cases h;exact so) h⟩)
 .exact .inr h
end
end L2
namespace Ord
open PySem L2 Mx
section
theorem cV.sb (s:bF d H H')(hd:H d=some o)(so:fF o)(h:cV K H x r):cV K H' x r:=by
 obtain⟨p,e,q⟩:=h;exact⟨p,e,s.sqT hd so q⟩
theorem EW (s:bF d H H')(hd:H d=some o)(so:fF o)(h:aK.rep K H x r):aK.rep K H' x r:=by
 obtain⟨p,e,q⟩:=cu h;subst e;exact cr (s.sqT hd so q)
theorem OL.sb {os:Bk.ap}(s:bF d H H')(hd:H d=some o)(so:fF o)(n:a≠d)(h:OL K H a os):OL K H' a os:=by
 obtain⟨ys,q,p⟩:=h;exact⟨ys,s _ _ n q,aX (λ_ _ z=>EW s hd so z) p⟩
def sQ (K:MZ)(n:Nat):Sp:=λvs H Q _=>∃(many:Int) (la oa lr:A') (lf:List Int) (os:Bk.ap) (rs:List Bk.MX) (rx:List V),vs=[.int many,.ref la,.ref oa,.ref lr]/\H la=some (.lst (lf.map V.int))/\OL K H oa os/\H lr=some (.lst rx)/\Nd (bD K H) rx rs/\
 la≠lr/\oa≠lr/\lf.Pairwise (· < ·)/\lf.length=n/\Bk.fb n (·∈lf) os/\os≠[]/\os.length<=1000/\rs.length+os.length*n<1000/\
 ∀(H':Hp) (rx':List V),bF lr H H'->H' lr=some (.lst rx')->Nd (bD K H') rx' (Bk.lay n os rs).2->Q (.int ((Bk.lay n os rs).1:Nat)) H'
abbrev NLy:List MV:=["_law_many","_law_left","_law_orders","_law_rooms","_law_doors","_law_thing","_law_rests"]
abbrev WE:List MV:=["_law_many","_law_left","_law_orders","_law_rooms"]
theorem pi:N3 NLy WE (am jf):=⟨rfl,rfl,rfl,by decide +kernel,rfl,by decide +kernel,by decide +kernel⟩
theorem vC:∀{rs:List Bk.MX},(rs.map enc).any (λa=>decide (a=enc r))=decide (r∈rs)
 | []=>rfl
 | x::rs=>by
  rw[N7,Td,vC]
  by_cases e:x=r
  .subst e;simp
  .rw[Ny (λz=>e (jA z)),Bool.false_or];exact sw ⟨λh=>NP _ h,λh=>(NG.mp h).resolve_left λz=>e z.symm⟩
theorem xy (F:NE K "_law_lay" "_law_lay" jf f fd)(T:Oy K mg CO)(n:Nat)(WS:∀m,n=m+1->Df P w K mg base Nb (m+1) "_law_lay" WE (sQ K m)):Nq P w K mg base Nb (n+1) f fd WE (sQ K n):=by
 refine F.ok pi (λvs H Q E h=>?_) (λNo A outer s H vs Q E hr h=>?_)
 .obtain⟨many,la,oa,lr,lf,os,rs,rx,rfl,_⟩:=h;rfl
 obtain⟨many,la,oa,lr,lf,os,rs,rx,rfl,UF,ol,Oi,ξ,nla,noa,RH,adO,st,one,NH,afM,z⟩:=h;cases n with
 | zero=>
  refine⟨_,ad (aD (ar (zx hr.XH) (pv 1) (bW ae) (aw _)) (af (aH ag)) au) (ad ao (ad ao (ad ao (af ao)))),?_⟩;have l0:lf=[]:=S0.mp adO;subst l0;refine⟨_,rfl,by show 0<=Nh;decide,λe0 Px=>?_⟩;have s1:=ak Px (.lst []);refine⟨la,e0,[],[],rfl,rfl,Nj.of (s1 _ _ UF),Nj.up,rfl,rfl,_,rfl,aZ ?_⟩;exact z _ rx (bF.of s1) (s1 _ _ Oi) (aX (λ_ _ z=>z.same s1) ξ)
 | succ n=>
  have D:=WS n rfl;have hu:(A.deeper (S8 "_law_lay" (am jf) s.heap.objs.size f No)).units+64<ND:=hr.units;have hu2:(A.deeper (S8 "_law_lay" (am jf) s.heap.objs.size f No)).units+2<ND:=by lia
  have hu3:(A.deeper (S8 "_law_lay" (am jf) s.heap.objs.size f No)).units+1+2<ND:=by lia
  have hu6:(A.deeper (S8 "_law_lay" (am jf) s.heap.objs.size f No)).units+4+2<ND:=by lia
  refine⟨_,ad (aD (ar (zx hr.XH) (pv 1) (bW ae) (aw _)) (af ao) au)
   (ad (aV (i:=4) pi.nd rfl (NB rfl) (bW ae))
   (ad (dQ RL rfl (cX (pv 1)) (cJ (i:=5) pi.nd rfl (N' rfl))
    (ad (hZ (i0:=6) pi.nd rfl (NB rfl) rfl (show Qf (am jf) NLy _ _ from by constructor <;> decide +kernel) (cX (pv 2))
      (λ_ _ _ _ _ _=>ez (ar bf (ay (show Np _ (aU K) from ax) (pv 0) ag (λ_ _=>rfl)) (pv 6) (aw _)))
      (λcl C NY OM fp aa=>gf (show Z6 _ (Fj K) from nU) (pv 0) (gZ ag) gY) rfl)
    (af (aD (ar (zD (kM aK) hu2) (pv 6) (bW ae) (aw _))
     (af (bE (gR UI VE VF eP (pv 4) (ac (bI (ac (pv 5) (ac
      (aE D hr rfl (az (E:=λ_ _ _ _=>False)) (ac (pv 0) (ac (eA rfl (show Qf (am jf) NLy _ _ from by constructor <;> decide +kernel) (cX (pv 1))
        (λ_ _ _ _ _ _=>ez (ar fS (pv 0) (pv 6) (aw _))) (λcl C NY OM fp aa=>pv 0) pi.nd) (ac (pv 6) (ac (pv 3) ae))))) ae))) ae)))) au))))
   (ad (aD (ar (zE bS hu3) (bC dA rfl T.t.tuple dB (ac (pv 4) ae)) (pv 3) rfl)
    (af (bE (gR UI VE VF eP (pv 3) (ac (bC dA rfl T.t.tuple dB (ac (pv 4) ae)) ae)))) au)
   (af (aH (aO bR (gR UI aek PySem.F.type_list_index (zF bS hu6) (pv 3) (ac (bC dA rfl T.t.tuple dB (ac (pv 4) ae)) ae)) ag)))))),?_⟩
  have mul:RM os*(n+1)=RM os*n+RM os:=aaZ _ _;have afV:0<os.length:=Xb.mpr one;refine⟨_,rfl,by show 0<=Nh;decide,λe0 Px=>?_⟩;have s0:=ak Px (.lst []);refine⟨la,e0,lf.map V.int,[],rfl,rfl,Nj.of (s0 _ _ UF),Nj.up,fJ _,rfl,_,rfl,?_⟩;rw[show(if false=true then !fz (lf.map V.int) [] else fz (lf.map V.int) [])=false from by
   rw[M0 OZ];exact pE (by rw[NT,adO];simp)]
  refine aA ?_;refine⟨by show 0<=Nh;decide,λg Vz=>?_⟩;have s1:=s0.trans (ak Vz (.lst []));have gH:H g=none:=s0.free Vz;have glr:g≠lr:=(av Oi gH).symm;have hh:lf.filter (λt=>!(Bk.rests t os).isEmpty)=Bk.heads os:=Bk.yN RH st;refine⟨_,rfl,la,rfl,⟨_,Nj.of (s1 _ _ UF)⟩,fu (K:=K) (a:=la) (xs:=lf.map V.int) (λi σ H2=>∃v5 v6 dv QC,σ=[some (.int many),some (.ref la),some (.ref oa),some (.ref lr),some (.ref g),v5,v6]/\bF lr H H2/\H2 g=some (.lst dv)/\dv.length<=i/\
    Nd (cV K H2) dv (Bk.aY (Bk.lay n) os ((lf.take i).filter (λt=>!(Bk.rests t os).isEmpty)) rs).1/\H2 lr=some (.lst QC)/\Nd (bD K H2) QC (Bk.aY (Bk.lay n) os ((lf.take i).filter (λt=>!(Bk.rests t os).isEmpty)) rs).2)
   ⟨none,none,[],rx,rfl,bF.of s1,al,Ow _,.nil,s1 _ _ Oi,aX (λ_ _ z=>z.same s1) ξ⟩ ?_ ?_ ?_⟩
  .rintro i σ H2 _ ⟨v5,v6,dv,QC,rfl,sb,_⟩;exact Nj.of (sb _ _ nla UF)
  .rintro i x σ H2 hx ⟨v5,v6,dv,QC,rfl,sb,hg,dl,pd,OD,SU⟩;obtain⟨t,rfl,ht⟩:=pJ hx;obtain⟨ys,hoa,pos⟩:=OL.sb sb Oi trivial noa ol;have afW:=pos.length;have hi:=(OA.mp ht).1;refine⟨_,rfl,oa,rfl,⟨_,Nj.of hoa⟩,iq (K:=K) (a:=oa) (xs:=ys) (λj zs H3=>aB H2 H3/\zs.length<=j/\Nd (aK.rep K H3) zs (Bk.rests t (os.take j))) ⟨aB.refl _,Ow _,.nil⟩ ?_ (by rw[NU];lia) ?_ ?_⟩
   .rintro j zs H3 _ ⟨s3,zl,_⟩;exact⟨Nj.of (s3 _ _ hoa),zl⟩
   .rintro j y zs H3 hy ⟨s3,zl,pz⟩;obtain⟨o,ho,ro⟩:=cy pos hy;obtain⟨b,rfl,qb⟩:=cu (aK.mono s3 ro);have afX:=(st o (Oo ho)).1;cases o with
    | nil=>simp at afX
    | cons h r=>
     refine⟨_,rfl,b,_,0,.int h,rfl,rfl,qb,bU,_,rfl,rfl,_,rfl,?_⟩;rw[Bk.yO ho]
     by_cases c:h=t
     .subst c;rw[Nz rfl];have e1:Bk.eY h (h::r)=some r:=by show(if h=h then some r else none)=some r;rw[M6 rfl]
      rw[e1];refine aZ ⟨_,rfl,1,rfl,b,_,rfl,qb,?_,λp hp=>?_⟩
      .rw[NT];simp[HT.NI]
      have s4:=ak hp (.tup (cQ ((h::r).map V.int) (some 1) none));refine⟨s3.trans s4,by rw[Os];show zs.length+1<=j+1;lia,de (aX (λ_ _ z=>aK.mono s4 z) pz) (.cons (cr (Ni.of ?_)) .nil)⟩;rw[al,show cQ ((h::r).map V.int) (some 1) none=r.map V.int from by rw[show(1:Int)=((1:Nat):Int) from rfl,A2];rfl]
     .rw[Ny (λz=>c (V.int.inj z))];have e1:Bk.eY t (h::r)=none:=by show(if h=t then some r else none)=none;rw[M0 c]
      rw[e1];refine aA ⟨s3,by lia,?_⟩;rw[Option.toList_none,QD];exact pz
   rintro zs H3 c0 ⟨s3,zl,pz⟩ Vu;rw[afW,Rf] at pz;have s4:=ak Vu (.lst zs);have oc:OL K (upd H3 c0 (.lst zs)) c0 (Bk.rests t os):=OL.new Vu pz;have SV:=s3.trans s4;generalize (upd H3 c0 (.lst zs))=H4 at s4 oc SV ⊢;refine⟨_,rfl,by show 0<=Nh;decide,λe1 Vs=>?_⟩;have s5:=ak Vs (.lst []);have oc5:=OL.same s5 oc;refine⟨Bk.rests t os,[],oc5.rep,⟨e1,[],rfl,Nj.up,.nil⟩,_,rfl,?_⟩;have P9:=SV.trans s5;generalize (upd H4 e1 (.lst []))=H5 at s5 oc5 P9 ⊢;have tk:(lf.take (i+1)).filter (λt=>!(Bk.rests t os).isEmpty)=(lf.take i).filter (λt=>!(Bk.rests t os).isEmpty)++(if Bk.rests t os=[] then [] else [t]):=by
    rw[cx ht,UL]
    congr 1
    by_cases e:Bk.rests t os=[]
    .rw[M6 e,UJ (by rw[e];decide)];rfl
    .rw[M0 e,Sw (by rw[aee.mpr e];rfl)];rfl
   by_cases e:Bk.rests t os=[]
   .rw[M6 rfl,Nz e];refine aA ?_;refine⟨_,_,dv,QC,rfl,sb.trans (bF.of P9),P9 _ _ hg,by lia,?_,P9 _ _ OD,?_⟩
    .rw[tk,M6 e,QD];exact aX (λ_ _ z=>z.same P9) pd
    .rw[tk,M6 e,QD];exact aX (λ_ _ z=>z.same P9) SU
   .rw[M6 rfl,Ny e];refine aZ ?_;have pt:(λt=>!(Bk.rests t os).isEmpty) t=true:=by show(!(Bk.rests t os).isEmpty)=true;rw[aee.mpr e];rfl
    obtain⟨f1,f2⟩:=Bk.Ga (p:=λt=>!(Bk.rests t os).isEmpty) ht pt;rw[hh] at f1 f2;obtain⟨bd1,bd2⟩:=Bk.oG (n:=n) (rs:=rs) f1;rw[f2] at bd1 bd2;have adP:H5 la=some (.lst (lf.map V.int)):=P9 _ _ (sb _ _ nla UF);have lfl:(lf.map V.int).length=lf.length:=NT _;have l8:lf.length<=os.length*(n+1):=by
     have:1*(n+1)<=os.length*(n+1):=VH _ afV;lia
    refine⟨_,rfl,.inl ⟨rfl,_,Nj.of (P9 _ _ hg)⟩,_,rfl,_,rfl,_,rfl,la,rfl,⟨_,Nj.of adP⟩,iq (K:=K) (a:=la) (xs:=lf.map V.int) (λj zs H6=>H6=H5/\zs.length<=j/\zs=((lf.take j).filter (λy=>decide (y≠t))).map V.int) ⟨rfl,Ow _,rfl⟩ ?_ (by rw[NU];lia) ?_ ?_⟩
    .rintro j zs H6 _ ⟨rfl,zl,_⟩;exact⟨Nj.of adP,zl⟩
    .rintro j y zs H6 hy ⟨rfl,zl,rfl⟩;obtain⟨yy,rfl,hyy⟩:=pJ hy;refine⟨_,rfl,_,rfl,rfl,_,rfl,?_⟩;rw[cx hyy,UL,QF]
     by_cases c:yy=t
     .subst c;rw[Nz rfl];refine aA ⟨rfl,by lia,?_⟩;rw[UJ (by simp)];simp
     .rw[Ny (λz=>c (V.int.inj z))];refine aZ ⟨_,rfl,rfl,by rw[Os];show _+1<=j+1;lia,?_⟩;rw[Sw (by simpa using c)];rfl
    rintro zs2 H6 d0 ⟨rfl,_,rfl⟩ hd0;rw[lfl,Rf];have s6:=ak hd0 (.lst ((lf.filter (λy=>decide (y≠t))).map V.int));have hd6:(upd H6 d0 (.lst ((lf.filter (λy=>decide (y≠t))).map V.int))) d0=some (.lst ((lf.filter (λy=>decide (y≠t))).map V.int)):=al;have RY:=P9.trans s6;generalize (upd H6 d0 (.lst ((lf.filter (λy=>decide (y≠t))).map V.int)))=H7 at s6 hd6 RY ⊢;have hl7:=RY _ _ OD;have oc7:=OL.same s6 oc5;have afY:d0≠lr:=(av (P9 _ _ OD) hd0).symm;have afZ:c0≠lr:=(av (s3 _ _ OD) Vu).symm;have tm:t∈lf:=Oo ht;have fm:∀x,x∈lf.filter (λy=>decide (y≠t))↔x∈lf/\x≠t:=λx=>by rw[Pm,decide_eq_true_eq]
    have S2:Bk.fb n (·∈lf.filter (λy=>decide (y≠t))) (Bk.rests t os):=λo ho=>by
     obtain⟨a1,a2,a3,a4⟩:=st.rests t o ho;exact⟨a1,a2,a3,λx=>(a4 x).trans (fm x).symm⟩
    have af0:(lf.filter (λy=>decide (y≠t))).length=n:=by
     obtain⟨o,ho⟩:=SY _ e;obtain⟨a1,_,a3,a4⟩:=S2 o ho;have nd2:(lf.filter (λy=>decide (y≠t))).Nodup:=(RH.filter _).imp λh e=>Nc h (by rw[e];lia);rw[<-a1];exact((aac a3 nd2).mpr a4).length_eq.symm
    have rl:(Bk.rests t os).length<=os.length:=by
     have:=List.length_filterMap_le (Bk.eY t) os;exact this
    refine⟨_,rfl,_,rfl,many,d0,c0,lr,_,Bk.rests t os,_,QC,rfl,hd6,oc7,hl7,aX (λ_ _ z=>z.same RY) SU,afY,afZ,RH.filter _,af0,S2,e,by lia,by lia,λH8 rx8 sb8 hl8 pr8=>?_⟩;refine⟨by show 2<=Nh;decide,λtq SR=>?_⟩;have s9:=ak SR (.tup [V.int t,V.int ((Bk.lay n (Bk.rests t os) (Bk.aY (Bk.lay n) os ((lf.take i).filter (λt=>!(Bk.rests t os).isEmpty)) rs).2).1:Nat)]);have hg9:=s9 _ _ (sb8 _ _ glr (RY _ _ hg));refine⟨g,dv,_,rfl,rfl,hg9,by rw[NU];lia,?_⟩;have tqg:tq≠g:=(av (sb8 _ _ glr (RY _ _ hg)) SR).symm;refine⟨_,_,dv++[.ref tq],rx8,rfl,λb u nb q=>?_,al,by rw[Os];show dv.length+1<=i+1;lia,?_,?_,?_⟩
    .rw[aq (av q gH)];exact s9 _ _ (sb8 _ _ nb (RY _ _ (sb _ _ nb q)))
    .rw[tk,M0 e,Bk.iW];refine de (aX (λ_ _ z=>?_) pd) (.cons ⟨tq,rfl,Ni.of ?_⟩ .nil)
     .obtain⟨p,e,q⟩:=(cV.sb sb8 hl7 trivial (z.same RY)).same s9;exact⟨p,e,q.soft hg9 trivial⟩
     .rw[aq tqg,al]
    .rw[aq glr.symm];exact s9 _ _ hl8
    .rw[tk,M0 e,Bk.iW];exact aX (λ_ _ z=>(z.same s9).soft hg9 trivial) pr8
  .rintro σ H2 ⟨v5,v6,dv,QC,rfl,sb,hg,dl,pd,OD,SU⟩;rw[show(lf.map V.int).length=lf.length from NT _,Rf,hh] at pd SU;have db:=Bk.mS (n:=n) (os:=os) (rs:=rs);have rl:=SU.length;refine⟨_,rfl,g,dv,rfl,.inl ⟨Nj.of hg,λt1 UB=>?_⟩⟩;have s3:=ak UB (.tup dv);have ra:∀{H':Hp}{p:A'},aB H2 H'->H' p=some (.tup dv)->bD K H' (.ref p) (Bk.aY (Bk.lay n) os (Bk.heads os) rs).1:=λs hp=>⟨_,dv,rfl,Ni.of hp,aX (λ_ _ z=>z.same s) pd⟩
   have hk:Bk.lay (n+1) os rs=Bk.keep (Bk.aY (Bk.lay n) os (Bk.heads os) rs).2 (Bk.aY (Bk.lay n) os (Bk.heads os) rs).1:=rfl;rw[hk] at z;generalize (Bk.aY (Bk.lay n) os (Bk.heads os) rs).2=M9 at SU z db rl ra;generalize (Bk.aY (Bk.lay n) os (Bk.heads os) rs).1=rm at pd z ra;refine⟨_,rfl,enc rm,M9.map enc,(ra s3 al).rep,⟨lr,QC,rfl,Nj.of (s3 _ _ OD),fP (aX (λ_ _ z=>z.same s3) SU)⟩,_,rfl,?_⟩;rw[M6 rfl,vC]
   by_cases c:rm∈M9
   .rw[Nz c];have zk:Bk.keep M9 rm=(M9.idxOf rm+2,M9):=by unfold Bk.keep;rw[M6 c]
    rw[zk] at z;refine aA ?_;obtain⟨i1,i2⟩:=Bk.A0 c;refine⟨_,rfl,.inl ⟨rfl,_,Nj.of (s3 _ _ OD)⟩,_,rfl,g,dv,rfl,.inl ⟨Nj.of (s3 _ _ hg),λt2 Rq=>?_⟩⟩;have s4:=s3.trans (ak Rq (.tup dv));refine⟨_,enc rm,M9.map enc,M9.idxOf rm,rfl,(ra s4 al).rep,⟨lr,QC,rfl,Nj.of (s4 _ _ OD),fP (aX (λ_ _ z=>z.same s4) SU)⟩,by rw[Pa,i1];rfl,λi hi h=>?_,?_⟩
    .rw[Pa] at h;cases hq:M9[i]? with
     | none=>rw[hq] at h;cases h
     | some y=>
      rw[hq] at h;have:=jA (Rw h);subst this;exact i2 i hi hq
    .refine⟨_,_,rfl,rfl,?_⟩;have:=z _ QC (sb.trans (bF.of s4)) (s4 _ _ OD) (aX (λ_ _ z=>z.same s4) SU);exact this
   .rw[Ny c];have zk:Bk.keep M9 rm=(M9.length+2,M9++[rm]):=by unfold Bk.keep;rw[M0 c]
    rw[zk] at z;refine aZ ?_;obtain⟨i1,i2⟩:=Bk.EV c;refine⟨_,rfl,.inl ⟨rfl,_,Nj.of (s3 _ _ OD)⟩,_,rfl,g,dv,rfl,.inl ⟨Nj.of (s3 _ _ hg),λt2 Rq=>?_⟩⟩;have s4:=s3.trans (ak Rq (.tup dv));have YD:=s4 _ _ OD;refine⟨lr,QC,.ref t2,rfl,rfl,YD,by rw[NU];lia,?_⟩;have ags:t2≠lr:=(av (s3 _ _ OD) Rq).symm;have r2:=ra s4 al;have pr4:=de (aX (λ_ _ z=>(z.same s4).soft (u:=.lst (QC++[.ref t2])) YD trivial) SU) (.cons (r2.soft (u:=.lst (QC++[.ref t2])) YD trivial) .nil);have sb4:bF lr H2 (upd (upd (upd H2 t1 (.tup dv)) t2 (.tup dv)) lr (.lst (QC++[.ref t2]))):=λb u nb q=>by rw[aq nb];exact s4 _ _ q
    have hg4:=sb4 _ _ glr hg;have WH:(upd (upd (upd H2 t1 (.tup dv)) t2 (.tup dv)) lr (.lst (QC++[.ref t2]))) lr=some (.lst (QC++[.ref t2])):=al;have pd4:=aX (λ_ _ z=>cV.sb sb4 OD trivial z) pd;generalize (upd (upd (upd H2 t1 (.tup dv)) t2 (.tup dv)) lr (.lst (QC++[.ref t2])))=H5 at pr4 sb4 hg4 WH pd4 ⊢;refine⟨_,rfl,.inl ⟨rfl,_,Nj.of WH⟩,_,rfl,g,dv,rfl,.inl ⟨Nj.of hg4,λt3 ht3=>?_⟩⟩;have s6:=ak ht3 (.tup dv);have r6:bD K (upd H5 t3 (.tup dv)) (.ref t3) rm:=⟨_,dv,rfl,Ni.of al,aX (λ_ _ z=>z.same s6) pd4⟩
    refine⟨_,enc rm,(M9++[rm]).map enc,M9.length,rfl,r6.rep,⟨lr,_,rfl,Nj.of (s6 _ _ WH),fP (aX (λ_ _ z=>z.same s6) pr4)⟩,by rw[Pa,i1];rfl,λi hi h=>?_,?_⟩
    .rw[Pa] at h;cases hq:(M9++[rm])[i]? with
     | none=>rw[hq] at h;cases h
     | some y=>
      rw[hq] at h;have:=jA (Rw h);subst this;exact i2 i hi hq
    .refine⟨_,_,rfl,rfl,?_⟩;have:=z _ _ (sb.trans (sb4.trans (bF.of s6))) (s6 _ _ WH) (aX (λ_ _ z=>z.same s6) pr4);exact this
theorem A3 (F:NE K "_law_lay" "_law_lay" jf f fd)(T:Oy K mg CO)(b:bH K fd WE [])(m:mg "_law_lay"=some (.ref f)):∀n,Nq P w K mg base Nb (n+1) f fd WE (sQ K n)
 | 0=>xy F T 0 λm h=>nomatch h
 | n+1=>xy F T (n+1) λk h=>by
  cases h;exact⟨f,fd,A3 F T b m n,b,F.kp,m⟩
end
section
def xz (K:MZ):Sp:=λvs H Q _=>∃(many:Nat) (oa:A') (os:Bk.ap),vs=[.int (many:Int),.ref oa]/\OL K H oa os/\Bk.Op many os/\
 ∀(t lr:A') (H':Hp),aB H H'->Sc K H H' t lr many (bx many os).1 (bx many os).2->Q (.ref t) H'
theorem qq:N3 ["_law_many","_law_orders","_law_rooms","_law_first"] ["_law_many","_law_orders"] (am lz):=⟨rfl,rfl,rfl,by decide +kernel,rfl,by decide +kernel,by decide +kernel⟩
theorem A4 (n:Nat):(Mx.bw n).Pairwise (· < ·):=by
 unfold Mx.bw;rw[Sx];exact YY.imp λh=>by lia
theorem C0 (F:NE K "_law_book" "_law_book" lz f fd)(T:Oy K mg CO)(WL:∀n,Df P w K mg base Nb (n+1) "_law_lay" WE (sQ K n)):Nq P w K mg base Nb 7 f fd ["_law_many","_law_orders"] (xz K):=by
 refine F.ok qq (λvs H Q E h=>?_) (λNo A outer s H vs Q E hr h=>?_)
 .obtain⟨many,oa,os,rfl,_⟩:=h;rfl
 obtain⟨many,oa,os,rfl,ol,S,z⟩:=h;have m1:=S.m1;have m5:=S.m5;have len:=S.len;have hu:(A.deeper (S8 "_law_book" (am lz) s.heap.objs.size f No)).units+64<ND:=hr.units;have hu2:(A.deeper (S8 "_law_book" (am lz) s.heap.objs.size f No)).units+2<ND:=by lia
 refine⟨_,ad (aV (i:=2) qq.nd rfl (NB rfl) (bW ae))
  (ad (aD (ar (tX (kM aK) hu2) (pv 1) (bW ae) (aw _)) (af (aH (bI (ac (pv 0) (ac (bW ae) (ac ag ae)))))) au)
  (ad (aV (i:=3) qq.nd rfl (NB rfl) (aE (WL many) (hr.mono (by lia)) rfl (az (E:=λ_ _ _ _=>False)) (ac (pv 0) (ac
    (bC (gN rfl) rfl T.t.list ju (ac (bC kK rfl T.t.range pH (ac (pv 0) ae)) ae))
    (ac (aQ kU rfl T.t.sorted jS (ac (pv 1) ae)) (ac (pv 2) ae))))))
  (af (aH (bI (ac (pv 0) (ac (pv 2) (ac (pv 3) ae)))))))),?_⟩
 refine⟨by show 0<=Nh;decide,λlr Oi=>?_⟩;have s1:=ak Oi (.lst []);have Q7:(upd H lr (.lst [])) lr=some (.lst []):=al;generalize (upd H lr (.lst []))=H1 at s1 Q7 ⊢;refine⟨_,rfl,by show 0<=Nh;decide,λe0 Px=>?_⟩;have s2:=ak Px (.lst []);refine⟨os,[],(OL.same (s1.trans s2) ol).rep,⟨e0,[],rfl,Nj.up,.nil⟩,_,rfl,?_⟩;rw[M0 OZ];have OD:=s2 _ _ Q7;generalize (upd H1 e0 (.lst []))=H2 at s2 OD ⊢;have QN:=s1.trans s2
 by_cases e:os=[]
 .rw[Nz e];subst e;refine aZ ⟨_,rfl,by show 0<=Nh;decide,λl0 RS=>?_⟩;have s3:=QN.trans (ak RS (.lst []));refine⟨by show 3<=Nh;decide,λt ht=>?_⟩;have s4:=ak ht (.tup [V.int (many:Int),V.ref l0,V.int 0]);exact z t l0 _ (s3.trans s4) ⟨s3.free ht,QN.free RS,by rw[kr];exact al,[],s4 _ _ al,by rw[kr];exact .nil⟩
 .rw[Ny e];refine aA ?_;refine⟨_,rfl,_,rfl,(many:Int),rfl,λr0 Q3=>⟨r0,0,(many:Int),rfl,al,by decide,by decide,by lia,by lia,by lia,λla UF=>?_⟩⟩;have s3:=(ak Q3 (.RB 0 (many:Int))).trans (ak UF (.lst (gm 0 ((many:Int)-0).toNat)));have ei:gm 0 ((many:Int)-0).toNat=(Mx.bw many).map V.int:=by rw[fK,show((many:Int)-0).toNat=many by lia]
  have adQ:(upd (upd H2 r0 (.RB 0 (many:Int))) la (.lst (gm 0 ((many:Int)-0).toNat))) la=some (.lst ((Mx.bw many).map V.int)):=by rw[al,ei]
  have laf:H2 la=none:=(ak Q3 (.RB 0 (many:Int))).free UF;generalize (upd (upd H2 r0 (.RB 0 (many:Int))) la (.lst (gm 0 ((many:Int)-0).toNat)))=H3 at s3 adQ ⊢;have o3:=OL.same (QN.trans s3) ol;refine⟨_,rfl,.ref oa,os,rfl,o3.rep,λks hk=>?_,by lia,λl2 Vq Qg abK pas perm RH=>?_⟩
  .have:=(S.XX ks hk).1;intro e;subst e;simp at this;lia
  have s4:=ak abK (.lst Vq);have mem:∀o,o∈Qg↔o∈os:=λo=>perm.mem_iff;have kl:Qg.length=os.length:=perm.length_eq;have YD:=s4 _ _ (s3 _ _ OD);have st:Bk.fb many (·∈Mx.bw many) Qg:=λo ho=>by
   obtain⟨a1,a2,a3,a4⟩:=S.XX o ((mem o).mp ho);exact⟨a1,a2,a3,λx=>(a4 x).trans dc.symm⟩
  have ne':Qg≠[]:=λh=>e (S0.mp (by rw[<-kl,h];rfl));have μ:Qg.length*many<=24*5:=acT (by lia) m5;refine⟨_,rfl,(many:Int),la,l2,lr,Mx.bw many,Qg,[],[],rfl,s4 _ _ adQ,OL.new abK pas,YD,.nil,(av OD laf).symm,(av (s3 _ _ OD) abK).symm,A4 many,eB many,st,ne',by lia,by show 0+_<_;lia,λH5 rx5 sb WH υ=>?_⟩;rw[Bk.iw many [] mem] at υ ⊢;have s5:aB H H5:=λb u q=>sb b u (av q Oi) (s4 _ _ (s3 _ _ (QN _ _ q)));refine⟨_,rfl,_,rfl,_,rfl,by show 3<=Nh;decide,λt ht=>?_⟩;have s6:=ak ht (.tup [V.int (many:Int),V.ref lr,V.int (((Bk.lay many os []).1:Nat):Int)]);rw[qp e] at z;exact z t lr _ (s5.trans s6) ⟨s5.free ht,Oi,al,rx5,s6 _ _ WH,aX (λ_ _ z=>z.same s6) υ⟩
end
end Ord
namespace L2
open PySem PySem.Spec PyProof.Rows
end L2
namespace Ord
open PySem L2 Mx
section
variable {os:Bk.ap} in
theorem ky (S:Bk.Op many os):Bk.bQ (bx many os).1 (bx many os).2=os:=by
 unfold Bk.bQ;rw[QQ];exact Op.Pd S
variable {os:Bk.ap} in
theorem sf (m4:many<=4)(S:Bk.Op many os):∀r∈(bx many os).1,∀d∈r,0<=d.1/\d.1<4:=λr hr d hd=>by
 have W:=Op.whole S;obtain⟨i,e⟩:=List.getElem?_of_mem hr;have h1:=(W.rooms.mask i r e d hd).1;have h2:=W.rooms.less r hr d hd;lia
variable {os:Bk.ap} in
theorem A5 (S:Bk.Op many os):Bk.Rn (bx many os).1 (bx many os).2:=by
 rcases(Op.whole S).fst with h|⟨h1,h2,_⟩
 .exact .inl (by lia)
 .exact .inr ⟨by lia,by lia⟩
variable {os:Bk.ap} in
theorem kz (S:Bk.Op many os):∀o∈os,o.length=many:=λo ho=>(Bk.iD S.m1 S.m5 (S.mem o ho)).1
theorem jok (m4:many<=4)(S1:Bk.Op many O8)(S2:Bk.Op many O9):Bk.UC many (bx many O8).1 (bx many O9).1 (bx many O8).2 (bx many O9).2 where
 w1:=(Op.whole S1).rooms.wf
 w2:=(Op.whole S2).rooms.wf
 s1:=sf m4 S1
 s2:=sf m4 S2
 pg:=⟨A5 S1,A5 S2,by rw[ky S1];exact kz S1,by rw[ky S2];exact kz S2⟩
def Due (cl:Bk.Cl)(O8 O9 os:Bk.ap):Prop:=∀o,o∈os↔((if o∈O8 then 1 else 0:Int),(if o∈O9 then 1 else 0:Int))∈cl
variable {os:Bk.ap} in
theorem C1 (c0:(0,0)∉cl)(m4:many<=4)(S1:Bk.Op many O8)(S2:Bk.Op many O9)(S:Bk.Op many os)(h:Due cl O8 O9 os):
  Bk.eZ (Bk.gv cl (bx many O8).1 (bx many O9).1) many (Bk.eE cl (bx many O8).2 (bx many O9).2)=bx many os:=by
 have J:=jok m4 S1 S2;obtain⟨gd,lk,lv⟩:=Bk.mv J.w1 J.w2 c0 J.pg;refine(Bk.rF (many:=many) (os':=os) (Bk.j8 J.w1 J.w2 J.abg J.abh c0) rfl rfl (λk h=>h) gd (lv.imp id VX) (λo=>(lk o).symm.trans ((Bk.h7 c0).trans ?_)) (kz S)).trans ?_
 .rw[h o];unfold Bk.bit;rw[ky S1,ky S2]
 .unfold bx;rfl
variable {os:Bk.ap} in
theorem qt (S:Bk.Op many os):(bx many os).1.length<70:=(Op.whole S).NH
end
section
theorem Gb (h:∀o,o∈ev↔o∈O8\/o∈O9):Due [(1,0),(0,1),(1,1)] O8 O9 ev:=λo=>by
 rw[h]
 by_cases a:o∈O8 <;> by_cases b:o∈O9 <;> simp[a,b]
theorem xA (h:∀o,o∈an↔o∈O8/\o∈O9):Due [(1,1)] O8 O9 an:=λo=>by
 rw[h]
 by_cases a:o∈O8 <;> by_cases b:o∈O9 <;> simp[a,b]
theorem C2 (h:∀o,o∈le↔o∈O8/\o∉O9):Due [(1,0)] O8 O9 le:=λo=>by
 rw[h]
 by_cases a:o∈O8 <;> by_cases b:o∈O9 <;> simp[a,b]
end
abbrev mD:M':=top 48
theorem vD (m1:1<=many)(m4:many<=4)(hb:Bk.YB many b):Bk.eZ (Bk.dI many b) many (.inr [0,0,0])=bx many (Bk.bq many (.bs b)):=by
 have e:Bk.Wz many b (.inr [0,0,0])=Bk.bq many (.bs b):=Bk.CL many (Bk.in4 m1 m4) b (Bk.AO hb);have S:Bk.Op many (Bk.bq many (.bs b)):=Bk.bL m1 m4 _;refine(Bk.rF (many:=many) (os':=Bk.bq many (.bs b)) (Bk.rT (b:=b) (by lia)) rfl rfl (λk h=>h) (s:=.inr [0,0,0]) ⟨0,0,0,rfl,by lia,Nat.two_pow_pos _,by lia⟩ (.inr (by show many-0<=many;lia)) (λo=>by rw[e]) (kz S)).trans ?_;unfold bx;rfl
theorem EX:Due [(1,0)] (Bk.bq many (.bs .free)) (Bk.bq many r) (Bk.bq many (.Nr r)):=C2 λo=>by
 unfold Bk.bq;simp only[Pm,Bk.bN,Bk.o6,and_true]
 by_cases h:Bk.bN o r=true
 .simp[h]
 .rw[Bool.not_eq_true] at h;simp[h]
theorem C3:Due [(1,1)] (Bk.bq many r) (Bk.bq many s) (Bk.bq many (.both r s)):=xA λo=>by
 unfold Bk.bq;simp only[Pm,Bk.bN,Rc];constructor
 .rintro⟨a,b,c⟩;exact⟨⟨a,b⟩,a,c⟩
 .rintro⟨⟨a,b⟩,_,c⟩;exact⟨a,b,c⟩
theorem yP:Due [(1,0),(0,1),(1,1)] (Bk.bq many r) (Bk.bq many s) (Bk.bq many (.either r s)):=Gb λo=>by
 unfold Bk.bq;simp only[Pm,Bk.bN,acK];constructor
 .rintro⟨a,b|b⟩
  .exact .inl ⟨a,b⟩
  .exact .inr ⟨a,b⟩
 .rintro(⟨a,b⟩|⟨a,b⟩)
  .exact⟨a,.inl b⟩
  .exact⟨a,.inr b⟩
theorem C4:∀b:Bk.Bs,decide (cW b="not")=false
 | .free=>(by decide +kernel:decide (("free":MV)="not")=false)
 | .at_ _ _=>(by decide +kernel:decide (("at":MV)="not")=false)
 | .ahead _ _=>(by decide +kernel:decide (("ahead":MV)="not")=false)
 | .next _ _=>(by decide +kernel:decide (("next":MV)="not")=false)
 | .QI=>(by decide +kernel:decide (("even":MV)="not")=false)
structure Tb (H)(Pt Pw):Prop where
 ne:Pt≠Pw
 j:eG H Pt (jd (iC cT)) qJ
 w:eG H Pw (jd (gb cN)) qW
section
theorem Tb.soft (T:Tb H Pt Pw):dh H [Pt,Pw]:=λa ha=>by
 obtain⟨ps,h,_⟩:=T.j;obtain⟨ps',h',_⟩:=T.w;simp only[NG,Pf,or_false] at ha;rcases ha with rfl|rfl
 .exact⟨_,h,trivial⟩
 .exact⟨_,h',trivial⟩
theorem Tb.abp (T:Tb H Pt Pw):∀b∈[Pt,Pw],∀xs,¬Rd H b (.lst xs):=λb hb xs z=>by
 obtain⟨ps,h,_⟩:=T.j;obtain⟨ps',h',_⟩:=T.w;simp only[NG,Pf,or_false] at hb;rcases hb with rfl|rfl
 .rcases z with z|⟨o,z⟩ <;> rw[h] at z <;> cases z
 .rcases z with z|⟨o,z⟩ <;> rw[h'] at z <;> cases z
theorem vE (T:eG H P pos qual)(n:P≠Q)(hQ:H Q=some (.PR ps))(s:dH Q H H'):eG H' P pos qual:=by
 obtain⟨ps1,h,ht,hc⟩:=T;refine⟨ps1,s _ _ n h,ht,hc.imp id λ⟨c,oc,e1,e2,e3⟩=>⟨c,oc,e1,s _ _ (λz=>?_) e2,e3⟩⟩;rw[z,hQ] at e2;cases e2
theorem vF (T:eG H P pos qual)(s:aB H H'):eG H' P pos qual:=by
 obtain⟨ps1,h,ht,hc⟩:=T;exact⟨ps1,s _ _ h,ht,hc.imp id λ⟨c,oc,e1,e2,e3⟩=>⟨c,oc,e1,s _ _ e2,e3⟩⟩
theorem Tb.same (T:Tb H Pt Pw)(s:aB H H'):Tb H' Pt Pw:=⟨T.ne,vF T.j s,vF T.w s⟩
theorem Tb.adc (T:Tb H Pt Pw)(s:dH Pw H H')(t:eG H' Pw (jd (gb cN)) qW):Tb H' Pt Pw:=by
 obtain⟨ps,h,_⟩:=T.w;exact⟨T.ne,vE T.j T.ne h s,t⟩
theorem Tb.afc (T:Tb H Pt Pw)(s:dH Pt H H')(t:eG H' Pt (jd (iC cT)) qJ):Tb H' Pt Pw:=by
 obtain⟨ps,h,_⟩:=T.j;exact⟨T.ne,t,vE T.w T.ne.symm h s⟩
theorem dH.pw (s:dH Pw H H'):bp [Pt,Pw] H H':=λb o hb e=>s b o (λz=>hb (by simp[z])) e
theorem dH.pt (s:dH Pt H H'):bp [Pt,Pw] H H':=λb o hb e=>s b o (λz=>hb (by simp[z])) e
theorem mE (T:Tb H Pt Pw)(s:bp [Pt,Pw] H H')(B:QV K H x m rs f):QV K H' x m rs f:=by
 obtain⟨b,l,xs,e,q,ql,pr⟩:=B.ex;exact⟨⟨b,l,xs,e,s.Pb T.soft q,s.Po T.abp ql,aX (λ_ _ z=>s.room T.soft z) pr⟩⟩
theorem sS (T:Tb H Pt Pw)(s:bp [Pt,Pw] H H')(h:ce K H x r):ce K H' x r:=h.mono λq=>s.Pb T.soft q
theorem DC (T':Tb H' Pt Pw)(s:bp [Pt,Pw] H H')(h:H' a=none):H a=none:=by
 cases e:H a with
 | none=>rfl
 | some o=>
  exfalso;obtain⟨ps,h1,_⟩:=T'.j;obtain⟨ps',h2,_⟩:=T'.w
  by_cases z:a∈[Pt,Pw]
  .simp only[NG,Pf,or_false] at z;rcases z with rfl|rfl
   .rw[h1] at h;cases h
   .rw[h2] at h;cases h
  .rw[s a o z e] at h;cases h
end
section
def iH (K:MZ)(Pt Pw:A')(n:Nat):Sp:=λvs H Q _=>∃(v:V) (r:Bk.Rl) (many:Nat),vs=[.int (many:Int),v]/\ce K H v r/\Bk.QB many r/\Bk.Oj r<=n/\1<=many/\many<=4/\Tb H Pt Pw/\
 ∀(t lr:A') (H':Hp),bp [Pt,Pw] H H'->Tb H' Pt Pw->Sc K H H' t lr many (bx many (Bk.bq many r)).1 (bx many (Bk.bq many r)).2->Q (.ref t) H'
theorem C5:N3 ["many","rule"] ["many","rule"] (am mD):=⟨rfl,rfl,rfl,by decide +kernel,rfl,by decide +kernel,by decide +kernel⟩
theorem kA {O8 O9 os:Bk.ap}(hw:UD word=some cl)(c0:(0,0)∉cl)(m4:many<=4)(S1:Bk.Op many O8)(S2:Bk.Op many O9)(S:Bk.Op many os)(D:Due cl O8 O9 os)(B1:QV K H x1 many (bx many O8).1 (bx many O8).2)(B2:QV K H x2 many (bx many O9).1 (bx many O9).2)(T:Tb H Pt Pw)(s0:bp [Pt,Pw] H0 H)(z:∀(t lr:A') (H':Hp),bp [Pt,Pw] H0 H'->Tb H' Pt Pw->Sc K H0 H' t lr many (bx many os).1 (bx many os).2->Q (.ref t) H'):jH K Pt [.str word,x1,x2] H Q E:=by
 have e:=C1 c0 m4 S1 S2 S D;refine⟨word,x1,x2,many,_,_,_,_,cl,rfl,hw,B1,B2,jok m4 S1 S2,m4,T.j,?_,?_⟩
 .rw[e];exact OY (qt S) (by decide)
 .rw[e];intro t lr H' s' t' bn;have T':=T.afc s' t';exact z t lr H' (s0.trans (dH.pt s')) T' ⟨DC T s0 bn.ft,DC T s0 bn.fl,bn.at_,bn.rooms⟩
theorem pj (F:NE K "book_by_rule" "book_by_rule" mD f fd)(T:UE P w K mg CO aN aR aJ aF kN kR kJ)(WJ:Df P w K mg base Nb 11 "join_books" ["word","one","other"] (jH K Pt))(WK:Df P w K mg base Nb 14 "book_of_walk" ["many","rule"] (qf K Pw))(n:Nat)(WW:∀m,n=m+1->Df P w K mg base Nb (m+14) "book_by_rule" ["many","rule"] (iH K Pt Pw m)):Nq P w K mg base Nb (n+14) f fd ["many","rule"] (iH K Pt Pw n):=by
 refine F.ok C5 (λvs H Q E h=>?_) (λNo A outer s H vs Q E hr h=>?_)
 .obtain⟨v,r,many,rfl,_⟩:=h;rfl
 obtain⟨v,r,many,rfl,ra,ok,hn,m1,m4,tb,z⟩:=h;have hp:=qk r;cases n with
 | zero=>lia
 | succ n=>
 have D:=WW n rfl;have e2:∀x y:MV,decide (x=y)=false->decide (V.str x=V.str y)=false:=λx y h=>Ny λz=>of_decide_eq_false h (V.str.inj z);cases r with
 | bs b=>
  obtain⟨p,rfl,q0⟩:=ra;obtain⟨TM,nf⟩:=ok;have q:=q0;rw[vx] at q;refine⟨_,ad (aD (ar bf (ay (show Np _ (aU K) from ax) (pv 1) ag (λ_ _=>rfl)) bc (aw _)) (af ao) au)
   (ad (aD (ar (jI T.dJ) (ay (show Np _ (aU K) from ax) (pv 1) ag (λ_ _=>rfl)) (aM (v:=.ref aJ) rfl T.jo rfl) rfl) (af ao) au)
   (af (aH (aE WK (hr.mono (by lia)) rfl (az (E:=λ_ _ _ _=>False)) (ac (pv 0) (ac (pv 1) ae)))))),?_⟩
  refine⟨_,rfl,p,_,0,.str (cW b),rfl,rfl,q,bU,rfl,_,rfl,?_⟩;rw[e2 (cW b) "not" (C4 b)];refine aA ⟨_,rfl,p,_,0,.str (cW b),rfl,rfl,q,bU,.inr (cW b),rfl,rfl,_,rfl,?_⟩;rw[T.nJ b];have e:=vD m1 m4 TM;refine aA ⟨_,rfl,_,rfl,p,b,many,rfl,q0,m1,m4,tb.w,?_,?_⟩
  .rw[e];exact OY (qt (Bk.bL m1 m4 _)) (by decide)
  .rw[e];exact λt lr H' s' t' bn=>z t lr H' (dH.pw s') (tb.adc s' t') bn
 | Nr r=>
  obtain⟨p,x,rfl,q,rx⟩:=ra;refine⟨_,ad (aD (ar bf (ay (show Np _ (aU K) from ax) (pv 1) ag (λ_ _=>rfl)) bc (aw _))
    (af (aH (aE WJ (hr.mono (by lia)) rfl (az (E:=λ_ _ _ _=>False)) (ac bc (ac (aE WK (hr.mono (by lia)) rfl (az (E:=λ_ _ _ _=>False)) (ac (pv 0) (ac (aM (v:=.ref aF) rfl T.fr rfl) ae))) (ac (aE D (hr.mono (by lia)) rfl (az (E:=λ_ _ _ _=>False)) (ac (pv 0) (ac (ay (show Np _ (aU K) from ax) (pv 1) ag (λ_ _=>rfl)) ae))) ae)))))) au)
   (ad ao (af ao)),?_⟩
  refine⟨_,rfl,p,_,0,.str "not",rfl,rfl,q,bU,rfl,_,rfl,?_⟩;rw[Nz rfl];have e:=vD (b:=.free) m1 m4 trivial;refine aZ ⟨_,rfl,aF,.free,many,rfl,T.sF H,m1,m4,tb.w,?_,?_⟩
  .rw[e];exact OY (qt (Bk.bL m1 m4 _)) (by decide)
  .rw[e];intro t lr H1 s1 t1 YE;have RZ:=tb.adc s1 t1;have sp1:bp [Pt,Pw] H H1:=dH.pw s1;refine⟨_,rfl,_,rfl,p,_,1,x,rfl,rfl,sp1.Pb tb.soft q,fW,x,r,many,rfl,sS tb sp1 rx,ok,by show Bk.Oj r<=n;simp only[Bk.Oj] at hn;lia,m1,m4,RZ,λt2 Yw H2 s2 TN VA=>?_⟩;exact kA (E:=E) (O8:=Bk.bq many (.bs .free)) (O9:=Bk.bq many r) (os:=Bk.bq many (.Nr r)) (cl:=[(1,0)]) (by decide +kernel) (by decide) m4 (Bk.bL m1 m4 _) (Bk.bL m1 m4 _) (Bk.bL m1 m4 _) EX (mE RZ s2 YE.a) VA.a TN (sp1.trans s2) z
 | both r r'=>
  obtain⟨p,x,y,rfl,q,rx,ry⟩:=ra;obtain⟨tj,hv⟩:=T.vJ.1;refine⟨_,ad (aD (ar bf (ay (show Np _ (aU K) from ax) (pv 1) ag (λ_ _=>rfl)) bc (aw _)) (af ao) au)
   (ad (aD (ar (jI T.dJ) (ay (show Np _ (aU K) from ax) (pv 1) ag (λ_ _=>rfl)) (aM (v:=.ref aJ) rfl T.jo rfl) rfl)
    (af (aH (aE WJ (hr.mono (by lia)) rfl (az (E:=λ_ _ _ _=>False)) (ac (jG T.dJ (aM (v:=.ref aJ) rfl T.jo rfl) (ay (show Np _ (aU K) from ax) (pv 1) ag (λ_ _=>rfl)) (λ_ _=>rfl)) (ac (aE D (hr.mono (by lia)) rfl (az (E:=λ_ _ _ _=>False)) (ac (pv 0) (ac (ay (show Np _ (aU K) from ax) (pv 1) ag (λ_ _=>rfl)) ae))) (ac (aE D (hr.mono (by lia)) rfl (az (E:=λ_ _ _ _=>False)) (ac (pv 0) (ac (ay (show Np _ (aU K) from ax) (pv 1) ag (λ_ _=>rfl)) ae))) ae)))))) au)
   (af ao)),?_⟩
  refine⟨_,rfl,p,_,0,.str "both",rfl,rfl,q,bU,rfl,_,rfl,?_⟩;rw[e2 "both" "not" (by decide +kernel)];refine aA ⟨_,rfl,p,_,0,.str "both",rfl,rfl,q,bU,.inr "both",rfl,rfl,_,rfl,?_⟩;rw[hv];have hm:=aaI (Bk.Oj r) (Bk.Oj r');have Uo:=aaF (Bk.Oj r) (Bk.Oj r');simp only[Bk.Oj] at hn;refine aZ ⟨_,rfl,p,_,0,.str "both",rfl,rfl,q,bU,.inr "both",.str "and",_,rfl,rfl,hv,⟨_,rfl⟩,?_⟩;refine⟨_,rfl,_,rfl,p,_,1,x,rfl,rfl,q,fW,x,r,many,rfl,rx,ok.1,by lia,m1,m4,tb,λt1 lr1 H1 s1 RZ YE=>?_⟩;refine⟨_,rfl,_,rfl,p,_,2,y,rfl,rfl,s1.Pb tb.soft q,lc,y,r',many,rfl,sS tb s1 ry,ok.2,by lia,m1,m4,RZ,λt2 Yw H2 s2 TN VA=>?_⟩;exact kA (E:=E) (O8:=Bk.bq many r) (O9:=Bk.bq many r') (os:=Bk.bq many (.both r r')) (cl:=[(1,1)]) (by decide +kernel) (by decide) m4 (Bk.bL m1 m4 _) (Bk.bL m1 m4 _) (Bk.bL m1 m4 _) C3 (mE RZ s2 YE.a) VA.a TN (s1.trans s2) z
 | either r r'=>
  obtain⟨p,x,y,rfl,q,rx,ry⟩:=ra;obtain⟨tj,hv⟩:=T.vJ.2;refine⟨_,ad (aD (ar bf (ay (show Np _ (aU K) from ax) (pv 1) ag (λ_ _=>rfl)) bc (aw _)) (af ao) au)
   (ad (aD (ar (jI T.dJ) (ay (show Np _ (aU K) from ax) (pv 1) ag (λ_ _=>rfl)) (aM (v:=.ref aJ) rfl T.jo rfl) rfl)
    (af (aH (aE WJ (hr.mono (by lia)) rfl (az (E:=λ_ _ _ _=>False)) (ac (jG T.dJ (aM (v:=.ref aJ) rfl T.jo rfl) (ay (show Np _ (aU K) from ax) (pv 1) ag (λ_ _=>rfl)) (λ_ _=>rfl)) (ac (aE D (hr.mono (by lia)) rfl (az (E:=λ_ _ _ _=>False)) (ac (pv 0) (ac (ay (show Np _ (aU K) from ax) (pv 1) ag (λ_ _=>rfl)) ae))) (ac (aE D (hr.mono (by lia)) rfl (az (E:=λ_ _ _ _=>False)) (ac (pv 0) (ac (ay (show Np _ (aU K) from ax) (pv 1) ag (λ_ _=>rfl)) ae))) ae)))))) au)
   (af ao)),?_⟩
  refine⟨_,rfl,p,_,0,.str "either",rfl,rfl,q,bU,rfl,_,rfl,?_⟩;rw[e2 "either" "not" (by decide +kernel)];refine aA ⟨_,rfl,p,_,0,.str "either",rfl,rfl,q,bU,.inr "either",rfl,rfl,_,rfl,?_⟩;rw[hv];have hm:=aaI (Bk.Oj r) (Bk.Oj r');have Uo:=aaF (Bk.Oj r) (Bk.Oj r');simp only[Bk.Oj] at hn;refine aZ ⟨_,rfl,p,_,0,.str "either",rfl,rfl,q,bU,.inr "either",.str "or",_,rfl,rfl,hv,⟨_,rfl⟩,?_⟩;refine⟨_,rfl,_,rfl,p,_,1,x,rfl,rfl,q,fW,x,r,many,rfl,rx,ok.1,by lia,m1,m4,tb,λt1 lr1 H1 s1 RZ YE=>?_⟩;refine⟨_,rfl,_,rfl,p,_,2,y,rfl,rfl,s1.Pb tb.soft q,lc,y,r',many,rfl,sS tb s1 ry,ok.2,by lia,m1,m4,RZ,λt2 Yw H2 s2 TN VA=>?_⟩;exact kA (E:=E) (O8:=Bk.bq many r) (O9:=Bk.bq many r') (os:=Bk.bq many (.either r r')) (cl:=[(1,0),(0,1),(1,1)]) (by decide +kernel) (by decide) m4 (Bk.bL m1 m4 _) (Bk.bL m1 m4 _) (Bk.bL m1 m4 _) yP (mE RZ s2 YE.a) VA.a TN (s1.trans s2) z
theorem sg (F:NE K "book_by_rule" "book_by_rule" mD f fd)(T:UE P w K mg CO aN aR aJ aF kN kR kJ)(WJ:Df P w K mg base Nb 11 "join_books" ["word","one","other"] (jH K Pt))(WK:Df P w K mg base Nb 14 "book_of_walk" ["many","rule"] (qf K Pw))(b:bH K fd ["many","rule"] [])(m:mg "book_by_rule"=some (.ref f)):∀n,Nq P w K mg base Nb (n+14) f fd ["many","rule"] (iH K Pt Pw n)
 | 0=>pj F T WJ WK 0 λm h=>nomatch h
 | n+1=>pj F T WJ WK (n+1) λk h=>by
  cases h;exact⟨f,fd,sg F T WJ WK b m n,b,F.kp,m⟩
end
abbrev vG:M':=top 43
abbrev C6:M':=top 44
section
def xB (K:MZ)(Pt Pw:A'):Sp:=λvs H Q _=>∃(v:V) (r:Bk.Rl) (many:Nat),vs=[.int (many:Int),v]/\ce K H v r/\Bk.QB many r/\Bk.Oj r<=4/\1<=many/\many<=4/\Tb H Pt Pw/\
 ∀(t lr:A') (H':Hp),bp [Pt,Pw] H H'->Tb H' Pt Pw->Sc K H H' t lr many (bx many (Bk.bq many r)).1 (bx many (Bk.bq many r)).2->Q (.ref t) H'
theorem EY:N3 ["many","rule"] ["many","rule"] (am vG):=⟨rfl,rfl,rfl,by decide +kernel,rfl,by decide +kernel,by decide +kernel⟩
theorem C7 (F:NE K "ruled" "ruled" vG f fd)(WC:Df P w K mg base (P6 P w) 3 "look_count" ["many"] (lM CO))(WL:Df P w K mg base Nb 6 "look_rule" ["many","rule","depth"] (jJ K 4))(WB:Df P w K mg base Nb 18 "book_by_rule" ["many","rule"] (iH K Pt Pw 4)):
  Nq P w K mg base Nb 19 f fd ["many","rule"] (xB K Pt Pw):=by
 refine F.ok EY (λvs H Q E h=>?_) (λNo A outer s H vs Q E hr h=>?_)
 .obtain⟨v,r,many,rfl,_⟩:=h;rfl
 obtain⟨v,r,many,rfl,ra,ok,hn,m1,m4,tb,z⟩:=h;refine⟨_,ad (bE (aE WC (hr.mono (by decide)) rfl x9 (ac (pv 0) ae)))
  (ad (bE (aE WL (hr.mono (by decide)) rfl (az (E:=λ_ _ _ _=>False)) (ac (pv 0) (ac (pv 1) (ac ag ae)))))
  (af (aH (aE WB hr rfl (az (E:=λ_ _ _ _=>False)) (ac (pv 0) (ac (pv 1) ae)))))),?_⟩
 refine⟨_,rfl,(many:Int),rfl,iQ (by lia) (by lia),?_⟩;rw[M6 ⟨by lia,by lia⟩];refine⟨_,rfl,_,rfl,v,r,many,1,rfl,ra,ok,hn,by lia,λH1 s1=>?_⟩;refine⟨_,rfl,_,rfl,v,r,many,rfl,ra.same s1,ok,hn,m1,m4,tb.same s1,λt lr H2 s2 TN bn=>?_⟩;exact z t lr H2 (λb o hb e=>s2 b o hb (s1 b o e)) TN ⟨s1.free bn.ft,s1.free bn.fl,bn.at_,bn.rooms⟩
def DD (K:MZ)(Pt Pw:A'):Sp:=λvs H Q _=>∃(x v:V) (r:Bk.Rl) (many:Nat) (os:Bk.ap),vs=[x,v]/\QV K H x many (bx many os).1 (bx many os).2/\Bk.Op many os/\ce K H v r/\Bk.QB many r/\Bk.Oj r<=4/\1<=many/\many<=4/\Tb H Pt Pw/\
 ∀(t lr:A') (H':Hp),bp [Pt,Pw] H H'->Tb H' Pt Pw->Sc K H H' t lr many (bx many (os.filter λo=>Bk.bN o r)).1 (bx many (os.filter λo=>Bk.bN o r)).2->Q (.ref t) H'
theorem Jx:N3 ["book","rule"] ["book","rule"] (am C6):=⟨rfl,rfl,rfl,by decide +kernel,rfl,by decide +kernel,by decide +kernel⟩
theorem EZ {os:Bk.ap}(S:Bk.Op many os):Due [(1,1)] os (Bk.bq many r) (os.filter λo=>Bk.bN o r):=xA λo=>by
 unfold Bk.bq;rw[Pm,Pm];constructor
 .rintro⟨a,b⟩;exact⟨a,S.mem o a,b⟩
 .rintro⟨a,_,c⟩;exact⟨a,c⟩
theorem lA {os:Bk.ap}(S:Bk.Op many os)(f:List Int->Bool):Bk.Op many (os.filter f) where
 m1:=S.m1
 m5:=S.m5
 mem:=λo ho=>S.mem o (Pm.mp ho).1
 RH:=S.RH.sublist VL
 len:=Ph (R0 _ _) S.len
 ZT:=λe=>Ph (R0 _ _) (S.ZT e)
theorem Gc (F:NE K "cut" "cut" C6 f fd)(WK:Df P w K mg base Nb 11 "look_book" ["book"] (An K))(WL:Df P w K mg base Nb 6 "look_rule" ["many","rule","depth"] (jJ K 4))(WB:Df P w K mg base Nb 18 "book_by_rule" ["many","rule"] (iH K Pt Pw 4))(WJ:Df P w K mg base Nb 11 "join_books" ["word","one","other"] (jH K Pt)):
  Nq P w K mg base Nb 19 f fd ["book","rule"] (DD K Pt Pw):=by
 refine F.ok Jx (λvs H Q E h=>?_) (λNo A outer s H vs Q E hr h=>?_)
 .obtain⟨x,v,r,many,os,rfl,_⟩:=h;rfl
 obtain⟨x,v,r,many,os,rfl,B,S,ra,ok,hn,m1,m4,tb,z⟩:=h;refine⟨_,ad (bE (aE WK (hr.mono (by decide)) rfl (az (E:=λ_ _ _ _=>False)) (ac (pv 0) ae)))
  (ad (bE (aE WL (hr.mono (by decide)) rfl (az (E:=λ_ _ _ _=>False)) (ac (ay (show Np _ (aU K) from ax) (pv 0) ag (λ_ _=>rfl)) (ac (pv 1) (ac ag ae)))))
  (af (aH (aE WJ (hr.mono (by decide)) rfl (az (E:=λ_ _ _ _=>False)) (ac bc (ac (pv 0) (ac (aE WB hr rfl (az (E:=λ_ _ _ _=>False)) (ac (ay (show Np _ (aU K) from ax) (pv 0) ag (λ_ _=>rfl)) (ac (pv 1) ae))) ae))))))),?_⟩
 refine⟨_,rfl,x,many,_,_,rfl,B,Op.whole S,λH1 s1=>?_⟩;have B1:=B.same s1;obtain⟨b,l,xs,rfl,q,ql,pr⟩:=id B1.ex;refine⟨_,rfl,b,_,0,.int (many:Int),rfl,rfl,q,bU,_,rfl,v,r,many,1,rfl,ra.same s1,ok,hn,by lia,λH2 s2=>?_⟩;have QN:=s1.trans s2;refine⟨_,rfl,_,rfl,b,_,0,.int (many:Int),rfl,rfl,s2.NM q,bU,_,rfl,v,r,many,rfl,ra.same QN,ok,hn,m1,m4,tb.same QN,λt lr H3 s3 tb3 bn=>?_⟩;exact kA (E:=λ_ _ _=>False) (H0:=H) (O8:=os) (O9:=Bk.bq many r) (os:=os.filter λo=>Bk.bN o r) (cl:=[(1,1)]) (by decide +kernel) (by decide) m4 S (Bk.bL m1 m4 _) (lA S _) (EZ S) (mE (tb.same QN) s3 (B1.same s2)) bn.a tb3 (λb o hb e=>s3 b o hb (QN b o e)) z
end
abbrev lB:M':=top 64
section
def mF (K:MZ)(n:Nat):Sp:=λvs H Q _=>∃(a:A') (k:Int) (many d:Nat),vs=[.ref a,.int k,.int (many:Int),.int (d:Int)]/\ST K H a/\1<=many/\many<=4/\1<=d/\d<=n/\
 ∀(v:V) (r:Bk.Rl) (H':Hp),aB H H'->ce K H' v r->Bk.QB many r->Bk.Oj r<=d->Q v H'
abbrev NRu:List MV:=["_law_script","_law_k","_law_many","_law_deep","_law_number","_law_word","_law_parts","_law_one","_law_other"]
theorem gy:N3 NRu ["_law_script","_law_k","_law_many","_law_deep"] (am lB):=⟨rfl,rfl,rfl,by decide +kernel,rfl,by decide +kernel,by decide +kernel⟩
theorem E1:∀{r:Bk.Rl},(∀b,r≠.bs b)->Ni K H p (.str (bM r)::xs)->Nd (ce K H) xs (cw r)->ce K H (.ref p) r
 | .bs b,n,_,_=>Nc rfl (n b)
 | .Nr _,_,q,.cons h .nil=>⟨p,_,rfl,q,h⟩
 | .both _ _,_,q,.cons h (.cons h' .nil)=>⟨p,_,_,rfl,q,h,h'⟩
 | .either _ _,_,q,.cons h (.cons h' .nil)=>⟨p,_,_,rfl,q,h,h'⟩
theorem C8:∀{r:Bk.Rl},(∀b,r≠.bs b)->(∀s∈cw r,Bk.QB many s)->Bk.QB many r
 | .bs b,n,_=>Nc rfl (n b)
 | .Nr r,_,h=>h r (by simp[cw])
 | .both _ _,_,h=>⟨h _ (by simp[cw]),h _ (by simp[cw])⟩
 | .either _ _,_,h=>⟨h _ (by simp[cw]),h _ (by simp[cw])⟩
theorem C9:∀{r:Bk.Rl},(∀b,r≠.bs b)->(∀s∈cw r,Bk.Oj s<=n)->Bk.Oj r<=n+1
 | .bs b,n,_=>Nc rfl (n b)
 | .Nr r,_,h=>VN (h r (by simp[cw]))
 | .both _ _,_,h=>VN (Nat.max_le.mpr ⟨h _ (by simp[cw]),h _ (by simp[cw])⟩)
 | .either _ _,_,h=>VN (Nat.max_le.mpr ⟨h _ (by simp[cw]),h _ (by simp[cw])⟩)
theorem si (F:NE K "_law_rule" "_law_rule" lB f fd)(T:Oy K mg CO)(WM:Df P w K mg base Nb 2 "_law_mix" ["_law_script","_law_k"] (ph K))(n:Nat)(WW:∀m,n=m+1->Df P w K mg base Nb (m+3) "_law_rule" ["_law_script","_law_k","_law_many","_law_deep"] (mF K m)):Nq P w K mg base Nb (n+3) f fd ["_law_script","_law_k","_law_many","_law_deep"] (mF K n):=by
 refine F.ok gy (λvs H Q E h=>?_) (λNo A outer s H vs Q E hr h=>?_)
 .obtain⟨a,k,many,d,rfl,_⟩:=h;rfl
 obtain⟨a,k,many,d,rfl,hs,m1,m4,d1,dn,z⟩:=h;cases n with
 | zero=>lia
 | succ n=>
 have D:=WW n rfl;refine⟨_,ad (aV (i:=4) gy.nd rfl (by first|exact NB rfl|exact N' rfl) (aE WM (hr.mono (by lia)) rfl (az (E:=λ_ _ _ _=>False)) (ac (pv 0) (ac (pv 1) ae))))
  (ad (aD (PW.pt (ji (ar iO (pv 3) ag (aw _)) (gX (ar iO (aO cD (pv 4) ag) ag (aw _)))))
   (ad (aV (i:=5) gy.nd rfl (by first|exact NB rfl|exact N' rfl) (ay cL (bW (ac bc (ac bc (ac bc ae)))) (aO cD (aO ge (pv 4) ag) ag) (λ_ _=>rfl)))
   (ad (hZ (i0:=6) gy.nd rfl (by first|exact NB rfl|exact N' rfl) rfl (show Qf (am lB) NRu _ _ from by constructor <;> decide +kernel) (eM rfl T.t.range (ac (aO bR ag (bC zg rfl T.t.int Dl (ac (cg fS (pv 5) bc (aw _)) ae))) ae))
    (λ_ _ _ _ _ _=>hG)
    (λcl C NY OM fp aa=>aE D hr rfl (az (E:=λ_ _ _ _=>False)) (ac (pv 1) (ac (aO bR (aO bR (aO nO ag (pv 2)) ag) (pv 0)) (ac (pv 3) (ac (aO jm (pv 4) ag) ae))))) rfl)
   (af (aH (aO wt (bI (ac (pv 5) ae)) (bC dA rfl T.t.tuple dB (ac (pv 6) ae))))))) au)
  (ad (aV (i:=7) gy.nd rfl (by first|exact NB rfl|exact N' rfl) (aO cD (aO ge (pv 4) ag) (pv 2)))
  (ad (aV (i:=8) gy.nd rfl (by first|exact NB rfl|exact N' rfl) (aO cD (aO ge (pv 4) ag) (pv 2)))
  (ad (aV (i:=5) gy.nd rfl (by first|exact NB rfl|exact N' rfl) (ay cL (bW (ac bc (ac bc (ac bc (ac bc ae))))) (aO cD (aO ge (pv 4) ag) ag) (λ_ _=>rfl)))
  (ad (aD (PW.pt (gQ (ar bf (pv 5) bc (aw _)) (ig (PW.pt (ji (ar fS (pv 5) bc (aw _)) (gX (ar bf (pv 7) (pv 8) (aw _)))))))) (af (aH (bI (ac bc ae)))) au)
  (af (aH (bI (ac (pv 5) (ac (pv 7) (ac (pv 8) ae))))))))))),?_⟩
 refine⟨_,rfl,_,rfl,a,k,rfl,hs,λm m0 mm=>?_⟩;refine⟨_,rfl,_,_,rfl,rfl,_,rfl,?_⟩;refine pD (λc1=>⟨_,rfl,_,_,rfl,rfl,by show(0:Int)<3;decide,_,_,rfl,rfl,_,rfl,pD (λc2=>?wide) (λ_=>?base)⟩) (λ_=>aA ?agh)
 case wide=>
  have d2:2<=d:=by
   have:=TY c1;lia
  refine⟨by show 3<=Nh;decide,λh0 YC=>?_⟩;have s1:=ak YC (.lst [V.str "not",V.str "both",V.str "either"]);have i0:=Tc (m / 3) (show(3:Int)≠0 by decide);have i1:=S9 (m / 3) (show(0:Int)<3 by decide);obtain⟨word,cnt,hat,Wb,af1,hk⟩:∃(word:MV) (cnt:Nat),Qj [V.str "not",V.str "both",V.str "either"] (m / 3 % 3)=some (V.str word)/\(cnt=1\/cnt=2)/\(1:Int)+(if (!decide (V.str word=V.str "not"))=true then 1 else 0)=(cnt:Int)/\∀rs:List Bk.Rl,rs.length=cnt->∃r,cw r=rs/\bM r=word/\∀b,r≠.bs b:=by
   have h3:m / 3 % 3=0\/m / 3 % 3=1\/m / 3 % 3=2:=by lia
   rcases h3 with h|h|h
   .exact⟨"not",1,by rw[h];rfl,.inl rfl,by decide +kernel,λrs hl=>match rs,hl with | [r],_=>⟨.Nr r,rfl,rfl,λb e=>nomatch e⟩⟩
   .exact⟨"both",2,by rw[h];rfl,.inr rfl,by decide +kernel,λrs hl=>match rs,hl with | [r,r'],_=>⟨.both r r',rfl,rfl,λb e=>nomatch e⟩⟩
   .exact⟨"either",2,by rw[h];rfl,.inr rfl,by decide +kernel,λrs hl=>match rs,hl with | [r,r'],_=>⟨.either r r',rfl,rfl,λb e=>nomatch e⟩⟩
  refine⟨_,rfl,_,_,rfl,rfl,⟨by decide,by decide⟩,_,_,rfl,rfl,by show(0:Int)<3;decide,h0,_,_,_,rfl,rfl,Nj.up,hat,?_⟩;refine⟨_,rfl,rfl,.inr ⟨_,rfl,_,_,rfl,rfl,_,rfl,?_⟩⟩;rw[af1];refine⟨by lia,by lia,?_⟩;refine gj (lo:=0) (n:=((cnt:Int)).toNat) (λi zs H2=>aB (upd H h0 (.lst [V.str "not",V.str "both",V.str "either"])) H2/\∃rs:List Bk.Rl,rs.length=i/\Nd (ce K H2) zs rs/\∀r∈rs,Bk.QB many r/\Bk.Oj r+1<=d) ⟨aB.refl _,[],rfl,.nil,λ_ h=>nomatch h⟩ ?_ (by rw[NU];lia) ?_ ?_
  .rintro i zs H2 _ ⟨_,rs,hl,pz,_⟩;rw[pz.length,hl];exact Nl _
  .rintro i zs H2 hi ⟨s2,rs,hl,pz,hrs⟩;refine Wf (aZ ⟨_,rfl,_,rfl,_,_,rfl,rfl,.inl ⟨by decide,by decide⟩,_,_,rfl,rfl,_,rfl,_,_,rfl,rfl,_,rfl,_,rfl,_,_,rfl,rfl,?_⟩);refine⟨a,_,many,d-1,by rw[show((d-1:Nat):Int)=(d:Int)-1 by lia],hs.same (s1.trans s2),m1,m4,by lia,by lia,λv r H3 s3 rv ok hh=>?_⟩;refine⟨s2.trans s3,rs++[r],by rw[Os,hl];rfl,de (aX (λ_ _ z=>z.same s3) pz) (.cons rv .nil),λr' RU=>?_⟩;rcases Ov.mp RU with h|h
   .exact hrs r' h
   .rw[Pl.mp h];exact⟨ok,by lia⟩
  .rintro zs H2 p ⟨s2,rs,hl,pz,hrs⟩ hp;rw[QQ] at hl;obtain⟨r,ek,ew,nb⟩:=hk rs hl;have s3:=ak hp (.lst zs);have zl:zs.length=cnt:=by rw[pz.length,hl]
   refine⟨_,rfl,by show 1<=Nh;decide,λt1 UB=>?_⟩;have s4:=ak UB (.tup [V.str word]);refine⟨_,rfl,p,zs,rfl,.inl ⟨Nj.of (s4 _ _ al),λt2 Rq=>?_⟩⟩;have s5:=ak Rq (.tup zs);refine⟨t1,t2,[V.str word],zs,rfl,rfl,s5.NM Ni.up,Ni.up,by simp,by rw[NU];show 1+zs.length<=_;lia,λe=>?_,λ_ p4 hp4=>?_⟩
   .rw[e] at zl;exfalso;have:0=cnt:=zl;lia
   .have s6:=ak hp4 (.tup ([V.str word]++zs));refine z _ r _ (s1.trans (s2.trans (s3.trans (s4.trans (s5.trans s6))))) (E1 nb (xs:=zs) (by rw[ew];exact Ni.up) (by rw[ek];exact aX (λ_ _ z=>z.same (s3.trans (s4.trans (s5.trans s6)))) pz)) (C8 nb λr' h=>(hrs r' (ek▸h)).1) ?_;have:=C9 nb (n:=d-1) λr' h=>by have:=(hrs r' (ek▸h)).2;lia
    lia
 all_goals
  have i0:=Tc (m / 16) (show(many:Int)≠0 by lia);have i1:=S9 (m / 16) (show(0:Int)<(many:Int) by lia);have j0:=Tc (m / 256) (show(many:Int)≠0 by lia);have j1:=S9 (m / 256) (show(0:Int)<(many:Int) by lia);obtain⟨o,ho⟩:∃o:Nat,m / 16 % (many:Int)=(o:Int):=⟨(m / 16 % (many:Int)).toNat,by lia⟩
  obtain⟨q,hq⟩:∃q:Nat,m / 256 % (many:Int)=(q:Int):=⟨(m / 256 % (many:Int)).toNat,by lia⟩
  rw[ho] at i0 i1;rw[hq] at j0 j1;have om:o<many:=by lia
  have qm:q<many:=by lia
  refine⟨_,rfl,_,_,rfl,rfl,⟨by decide,by decide⟩,_,rfl,_,_,rfl,rfl,by show(0:Int)<(many:Int);lia,?_⟩;refine⟨_,rfl,_,_,rfl,rfl,⟨by decide,by decide⟩,_,rfl,_,_,rfl,rfl,by show(0:Int)<(many:Int);lia,?_⟩;dsimp only;rw[ho,hq];refine⟨by show 4<=Nh;decide,λh0 YC=>?_⟩;have s1:=ak YC (.lst [V.str "at",V.str "ahead",V.str "next",V.str "even"]);have k0:=Tc (m / 4096) (show(4:Int)≠0 by decide);have k1:=S9 (m / 4096) (show(0:Int)<4 by decide);have h4:m / 4096 % 4=0\/m / 4096 % 4=1\/m / 4096 % 4=2\/m / 4096 % 4=3:=by lia
  have ev:∀(t:A'),(upd H h0 (.lst [V.str "at",V.str "ahead",V.str "next",V.str "even"])) t=none->Q (.ref t) (upd (upd H h0 (.lst [V.str "at",V.str "ahead",V.str "next",V.str "even"])) t (.tup [V.str "even"])):=λt ht=>z _ (.bs .QI) _ (s1.trans (ak ht _)) ⟨t,rfl,Ni.up⟩ ⟨trivial,by intro h;cases h⟩ d1;have e1:decide (V.str "at"=V.str "even")=false:=by decide +kernel
  have e2:decide (V.str "ahead"=V.str "even")=false:=by decide +kernel
  have e3:decide (V.str "next"=V.str "even")=false:=by decide +kernel
  have e4:decide (V.str "at"=V.str "at")=true:=by decide +kernel
  have e5:decide (V.str "ahead"=V.str "at")=false:=by decide +kernel
  have e6:decide (V.str "next"=V.str "at")=false:=by decide +kernel
  have e7:decide (V.str "even"=V.str "even")=true:=by decide +kernel
  refine⟨_,rfl,_,_,rfl,rfl,⟨by decide,by decide⟩,_,_,rfl,rfl,by show(0:Int)<4;decide,?_⟩;show gM _ (V.ref h0) (V.int (m / 4096 % 4)) _ _;rcases h4 with h|h|h|h <;> rw[h]
  .refine⟨h0,_,0,.str "at",rfl,rfl,Nj.up,rfl,_,rfl,rfl,_,rfl,?_⟩;rw[e1];refine aA ⟨_,rfl,rfl,_,rfl,?_⟩;rw[e4];refine aA (aA ⟨_,rfl,_,rfl,_,rfl,by show 3<=Nh;decide,λt ht=>?_⟩);exact z _ (.bs (.at_ o q)) _ (s1.trans (ak ht _)) ⟨t,rfl,Ni.up⟩ ⟨⟨om,qm⟩,by intro h;cases h⟩ d1
  .refine⟨h0,_,1,.str "ahead",rfl,rfl,Nj.up,rfl,_,rfl,rfl,_,rfl,?_⟩;rw[e2];refine aA ⟨_,rfl,rfl,_,rfl,?_⟩;rw[e5];refine aZ ⟨_,rfl,_,rfl,rfl,_,rfl,?_⟩;rw[cF]
   by_cases oq:o=q
   .rw[Nz oq];exact aZ ⟨by show 1<=Nh;decide,ev⟩
   .rw[Ny oq];refine aA ⟨_,rfl,_,rfl,_,rfl,by show 3<=Nh;decide,λt ht=>?_⟩;exact z _ (.bs (.ahead o q)) _ (s1.trans (ak ht _)) ⟨t,rfl,Ni.up⟩ ⟨⟨om,qm,oq⟩,by intro h;cases h⟩ d1
  .refine⟨h0,_,2,.str "next",rfl,rfl,Nj.up,rfl,_,rfl,rfl,_,rfl,?_⟩;rw[e3];refine aA ⟨_,rfl,rfl,_,rfl,?_⟩;rw[e6];refine aZ ⟨_,rfl,_,rfl,rfl,_,rfl,?_⟩;rw[cF]
   by_cases oq:o=q
   .rw[Nz oq];exact aZ ⟨by show 1<=Nh;decide,ev⟩
   .rw[Ny oq];refine aA ⟨_,rfl,_,rfl,_,rfl,by show 3<=Nh;decide,λt ht=>?_⟩;exact z _ (.bs (.next o q)) _ (s1.trans (ak ht _)) ⟨t,rfl,Ni.up⟩ ⟨⟨om,qm,oq⟩,by intro h;cases h⟩ d1
  .refine⟨h0,_,3,.str "even",rfl,rfl,Nj.up,rfl,_,rfl,rfl,_,rfl,?_⟩;rw[e7];exact aZ (aZ ⟨by show 1<=Nh;decide,ev⟩)
theorem vH (F:NE K "_law_rule" "_law_rule" lB f fd)(T:Oy K mg CO)(WM:Df P w K mg base Nb 2 "_law_mix" ["_law_script","_law_k"] (ph K))(b:bH K fd ["_law_script","_law_k","_law_many","_law_deep"] [])(m:mg "_law_rule"=some (.ref f)):∀n,Nq P w K mg base Nb (n+3) f fd ["_law_script","_law_k","_law_many","_law_deep"] (mF K n)
 | 0=>si F T WM 0 λm h=>nomatch h
 | n+1=>si F T WM (n+1) λk h=>by
  cases h;exact⟨f,fd,vH F T WM b m n,b,F.kp,m⟩
end
abbrev jK:M':=top 65
theorem Jy:Qc "any"=some (.builtin "any"):=by decide +kernel
section
def jL (K:MZ)(n:Nat):Sp:=λvs H Q _=>∃(v:V) (r:Bk.Rl) (y:V) (o:List Int) (many:Nat),vs=[v,y]/\ce K H v r/\Bk.QB many r/\Bk.Oj r<=n/\aK.rep K H y o/\o∈Bk.dU many/\1<=many/\many<=4/\∀H',aB H H'->Q (.bl (Bk.bN o r)) H'
abbrev NKe:List MV:=["_law_rule_here","_law_order","_law_word","_law_some","_law_pairs","_law_k","_law_far"]
theorem cO:N3 NKe ["_law_rule_here","_law_order"] (am jK):=⟨rfl,rfl,rfl,by decide +kernel,rfl,by decide +kernel,by decide +kernel⟩
def Da (o:List Int)(k:Nat):Nat:=((Oe k).filter λj=>decide (o.getD k 0<o.getD j 0)).length
def kB (o:List Int)(n:Nat):Nat:=((Oe n).map (Da o)).sum
theorem A6 (o)(n:Nat):kB o (n+1)=kB o n+Da o n:=by
 unfold kB;rw[aaH,QF,List.sum_append];rfl
theorem A7:∀{r:Bk.Rl},(∀b,r≠.bs b)->(∃r',r=.Nr r')\/(bM r="both"/\Bk.bN o r=((cw r).map (Bk.bN o)).all id)\/(bM r="either"/\Bk.bN o r=((cw r).map (Bk.bN o)).any id)
 | .bs b,n=>Nc rfl (n b)
 | .Nr r,_=>.inl ⟨r,rfl⟩
 | .both r s,_=>.inr (.inl ⟨rfl,by simp[cw,Bk.bN]⟩)
 | .either r s,_=>.inr (.inr ⟨rfl,by simp[cw,Bk.bN]⟩)
theorem sj (F:NE K "_law_keeps" "_law_keeps" jK f fd)(T:Oy K mg CO)(XY:mg "any"=none)(n:Nat)(WW:∀m,n=m+1->Df P w K mg base Nb (m+1) "_law_keeps" ["_law_rule_here","_law_order"] (jL K m)):Nq P w K mg base Nb (n+1) f fd ["_law_rule_here","_law_order"] (jL K n):=by
 refine F.ok cO (λvs H Q E h=>?_) (λNo A outer s H vs Q E hr h=>?_)
 .obtain⟨v,r,y,o,many,rfl,_⟩:=h;rfl
 obtain⟨v,r,y,o,many,rfl,ra,ok,hn,ry,ho,m1,m4,z⟩:=h;have hp:=qk r;obtain⟨ya,rfl,qy⟩:=cu ry;obtain⟨ol,_⟩:=Bk.iD m1 (by lia) ho;have op:=Bk.ly m1 (by lia) ho;cases n with
 | zero=>lia
 | succ n=>
 have D:=WW n rfl
 by_cases hb:∃b,r=.bs b
 .obtain⟨b,rfl⟩:=hb;obtain⟨p,rfl,q⟩:=ra;obtain⟨TM,nf⟩:=ok;have ZU:∀t:Nat,t<many->(t:Int)∈o:=λt ht=>op.mem_iff.mp (dc.mpr ⟨by lia,by lia⟩);have ai:∀t:Nat,t<many->∃x,o[t]?=some x/\Qj (o.map V.int) (t:Int)=some (.int x):=λt ht=>by
   have hl:t<o.length:=by lia
   exact⟨o[t],Ou hl,cG (by rw[Pa,Ou hl];rfl)⟩
  have w0:∀x:MV,x∈(["at","ahead","next","even"]:List MV)->decide (V.str x=V.str "not")=false/\We (V.str x) [V.str "both",V.str "either"]=false:=by
   intro x hx;simp only[NG,Pf,or_false] at hx;rcases hx with rfl|rfl|rfl|rfl <;> exact⟨by decide +kernel,by decide +kernel⟩
  cases b with
  | free=>exact Nc rfl nf
  | at_ u t=>
   obtain⟨n1,n2⟩:=w0 "at" (by simp);refine⟨_,ad (aV (i:=2) cO.nd rfl (by first|exact NB rfl|exact N' rfl) (ay (show Np _ (aU K) from ax) (pv 0) ag (λ_ _=>rfl)))
    (ad (aD (ar bf (pv 2) bc (aw _)) (af ao) au)
    (ad (aD (ar (show N4 _ _ (Tw K false) from fH) (pv 2) (bI (ac bc (ac bc ae))) rfl) (ad ao (af ao)) au)
    (ad (aD (ar bf (pv 2) bc (aw _)) (af (aH (cg bf (ay (show Np _ (aU K) from ax) (pv 1) (ay (show Np _ (aU K) from ax) (pv 0) ag (λ_ _=>rfl)) (λ_ _=>rfl)) (ay (show Np _ (aU K) from ax) (pv 0) ag (λ_ _=>rfl)) (aw _)))) au)
    (ad ao (ad ao (af ao)))))),?_⟩
   refine⟨_,rfl,p,_,0,.str "at",rfl,rfl,q,bU,_,rfl,rfl,_,rfl,?_⟩;rw[n1];refine aA ⟨_,rfl,by show 2<=Nh;decide,λp2 QK=>?_⟩;have s2:=ak QK (.tup [V.str "both",V.str "either"]);refine⟨p2,_,rfl,.inr Ni.up,rfl,rfl,_,rfl,?_⟩;rw[M0 (by decide),n2];refine aA ⟨_,rfl,rfl,_,rfl,?_⟩;rw[Nz rfl];obtain⟨x,hx,hxi⟩:=ai u TM.1;refine aZ ⟨_,rfl,_,rfl,p,_,1,.int (u:Int),rfl,rfl,s2.NM q,fW,ya,_,(u:Int),.int x,rfl,rfl,s2.NM qy,hxi,_,rfl,p,_,2,.int (t:Int),rfl,rfl,s2.NM q,lc,rfl,?_⟩;have z:=z _ s2;simp only[Bk.bN,Bk.o6,hx] at z;rw[show decide (V.int x=V.int (t:Int))=decide (some x=some (t:Int)) by
    by_cases h:x=(t:Int)
    .subst h;simp
    .rw[Ny (λe=>h (V.int.inj e)),Ny (λe=>h (Rw e))]]
   exact z
  | QI=>
   obtain⟨n1,n2⟩:=w0 "even" (by simp);refine⟨_,ad (aV (i:=2) cO.nd rfl (by first|exact NB rfl|exact N' rfl) (ay (show Np _ (aU K) from ax) (pv 0) ag (λ_ _=>rfl)))
    (ad (aD (ar bf (pv 2) bc (aw _)) (af ao) au)
    (ad (aD (ar (show N4 _ _ (Tw K false) from fH) (pv 2) (bI (ac bc (ac bc ae))) rfl) (ad ao (af ao)) au)
    (ad (aD (ar bf (pv 2) bc (aw _)) (af ao) au)
    (ad (aD (ar bf (pv 2) bc (aw _))
     (ad (aV (i:=4) cO.nd rfl (by first|exact NB rfl|exact N' rfl) ag)
     (ad (dQ RL rfl (eM rfl T.t.range (ac (aQ bd rfl T.t.len cq (ac (pv 1) ae)) ae)) (cJ (i:=5) cO.nd rfl (by first|exact NB rfl|exact N' rfl))
      (af (aV (i:=4) cO.nd rfl (by first|exact NB rfl|exact N' rfl) (aO bR (pv 4) (aQ bd rfl T.t.len cq (ac (eA rfl (show Qf (am jK) NKe _ _ from by constructor <;> decide +kernel) (eM rfl T.t.range (ac (pv 5) ae))
       (λ_ _ _ _ _ _=>ez (ar iO (ay (show Np _ (aU K) from ax) (pv 2) (pv 0) (λ_ _=>rfl)) (ay (show Np _ (aU K) from ax) (pv 2) (pv 6) (λ_ _=>rfl)) (aw _)))
       (λcl C NY OM fp aa=>pv 0) cO.nd) ae))))))
     (af (aH (cg bf (aO cD (pv 4) ag) ag (aw _)))))) au)
    (ad ao (af ao)))))),?_⟩
   refine⟨_,rfl,p,_,0,.str "even",rfl,rfl,q,bU,_,rfl,rfl,_,rfl,?_⟩;rw[n1];refine aA ⟨_,rfl,by show 2<=Nh;decide,λp2 QK=>?_⟩;have s2:=ak QK (.tup [V.str "both",V.str "either"]);refine⟨p2,_,rfl,.inr Ni.up,rfl,rfl,_,rfl,?_⟩;rw[M0 (by decide),n2];refine aA ⟨_,rfl,rfl,_,rfl,?_⟩;rw[show decide (V.str "even"=V.str "at")=false by decide +kernel];refine aA ⟨_,rfl,rfl,_,rfl,?_⟩;rw[Nz rfl];refine aZ ⟨_,rfl,ya,_,rfl,.inr (s2.NM qy),_,rfl,?_⟩;have hl:(o.map V.int).length=many:=by rw[NT,ol]
   rw[hl];refine⟨by lia,by lia,qx (lo:=0) (n:=((many:Int)).toNat) (λk σ H2=>∃v3 v5 v6,σ=[some (.ref p),some (.ref ya),some (.str "even"),v3,some (.int (kB o k:Nat)),v5,v6]/\aB (upd H p2 (.tup [V.str "both",V.str "either"])) H2) ⟨none,none,none,rfl,aB.refl _⟩ ?_ ?_⟩
   .rintro k σ H2 hk ⟨v3,v5,v6,rfl,s3⟩;rw[QQ] at hk;obtain⟨xk,hxk,ik⟩:=ai k hk;have gk:o.getD k 0=xk:=by rw[UH,hxk];rfl
    refine⟨_,rfl,_,rfl,_,rfl,by lia,by lia,?_⟩;rw[ac4];refine gj (lo:=0) (n:=((k:Int)).toNat) (λi zs H4=>H4=H2/\zs.length=((Oe i).filter λj=>decide (o.getD k 0<o.getD j 0)).length) ⟨rfl,rfl⟩ ?_ (by rw[NU];lia) ?_ ?_
    .rintro i zs H4 _ ⟨_,e⟩;rw[e];exact Ph (R0 _ _) (by rw[UN];exact Nl _)
    .rintro i zs H4 hi ⟨rfl,e⟩;rw[QQ] at hi;obtain⟨xi,hxi,ii⟩:=ai i (by lia);have gi:o.getD i 0=xi:=by rw[UH,hxi];rfl
     rw[ac4];have VB:=s2.trans s3;refine⟨_,rfl,_,rfl,ya,_,(i:Int),.int xi,rfl,rfl,VB.NM qy,ii,_,rfl,_,rfl,ya,_,(k:Int),.int xk,rfl,rfl,VB.NM qy,ik,_,_,rfl,rfl,_,rfl,?_⟩;rw[je (α:=Unit),gk,gi];rw[gk] at e
     by_cases c:xk<xi
     .rw[Nz c];exact aZ ⟨_,rfl,rfl,by rw[M6 rfl,Os,Os,e];rfl⟩
     .rw[Ny c];exact aA ⟨rfl,by rw[M0 (by decide),QD];exact e⟩
    .rintro zs H4 p5 ⟨rfl,e⟩ hp5;rw[QQ] at e;have e:zs.length=Da o k:=e;refine⟨p5,zs,rfl,.inl Nj.up,_,_,rfl,rfl,v3,some (.int (k:Int)),v6,?_,s3.trans (ak hp5 _)⟩;rw[A6,e];rfl
   .rintro σ H2 ⟨v3,v5,v6,rfl,s3⟩;rw[QQ];refine⟨_,rfl,_,_,rfl,rfl,by show(0:Int)<2;decide,rfl,?_⟩;have z:=z _ (s2.trans s3);have z:Q (.bl (decide (kB o o.length % 2=0))) H2:=z;rw[ol] at z;have ed:decide (V.int ((kB o many:Nat) % 2:Int)=V.int 0)=decide (kB o many % 2=0):=by
     by_cases h:kB o many % 2=0
     .rw[Nz h,Nz (by congr 1;lia)]
     .rw[Ny h,Ny (λe=>h (by have:=V.int.inj e;lia))]
    show Q (V.bl (decide (V.int ((kB o many:Nat) % 2:Int)=V.int 0))) H2;rw[ed];exact z
  | ahead a c=>
   obtain⟨n1,n2⟩:=w0 "ahead" (by simp);refine⟨_,ad (aV (i:=2) cO.nd rfl (by first|exact NB rfl|exact N' rfl) (ay (show Np _ (aU K) from ax) (pv 0) ag (λ_ _=>rfl)))
    (ad (aD (ar bf (pv 2) bc (aw _)) (af ao) au)
    (ad (aD (ar (show N4 _ _ (Tw K false) from fH) (pv 2) (bI (ac bc (ac bc ae))) rfl) (ad ao (af ao)) au)
    (ad (aD (ar bf (pv 2) bc (aw _)) (af ao) au)
    (ad (aD (ar bf (pv 2) bc (aw _)) (ad ao (ad ao (af ao))) au)
    (ad (aV (i:=6) cO.nd rfl (by first|exact NB rfl|exact N' rfl) (aO jm (o9 YW aai i4 (pv 1) (ac (ay (show Np _ (aU K) from ax) (pv 0) ag (λ_ _=>rfl)) ae)) (o9 YW aai i4 (pv 1) (ac (ay (show Np _ (aU K) from ax) (pv 0) ag (λ_ _=>rfl)) ae))))
    (af (aH (eK (ar bf (pv 2) bc (aw _)) (cg iO (pv 6) ag (aw _)) (cg bf (pv 6) ag (aw _)))))))))),?_⟩
   refine⟨_,rfl,p,_,0,.str "ahead",rfl,rfl,q,bU,_,rfl,rfl,_,rfl,?_⟩;rw[n1];refine aA ⟨_,rfl,by show 2<=Nh;decide,λp2 QK=>?_⟩;have s2:=ak QK (.tup [V.str "both",V.str "either"]);refine⟨p2,_,rfl,.inr Ni.up,rfl,rfl,_,rfl,?_⟩;rw[M0 (by decide),n2];refine aA ⟨_,rfl,rfl,_,rfl,?_⟩;rw[show decide (V.str "ahead"=V.str "at")=false by decide +kernel];refine aA ⟨_,rfl,rfl,_,rfl,?_⟩;rw[show decide (V.str "ahead"=V.str "even")=false by decide +kernel];refine aA ⟨_,rfl,⟨ya,_,rfl,s2.NM qy⟩,_,rfl,p,_,2,.int (c:Int),rfl,rfl,s2.NM q,lc,ya,o,(c:Int),rfl,rfl,s2.NM qy,ZU c TM.2.1,?_⟩;refine⟨_,rfl,⟨ya,_,rfl,s2.NM qy⟩,_,rfl,p,_,1,.int (a:Int),rfl,rfl,s2.NM q,fW,ya,o,(a:Int),rfl,rfl,s2.NM qy,ZU a TM.1,_,_,rfl,rfl,?_⟩;refine⟨_,rfl,rfl,_,rfl,?_⟩;rw[Nz rfl];exact aZ ⟨_,rfl,_,_,rfl,rfl,z _ s2⟩
  | next a c=>
   obtain⟨n1,n2⟩:=w0 "next" (by simp);refine⟨_,ad (aV (i:=2) cO.nd rfl (by first|exact NB rfl|exact N' rfl) (ay (show Np _ (aU K) from ax) (pv 0) ag (λ_ _=>rfl)))
    (ad (aD (ar bf (pv 2) bc (aw _)) (af ao) au)
    (ad (aD (ar (show N4 _ _ (Tw K false) from fH) (pv 2) (bI (ac bc (ac bc ae))) rfl) (ad ao (af ao)) au)
    (ad (aD (ar bf (pv 2) bc (aw _)) (af ao) au)
    (ad (aD (ar bf (pv 2) bc (aw _)) (ad ao (ad ao (af ao))) au)
    (ad (aV (i:=6) cO.nd rfl (by first|exact NB rfl|exact N' rfl) (aO jm (o9 YW aai i4 (pv 1) (ac (ay (show Np _ (aU K) from ax) (pv 0) ag (λ_ _=>rfl)) ae)) (o9 YW aai i4 (pv 1) (ac (ay (show Np _ (aU K) from ax) (pv 0) ag (λ_ _=>rfl)) ae))))
    (af (aH (eK (ar bf (pv 2) bc (aw _)) (cg iO (pv 6) ag (aw _)) (cg bf (pv 6) ag (aw _)))))))))),?_⟩
   refine⟨_,rfl,p,_,0,.str "next",rfl,rfl,q,bU,_,rfl,rfl,_,rfl,?_⟩;rw[n1];refine aA ⟨_,rfl,by show 2<=Nh;decide,λp2 QK=>?_⟩;have s2:=ak QK (.tup [V.str "both",V.str "either"]);refine⟨p2,_,rfl,.inr Ni.up,rfl,rfl,_,rfl,?_⟩;rw[M0 (by decide),n2];refine aA ⟨_,rfl,rfl,_,rfl,?_⟩;rw[show decide (V.str "next"=V.str "at")=false by decide +kernel];refine aA ⟨_,rfl,rfl,_,rfl,?_⟩;rw[show decide (V.str "next"=V.str "even")=false by decide +kernel];refine aA ⟨_,rfl,⟨ya,_,rfl,s2.NM qy⟩,_,rfl,p,_,2,.int (c:Int),rfl,rfl,s2.NM q,lc,ya,o,(c:Int),rfl,rfl,s2.NM qy,ZU c TM.2.1,?_⟩;refine⟨_,rfl,⟨ya,_,rfl,s2.NM qy⟩,_,rfl,p,_,1,.int (a:Int),rfl,rfl,s2.NM q,fW,ya,o,(a:Int),rfl,rfl,s2.NM qy,ZU a TM.1,_,_,rfl,rfl,?_⟩;refine⟨_,rfl,rfl,_,rfl,?_⟩;rw[show decide (V.str "next"=V.str "ahead")=false by decide +kernel];refine aA ⟨_,rfl,rfl,?_⟩;have z:=z _ s2;simp only[Bk.bN,Bk.o6,Bk.CK] at z;rw[show decide (V.int ((o.idxOf (c:Int):Nat)-(o.idxOf (a:Int):Nat):Int)=V.int 1)=decide (((o.idxOf (c:Int):Nat):Int)-((o.idxOf (a:Int):Nat):Int)=1) by
    by_cases h:((o.idxOf (c:Int):Nat):Int)-((o.idxOf (a:Int):Nat):Int)=1
    .rw[h];rfl
    .rw[Ny h,Ny (λe=>h (V.int.inj e))]]
   exact z
 have nb:∀b,r≠.bs b:=λb e=>hb ⟨b,e⟩;obtain⟨p,xs,rfl,q,pk⟩:=rZ ra nb;rcases A7 (o:=o) nb with⟨r',rfl⟩|two
 .cases pk with
  | cons rx pk=>
  cases pk;rename_i x;refine⟨_,ad (aV (i:=2) cO.nd rfl (by first|exact NB rfl|exact N' rfl) (ay (show Np _ (aU K) from ax) (pv 0) ag (λ_ _=>rfl)))
   (ad (aD (ar bf (pv 2) bc (aw _)) (af (aH (y9 (aE D hr rfl (az (E:=λ_ _ _ _=>False)) (ac (ay (show Np _ (aU K) from ax) (pv 0) ag (λ_ _=>rfl)) (ac (pv 1) ae)))))) au)
   (ad ao (ad ao (ad ao (ad ao (af ao)))))),?_⟩
  refine⟨_,rfl,p,_,0,.str "not",rfl,rfl,q,bU,_,rfl,rfl,_,rfl,?_⟩;rw[Nz rfl];refine aZ ⟨_,rfl,p,_,1,x,rfl,rfl,q,fW,_,rfl,x,r',.ref ya,o,many,rfl,rx,ok,by simp only[Bk.Oj] at hn;lia,ry,ho,m1,m4,λH1 s1=>?_⟩;exact⟨_,rfl,z H1 s1⟩
 .have lk:=pk.length;have lk2:(cw r).length<=2:=by cases r <;> simp[cw]
  have wr:bM r="both"\/bM r="either":=two.imp (·.1) (·.1);have wn:decide (V.str (bM r)=V.str "not")=false:=by rcases wr with h|h <;> rw[h] <;> decide +kernel
  have win:We (V.str (bM r)) [V.str "both",V.str "either"]=true:=by rcases wr with h|h <;> rw[h] <;> decide +kernel
  refine⟨_,ad (aV (i:=2) cO.nd rfl (by first|exact NB rfl|exact N' rfl) (ay (show Np _ (aU K) from ax) (pv 0) ag (λ_ _=>rfl)))
   (ad (aD (ar bf (pv 2) bc (aw _)) (af ao) au)
   (ad (aD (ar (show N4 _ _ (Tw K false) from fH) (pv 2) (bI (ac bc (ac bc ae))) rfl)
    (ad (hZ (i0:=3) cO.nd rfl (by first|exact NB rfl|exact N' rfl) rfl (show Qf (am jK) NKe _ _ from by constructor <;> decide +kernel) (im (gf (nU) (pv 0) (gZ ag) gY)) (λ_ _ _ _ _ _=>hG)
      (λcl C NY OM fp aa=>aE D hr rfl (az (E:=λ_ _ _ _=>False)) (ac (pv 0) (ac (pv 2) ae))) rfl)
     (af (aH (eK (ar bf (pv 2) bc (aw _)) (aQ (tL rfl) rfl T.t.all Dm (ac (pv 3) ae)) (aQ (CQ rfl) rfl XY Jy (ac (pv 3) ae)))))) au)
   (ad ao (ad ao (ad ao (af ao)))))),?_⟩
  refine⟨_,rfl,p,_,0,.str (bM r),rfl,rfl,q,bU,_,rfl,rfl,_,rfl,?_⟩;rw[wn];refine aA ⟨_,rfl,by show 2<=Nh;decide,λp2 QK=>?_⟩;have s2:=ak QK (.tup [V.str "both",V.str "either"]);refine⟨p2,_,rfl,.inr Ni.up,rfl,rfl,_,rfl,?_⟩;rw[M0 (by decide),win];have nw:¬(HT.NI (V.str (bM r)::xs).length 0 (some 1)=0/\HT.NI (V.str (bM r)::xs).length (V.str (bM r)::xs).length none=(V.str (bM r)::xs).length):=λh=>by
   have:=h.1;unfold HT.NI at this;simp at this
  refine aZ ⟨_,rfl,1,rfl,p,_,rfl,s2.NM q,nw,λp3 hp3=>?_⟩;rw[qj];have s3:=s2.trans (ak hp3 (.tup xs));refine⟨p3,rfl,⟨_,Ni.up⟩,mY (K:=K) (a:=p3) (xs:=xs) (λi zs H2=>aB (upd (upd H p2 (.tup [V.str "both",V.str "either"])) p3 (.tup xs)) H2/\zs=(((cw r).take i).map (Bk.bN o)).map V.bl) ⟨aB.refl _,rfl⟩ ?_ (by rw[NU];lia) ?_ ?_⟩
  .rintro i zs H2 _ ⟨s4,rfl⟩;refine⟨s4.NM Ni.up,?_⟩;rw[NT,NT,Qb];exact Nat.min_le_left _ _
  .rintro i x zs H2 hx ⟨s4,rfl⟩;obtain⟨r',RU,rx⟩:=cy pk hx;obtain⟨k1,k2⟩:=xx ok r' (Oo RU);have SV:=s3.trans s4;refine Wf (aZ ⟨_,rfl,_,rfl,x,r',.ref ya,o,many,rfl,rx.same SV,k1,by lia,aK.mono SV ry,ho,m1,m4,λH5 s5=>?_⟩);refine⟨s4.trans s5,?_⟩;rw[cx RU,QF,QF];rfl
  .rintro zs H2 p5 ⟨s4,rfl⟩ hp5;rw[lk,Rf];have s6:=s3.trans (s4.trans (ak hp5 (.lst (((cw r).map (Bk.bN o)).map V.bl))));have z6:=z _ s6;refine⟨_,rfl,rfl,_,rfl,?_⟩;rcases two with⟨ew,ek⟩|⟨ew,ek⟩
   .rw[show decide (V.str (bM r)=V.str "both")=true by rw[ew];decide +kernel];rw[ek] at z6;exact aZ ⟨_,rfl,p5,_,rfl,Nj.up,z6⟩
   .rw[show decide (V.str (bM r)=V.str "both")=false by rw[ew];decide +kernel];rw[ek] at z6;exact aA ⟨_,rfl,p5,_,rfl,Nj.up,z6⟩
theorem vI (F:NE K "_law_keeps" "_law_keeps" jK f fd)(T:Oy K mg CO)(XY:mg "any"=none)(b:bH K fd ["_law_rule_here","_law_order"] [])(m:mg "_law_keeps"=some (.ref f)):
  ∀n,Nq P w K mg base Nb (n+1) f fd ["_law_rule_here","_law_order"] (jL K n)
 | 0=>sj F T XY 0 λm h=>nomatch h
 | n+1=>sj F T XY (n+1) λk h=>by
  cases h;exact⟨f,fd,vI F T XY b m n,b,F.kp,m⟩
end
end Ord
namespace L2
open PySem PySem.Spec PyProof.Rows
theorem NE.code {K:MZ}{h:M4}{mg:MV->Option D'}{x qual:MV}{st:M'}{f c Pt:A'}{fd:Nt}(F:NE K x qual st f fd)(X:K.In h)(G:h.Ns N5 mg)(tj:Ub K x=some (c,Pt))(hm:mg x=some (.ref f)):fd.code=.ref c:=by
 obtain⟨oc,od,kV,doc,pm,an,No,ct,Qi,rfl,lk,Pq⟩:=F.ex;exact W.law_code X G tj hm (X _ _ lk) rfl
theorem A8 {K:MZ}(KX:K.In Nw.heap)(Rm:Nw.heap.Ns N5 mg)(hb:Nw.heap.Ns builtinsNs mb)(hbb:∀x:MV,x≠"__name__"->mb x=Qc x)(af2:Nw.heap.NoLimit)(hg:Nw.gens=#[])(hC:QT Nw.heap c Pt)(hP:Nw.heap.get? Pt=some (XC #[]))(hKP:K.lookup Pt=none)(hC2:QT Nw.heap c' Pw)(WI:Nw.heap.get? Pw=some (XC #[]))(abL:K.lookup Pw=none)(hbm:Bm mg Nw.heap)(ha:Nw.heap.get? a=some { cls:=.type "list",data:=.seq vs.toArray })(hi:RQ vs ns)(hl:ns.length<=Nh)(hr:MX k callerA)(F:∀base:M4,K.In base->base.Ns N5 mg->QT base c Pt->QT base c' Pw->Bm mg base->Nq P w K mg base CX k fa fd [x] sp)(afp:∀(s:J') (u:D'),XD s fd ⟨[u],[]⟩ [(x,u)])(NW:∀H:Hp,H Pt=some (.PR #[])->H Pw=some (.PR #[])->Nj K H a (ns.map V.int)->sp [.ref a] H (λv _=>v=.bl true) λ_ _ _=>False)(hCX:∀H e s',CX [] H Nw (λ_ _ _=>False) e s'->False):
  codeAny (M8 P w) callerA (.call (.ref fa) ⟨[.ref a],[]⟩) (λr s'=>r=.ok (.ret (.bool true))/\OldK Nw.heap s'.heap/\s'.os=Nw.os/\Ti s'.gens) Nw:=by
 have rv:=iP hi;have af3:=hi.length;have aP:¬(a=Pt\/a=Pw):=by
  rintro(rfl|rfl)
  .rw[ha] at hP;cases hP
  .rw[ha] at WI;cases WI
 have XZ:∀b,b=Pt\/b=Pw->Nw.heap.get? b=some (XC #[])/\K.lookup b=none:=by
  rintro b (rfl|rfl)
  .exact⟨hP,hKP⟩
  .exact⟨WI,abL⟩
 have core:∀H:Hp,(∀b,¬(b=Pt\/b=Pw)->H b=none\/∃o xs,H b=some (.Oq o (.lst xs)))->(∀b,b=Pt\/b=Pw->H b=some (.PR #[]))->Nj K H a (ns.map V.int)->OP P w H Nw.heap->(∀b,H b≠none->b=a\/(b=Pt\/b=Pw))->(H a≠none->K.lookup a=none)->
   codeAny (M8 P w) callerA (.call (.ref fa) ⟨[.ref a],[]⟩) (λr s'=>r=.ok (.ret (.bool true))/\OldK Nw.heap s'.heap/\s'.os=Nw.os/\Ti s'.gens) Nw:=by
  intro H hO hT hS Nf hA hK;have XG:∀{b:A'}{o:G'},Nw.heap.get? b=some o->H b=none->(gL Nw.heap H).get? b=some o:=λe n=>Bl e n;have Zy:∀{b:A'}{o:G'},Nw.heap.get? b=some o->o≠{ cls:=.type "list",data:=.seq vs.toArray }->o≠XC #[]->H b=none:=λ{b o} e d1 d2=>by
   cases q:H b with
   | none=>rfl
   | some u=>
    rcases hA b (by rw[q];simp) with rfl|hb
    .rw[ha] at e;cases e;exact Nc rfl d1
    .rw[(XZ b hb).1] at e;cases e;exact Nc rfl d2
  have nsK:∀{b:A'}{m:MV->Option D'},Nw.heap.Ns b m->(gL Nw.heap H).Ns b m:=λ{b m} ⟨o,es,ep,e,d,r⟩=>⟨o,es,ep,XG e (Zy e (by rintro rfl;cases d) (by rintro rfl;cases d)),d,r⟩
  have hKb:K.In (gL Nw.heap H):=λb o e=>XG (KX b o e) (by
   cases q:H b with
   | none=>rfl
   | some u=>
    rcases hA b (by rw[q];simp) with rfl|hb
    .rw[hK (by rw[q];simp)] at e;cases e
    .rw[(XZ b hb).2] at e;cases e)
  have hM:Mod K mg (gL Nw.heap H):=⟨hKb,nsK Rm,⟨mb,nsK hb,hbb⟩,let ⟨mc,h1,h2⟩:=af2;⟨mc,nsK h1,h2⟩⟩
  have hCb:QT (gL Nw.heap H) c Pt:=by
   obtain⟨o,Ur,file,tf,flags,tg,inF,text,tt,e1,e2,e3,r⟩:=hC;exact⟨o,Ur,file,tf,flags,tg,inF,text,tt,XG e1 (Zy e1 (by rintro rfl;cases e3) (by rintro rfl;cases e2)),e2,e3,r⟩
  have af4:QT (gL Nw.heap H) c' Pw:=by
   obtain⟨o,Ur,file,tf,flags,tg,inF,text,tt,e1,e2,e3,r⟩:=hC2;exact⟨o,Ur,file,tf,flags,tg,inF,text,tt,XG e1 (Zy e1 (by rintro rfl;cases e3) (by rintro rfl;cases e2)),e2,e3,r⟩
  have hBb:Bm mg (gL Nw.heap H):=by
   obtain⟨bm,o,b1,b2,b3,b4,b5,b6,b7⟩:=hbm;exact⟨bm,o,b1,b2,b3,XG b4 (Zy b4 (by rintro rfl;cases b7) (by rintro rfl;cases b7)),b5,b6,b7⟩
  have e0:SG P w K mg (gL Nw.heap H) callerA [] Nw H:=⟨rfl,hM,λb o e=>DN e,VX (yZ _ _),trivial,λb hb=>Nc (show b∈([]:List A') from hb) (by simp),Nf,.of_eq hg⟩
  refine T5 ((F _ hKb (nsK Rm) hCb af4 hBb).run callerA [] Nw H ⟨[.ref a],[]⟩ [.ref a] [.ref a] _ _ hr e0 (afp Nw (.ref a)) (.cons rfl .nil) (NW H (hT Pt (.inl rfl)) (hT Pw (.inr rfl)) hS)) λr s' h=>?_;cases r with
  | error e=>exact(hCX H e s' h).elim
  | ok fl=>
   cases fl with
   | next=>exact P3 h
   | brk=>exact P3 h
   | cont=>exact P3 h
   | ret u=>
    obtain⟨v,H',os,bare,un,adR,r',q⟩:=h;have q':v=.bl true:=q;subst q';obtain rfl:u=RN true:=r';have kept:∀b o,¬(b=Pt\/b=Pw)->Nw.heap.get? b=some o->s'.heap.get? b=some o:=λb o Qa e=>by
     cases q:H b with
     | none=>exact un.keep b o e q (by intro z;exact Nc (show b∈([]:List A') from z) (by simp)) (by simp)
     | some u=>
      rcases hO b Qa with z|⟨ob,xs,z⟩
      .rw[q] at z;cases z
      .have z2:=un.Sd b ob _ z;obtain⟨e1,_⟩:=Nf b _ z;obtain⟨e2,_⟩:=adR b _ z2;rw[e] at e1;cases e1;exact e2
    have grown:∀b,b=Pt\/b=Pw->∃more,s'.heap.get? b=some (XC (#[]++more)):=λb hb=>by
     obtain⟨more,hT'⟩:=un.Se b _ (hT b hb);exact⟨more,adR b _ hT'⟩
    refine⟨rfl,⟨λb o e=>?_,λb o e=>?_⟩,os,bare⟩
    .by_cases Qa:b=Pt\/b=Pw
     .obtain⟨more,g⟩:=grown b Qa;rw[(XZ b Qa).1] at e;cases e;rcases Qa with rfl|rfl
      .exact .inr (.inl ⟨(hC.tab hP).isCodeTable,rfl,#[],more,rfl,g⟩)
      .exact .inr (.inl ⟨(hC2.tab WI).isCodeTable,rfl,#[],more,rfl,g⟩)
     .exact .inl (kept b o Qa e)
    .by_cases Qa:b=Pt\/b=Pw
     .obtain⟨more,g⟩:=grown b Qa;exact⟨_,g⟩
     .exact⟨o,kept b o Qa e⟩
 cases hk:K.lookup a with
 | some o=>
  have e:=KX a o hk;rw[ha] at e;cases e;refine core (λb=>if b=Pt\/b=Pw then some (.PR #[]) else none) (λb hb=>.inl (M0 hb)) (λb hb=>M6 hb) (.inr ⟨_,vs.toArray,_,hk,rfl,rfl,rfl,by rw[Od,af3];exact hl,by simpa using rv⟩) (λb u z=>?_) (λb z=>?_) λz=>Nc (M0 aP) z
  .by_cases hb:b=Pt\/b=Pw
   .have z':=(M6 hb).symm.trans z;cases z';exact(XZ b hb).1
   .have z':=(M0 hb).symm.trans z;cases z'
  .by_cases hb:b=Pt\/b=Pw
   .exact .inr hb
   .exact Nc (M0 hb) z
 | none=>
  refine core (λb=>if b=Pt\/b=Pw then some (.PR #[]) else if b=a then some (.Oq { cls:=.type "list",data:=.seq vs.toArray } (.lst (ns.map V.int))) else none) (λb Qa=>?_) (λb hb=>M6 hb) (.inl (.inr ⟨{ cls:=.type "list",data:=.seq vs.toArray },(M0 aP).trans (M6 rfl)⟩)) (λb u z=>?_) (λb z=>?_) λ_=>hk
  .by_cases hb:b=a
   .exact .inr ⟨_,_,(M0 Qa).trans (M6 hb)⟩
   .exact .inl ((M0 Qa).trans (M0 hb))
  .by_cases Qa:b=Pt\/b=Pw
   .have z':=(M6 Qa).symm.trans z;cases z';exact(XZ b Qa).1
   .by_cases hb:b=a
    .have z':=((M0 Qa).trans (M6 hb)).symm.trans z;cases z';subst hb;exact⟨ha,by rw[NT];exact hl,vs,_,rv,ha⟩
    .have z':=((M0 Qa).trans (M0 hb)).symm.trans z;cases z'
  .by_cases Qa:b=Pt\/b=Pw
   .exact .inr Qa
   .by_cases hb:b=a
    .exact .inl hb
    .exact Nc ((M0 Qa).trans (M0 hb)) z
theorem Db {l:W.OpenLaw}{n k:Nat}{q:Ng}{loose:List MV}{XP:(MV->Option D')->M4->Prop}{YP:M7->M4->Prop}{d dj dw:V6}{K:UX->MZ}{CX:M7->PU}{sp:M7->A'->A'->Sp}{x xj xw:MV}(hn:l.most=some n)(Z1:n<=Nh)(X9:d.params.defaults=[])(hr:MX k callerA)(hj:(recsOf q).find? (λe=>e.name==xj)=some dj)(hw:(recsOf q).find? (λe=>e.name==xw)=some dw)(hY:∀(w:M7) (h:M4),YP w h->(K w.params).In h)(F:∀(w:M7) (mg:MV->Option D') (fa:A') (h:M4),(K w.params).In h->h.Ns N5 mg->mg d.name=some (.ref fa)->
   ∃(fd:Nt) (c Pt c' Pw:A'),Ub (K w.params) xj=some (c,Pt)/\(K w.params).lookup Pt=none/\Ub (K w.params) xw=some (c',Pw)/\(K w.params).lookup Pw=none/\Pt≠Pw/\(∀(s:J') (u:D'),XD s fd ⟨[u],[]⟩ [(x,u)])/\
    ∀base:M4,(K w.params).In base->base.Ns N5 mg->QT base c Pt->QT base c' Pw->Bm mg base->Nq l.prog w (K w.params) mg base (CX w) k fa fd [x] (sp w Pt Pw))(NW:∀(w:M7) (H:Hp) (a Pt Pw:A') (ns:List Int),ns.length<=n->Pt≠Pw->H Pt=some (.PR #[])->H Pw=some (.PR #[])->Nj (K w.params) H a (ns.map V.int)->sp w Pt Pw [.ref a] H (λv _=>v=.bl true) λ_ _ _=>False)(hCX:∀(w:M7) (H:Hp) (s:J') (e:D') (s':J'),CX w [] H s (λ_ _ _=>False) e s'->False):
  W.WalkO q loose XP YP l.row.toRowW d [] (λf vs=>ac7 f vs):=by
 refine Att.vO hn X9 λw OU Nw mg mb fa o pm cd doc a vs ns G Y ho hd Pq X' abt hints hlen hg=>?_;have KX:=hY w _ Y;obtain⟨fd,c,Pt,c',Pw,tj,hKP,tw,abL,Ol,hb,hF⟩:=F w mg fa _ KX G.T.g X';obtain⟨hC,hP⟩:=W.tab_of G.T KX hj tj;obtain⟨hC2,WI⟩:=W.tab_of G.T KX hw tw;obtain⟨bm,ob,a1,a2,a3,a4,a5,a6⟩:=G.T.bmain;have a7:bm≠N5:=by
  rintro rfl;obtain⟨o',es,ep,e,d',_⟩:=G.T.g;rw[a3] at e;cases e;rw[a6] at d';cases d'
 exact A8 KX G.T.g G.T.b G.T.builtins G.T.nolimit hg hC hP hKP hC2 WI abL ⟨bm,ob,a1,a2,a7,a3,a4,a5,a6⟩ abt hints (Ph hlen Z1) hr hF hb (λH hO hO2 hS=>NW w H a Pt Pw ns hlen Ol hO hO2 hS) λH e s'=>hCX w H Nw e s'
end L2
namespace Ord
open PySem L2 Mx
section
theorem Kh (T:Tb H Pt Pw)(s:bp [Pt,Pw] H H')(h:ST K H a):ST K H' a:=let ⟨ns,q⟩:=h;⟨ns,s.Po T.abp q⟩
theorem Jz (T:Tb H Pt Pw)(s:bp [Pt,Pw] H H')(h:aK.rep K H x o):aK.rep K H' x o:=by
 obtain⟨a,rfl,q⟩:=cu h;exact cr (s.Pb T.soft q)
theorem olP {os:Bk.ap}(T:Tb H Pt Pw)(s:bp [Pt,Pw] H H')(h:OL K H a os):OL K H' a os:=by
 obtain⟨ys,q,p⟩:=h;refine⟨ys,s _ _ (λz=>?_) q,aX (λ_ _ z=>Jz T s z) p⟩;exact T.abp _ z ys (.inl q)
end
section
theorem wc {L:Bk.ap}(h:L[i]?=some o):(L.take (i+1)).filter f=(L.take i).filter f++if f o=true then [o] else []:=by
 rw[cx h,UL]
 congr 1
 by_cases c:f o=true
 .rw[M6 c,Sw c];rfl
 .rw[M0 c,UJ c];rfl
variable {K:MZ} in
theorem pq {n:Nat}{H:Hp}{σ:St}{l:A'}{ys:List V}{os:Bk.ap}{v:V}{r:Bk.Rl}{many:Nat}{Q:VK}{E:St->XK}{jr:Nat}(hv:∀x,(some x::σ)[jr]?=some (some v))(hl:H l=some (.lst ys))(py:Nd (aK.rep K H) ys os)(ra:ce K H v r)(ok:Bk.QB many r)(hn:Bk.Oj r<=n)(mem:∀o∈os,o∈Bk.dU many)(m1:1<=many)(m4:many<=4)(NH:os.length<=100)(z:∀(p:A') (H':Hp),aB H H'->OL K H' p (os.filter λo=>Bk.bN o r)->Q (.ref p) H'):
  lI (Vb K l) σ (tB (zA (jL K n) E (dX (dL jr) (dX (dL 0) jP)))) (dL 0) Q H:=by
 have len:=py.length;refine iq (K:=K) (a:=l) (xs:=ys) (λi zs H2=>aB H H2/\zs.length<=i/\Nd (aK.rep K H2) zs ((os.take i).filter λo=>Bk.bN o r)) ⟨aB.refl _,Ow _,.nil⟩ ?_ (by rw[NU];lia) ?_ ?_
 .rintro i zs H2 _ ⟨s2,zl,_⟩;exact⟨Nj.of (s2 _ _ hl),zl⟩
 .rintro i y zs H2 hy ⟨s2,zl,pz⟩;obtain⟨o,ho,ro⟩:=cy py hy;refine⟨_,hv y,_,rfl,v,r,y,o,many,rfl,ra.same s2,ok,hn,aK.mono s2 ro,mem o (Oo ho),m1,m4,λH3 s3=>⟨_,rfl,?_⟩⟩;rw[wc ho];cases hb:Bk.bN o r with
  | true=>
   refine aZ ⟨_,rfl,s2.trans s3,by rw[Os];show zs.length+1<=i+1;lia,?_⟩;rw[M6 rfl];exact de (aX (λ_ _ z=>aK.mono s3 z) pz) (.cons (aK.mono (s2.trans s3) ro) .nil)
  | false=>
   refine aA ⟨s2.trans s3,by lia,?_⟩;rw[M0 (by decide),QD];exact aX (λ_ _ z=>aK.mono s3 z) pz
 .rintro zs H2 p ⟨s2,_,pz⟩ hp;rw[len,Rf] at pz;exact z p _ (s2.trans (ak hp _)) (OL.new hp pz)
def sU (K:MZ)(Pt Pw:A'):Sp:=λvs H Q _=>∃(a:A') (ns:List Int),vs=[.ref a]/\Nj K H a (ns.map V.int)/\Tb H Pt Pw/\∀H',Q (.bl true) H'
abbrev NLa:List MV:=["_law_script","_law_many","_law_rule_here","_law_some","_law_book_here","_law_kept","_law_due"]
theorem i6:N3 NLa ["_law_script"] (am nL):=⟨rfl,rfl,rfl,by decide +kernel,rfl,by decide +kernel,by decide +kernel⟩
theorem Gd (F:NE K "law" "law" nL f fd)(T:Oy K mg CO)(WM:Df P w K mg base Nb 2 "_law_mix" ["_law_script","_law_k"] (ph K))(WR:Df P w K mg base Nb 7 "_law_rule" ["_law_script","_law_k","_law_many","_law_deep"] (mF K 4))(WU:Df P w K mg base Nb 19 "ruled" ["many","rule"] (xB K Pt Pw))(WA:Df P w K mg base Nb 1 "_law_all" ["_law_many"] (yM K))(WK:Df P w K mg base Nb 5 "_law_keeps" ["_law_rule_here","_law_order"] (jL K 4))(WS:Df P w K mg base Nb 3 "_law_set" ["_law_script","_law_k","_law_many"] (DB K))(WLB:Df P w K mg base Nb 7 "_law_book" ["_law_many","_law_orders"] (xz K))(WB:Df P w K mg base (P6 P w) 12 "book_of" ["many","orders"] (uZ K))(WC:Df P w K mg base Nb 19 "cut" ["book","rule"] (DD K Pt Pw)):Nq P w K mg base Nb 20 f fd ["_law_script"] (sU K Pt Pw):=by
 refine F.ok i6 (λvs H Q E h=>?_) (λNo A outer s H vs Q E hr h=>?_)
 .obtain⟨a,ns,rfl,_⟩:=h;rfl
 obtain⟨a,ns,rfl,hs0,tb,z⟩:=h;have hs:ST K H a:=⟨ns,hs0⟩
 have hu0:(A.deeper (S8 "law" (am nL) s.heap.objs.size f No)).units+64<ND:=hr.units;have hu4:(A.deeper (S8 "law" (am nL) s.heap.objs.size f No)).units+pe.OT<ND:=by show _+4<ND;lia
 refine⟨_,ad (aV (i:=1) i6.nd rfl (by first|exact NB rfl|exact N' rfl) (aO bR ag (aO cD (aE WM (hr.mono (by decide)) rfl (az (E:=λ_ _ _ _=>False)) (ac (pv 0) (ac ag ae))) ag)))
  (ad (aV (i:=2) i6.nd rfl (by first|exact NB rfl|exact N' rfl) (aE WR (hr.mono (by decide)) rfl (az (E:=λ_ _ _ _=>False)) (ac (pv 0) (ac ag (ac (pv 1) (ac (aO bR ag (aO cD (aE WM (hr.mono (by decide)) rfl (az (E:=λ_ _ _ _=>False)) (ac (pv 0) (ac ag ae))) ag)) ae))))))
  (ad (aD (ar (zD pe hu4) (aE WU hr rfl (az (E:=λ_ _ _ _=>False)) (ac (pv 1) (ac (pv 2) ae)))
    (aE WLB (hr.mono (by decide)) rfl (az (E:=λ_ _ _ _=>False)) (ac (pv 1) (ac (eA rfl (show Qf (am nL) NLa _ _ from by constructor <;> decide +kernel) (cX (aE WA (hr.mono (by decide)) rfl (az (E:=λ_ _ _ _=>False)) (ac (pv 1) ae)))
     (λ_ _ _ _ _ _=>ez (cp (aE WK (hr.mono (by decide)) rfl (az (E:=λ_ _ _ _=>False)) (ac (pv 3) (ac (pv 0) ae))))) (λcl C NY OM fp aa=>pv 0) i6.nd) ae))) (aw _)) (af ao) au)
  (ad (aV (i:=3) i6.nd rfl (by first|exact NB rfl|exact N' rfl) (aE WS (hr.mono (by decide)) rfl (az (E:=λ_ _ _ _=>False)) (ac (pv 0) (ac ag (ac (pv 1) ae)))))
  (ad (aV (i:=4) i6.nd rfl (by first|exact NB rfl|exact N' rfl) (aE WB (hr.mono (by decide)) rfl x9 (ac (pv 1) (ac (pv 3) ae))))
  (ad (aV (i:=5) i6.nd rfl (by first|exact NB rfl|exact N' rfl) (bI (ac (ay (show Np _ (aU K) from ax) (pv 4) ag (λ_ _=>rfl)) (ac (bC tG rfl T.t.list ju (ac (ay (show Np _ (aU K) from ax) (pv 4) ag (λ_ _=>rfl)) ae)) (ac (ay (show Np _ (aU K) from ax) (pv 4) ag (λ_ _=>rfl)) ae)))))
  (ad (hZ (i0:=6) i6.nd rfl (by first|exact NB rfl|exact N' rfl) rfl (show Qf (am nL) NLa _ _ from by constructor <;> decide +kernel) (cX (pv 3))
    (λ_ _ _ _ _ _=>ez (cp (aE WK (hr.mono (by decide)) rfl (az (E:=λ_ _ _ _=>False)) (ac (pv 3) (ac (pv 0) ae))))) (λcl C NY OM fp aa=>pv 0) rfl)
  (af (aH (jj (cg (tX pe hu4) (aE WC hr rfl (az (E:=λ_ _ _ _=>False)) (ac (pv 4) (ac (pv 2) ae))) (aE WLB (hr.mono (by decide)) rfl (az (E:=λ_ _ _ _=>False)) (ac (pv 1) (ac (pv 6) ae))) (aw _))
   (kF (cg (tX pe hu4) (pv 4) (pv 5) (aw _)))))))))))),?_⟩
 refine⟨_,rfl,a,0,rfl,hs,λm0 h0 h1=>⟨_,_,rfl,rfl,by show(0:Int)<4;decide,_,_,rfl,rfl,?_⟩⟩;obtain⟨many,hm⟩:∃many:Nat,1+m0 % 4=(many:Int):=⟨(1+m0 % 4).toNat,by lia⟩
 have m1:1<=many:=by lia
 have m4:many<=4:=by lia
 dsimp only;rw[hm];refine⟨_,rfl,_,rfl,_,rfl,a,1,rfl,hs,λn0 g0 g1=>⟨_,_,rfl,rfl,by show(0:Int)<4;decide,_,_,rfl,rfl,?_⟩⟩;obtain⟨d,hd⟩:∃d:Nat,1+n0 % 4=(d:Int):=⟨(1+n0 % 4).toNat,by lia⟩
 dsimp only;rw[hd];refine⟨a,60,many,d,rfl,hs,m1,m4,by lia,by lia,λv r H1 s1 ra ok hh=>?_⟩;have h4:Bk.Oj r<=4:=by lia
 have RZ:=tb.same s1;refine⟨_,rfl,_,rfl,v,r,many,rfl,ra,ok,h4,m1,m4,RZ,λt2 Yw H2 s2 TN VA=>?_⟩;have ra2:=sS RZ s2 ra;refine⟨_,rfl,_,rfl,many,rfl,m1,by lia,λl3 H3 s3 hl3 ol3=>?_⟩;obtain⟨ys3,hy3,py3⟩:=ol3;refine⟨l3,rfl,⟨_,Nj.of hy3⟩,pq (os:=Bk.dU many) (jr:=3) (λ_=>rfl) hy3 py3 (ra2.same s3) ok h4 (λo ho=>ho) m1 m4 (by have:=Bk.nF many (Bk.in4 m1 m4);lia) λp4 H4 s4 ol4=>?_⟩;refine⟨many,p4,Bk.bq many r,rfl,ol4,Bk.bL m1 m4 _,λt5 lr5 H5 s5 bn5=>?_⟩;have P9:=s3.trans (s4.trans s5);refine⟨_,_,gx (VA.a.same P9),gx bn5.a,_,rfl,?_⟩;rw[M6 rfl,Nz rfl];refine aA ?_;have tb5:=TN.same P9;have ra5:=ra2.same P9;have hs5:=(Kh RZ s2 (hs.same s1)).same P9;refine⟨_,rfl,_,rfl,a,10,many,rfl,hs5,m1,m4,λl6 os H6 s6 ol6 sub=>?_⟩;have S:Bk.Op many os:=Bk.Op.of m1 m4 sub;have tb6:=tb5.same s6;have ra6:=ra5.same s6;have lS:=S.len;obtain⟨ys6,hy6,py6⟩:=id ol6;refine⟨_,rfl,_,rfl,many,l6,ys6,os,rfl,Nj.of hy6,py6,λo ho=>CV m1 (by lia) (S.mem o ho),m1,by lia,by lia,λt7 lr7 H7 s7 bn7=>?_⟩;have B7:=bn7.a;obtain⟨b,l,xs,e,q,ql,pr⟩:=id B7.ex;cases e;refine⟨_,rfl,t7,_,0,_,rfl,rfl,q,bU,_,rfl,t7,_,1,_,rfl,rfl,q,fW,l,xs,rfl,.inl ql,λl8 hl8=>?_⟩;have s8:=ak hl8 (.lst xs);refine⟨_,rfl,t7,_,2,_,rfl,rfl,s8.NM q,lc,by show 3<=Nh;decide,λu9 hu9=>?_⟩;have s9:=s8.trans (ak hu9 (.tup [.int (many:Int),.ref l8,.int ((bx many os).2:Nat)]));have K9:QV K (upd (upd H7 l8 (.lst xs)) u9 (.tup [.int (many:Int),.ref l8,.int ((bx many os).2:Nat)])) (.ref u9) many (bx many os).1 (bx many os).2:=⟨⟨u9,l8,xs,rfl,Ni.up,Nj.of (ak hu9 _ _ _ al),aX (λ_ _ z=>z.same s9) pr⟩⟩
 have B9:=B7.same s9;have WQ:=s7.trans s9;generalize (upd (upd H7 l8 (.lst xs)) u9 (.tup [.int (many:Int),.ref l8,.int ((bx many os).2:Nat)]))=H9 at K9 B9 WQ ⊢;obtain⟨ys9,hy9,py9⟩:=ol6.same WQ;refine⟨_,rfl,l6,rfl,⟨_,Nj.of hy9⟩,pq (os:=os) (jr:=3) (λ_=>rfl) hy9 py9 (ra6.same WQ) ok h4 S.mem m1 m4 (by lia) λp10 H10 Ql af5=>?_⟩;refine⟨_,rfl,_,rfl,.ref t7,v,r,many,os,rfl,B9.same Ql,S,(ra6.same WQ).same Ql,ok,h4,m1,m4,(tb6.same WQ).same Ql,λt11 agt H11 SS agu af6=>?_⟩;have abM:=(tb6.same WQ).same Ql;refine⟨_,rfl,_,rfl,many,p10,_,rfl,olP abM SS af5,lA S _,λt12 agv H12 QN af7=>?_⟩;refine⟨_,_,gx (af6.a.same QN),gx af7.a,_,rfl,?_⟩;rw[M0 OZ,Nz rfl];refine aZ ⟨_,rfl,_,rfl,_,_,gx ((mE abM SS (B9.same Ql)).same QN),gx ((mE abM SS (K9.same Ql)).same QN),?_⟩;rw[M0 OZ,Nz rfl];exact z _
end
theorem A9 (h:UD x=some cl):(x="or"/\cl=[(1,0),(0,1),(1,1)])\/(x="and"/\cl=[(1,1)])\/(x="less"/\cl=[(1,0)])\/(x="odd"/\cl=[(1,0),(0,1)]):=by
 unfold UD at h
 split at h
 .cases h;exact .inl ⟨by assumption,rfl⟩
 .split at h
  .cases h;exact .inr (.inl ⟨by assumption,rfl⟩)
  .split at h
   .cases h;exact .inr (.inr (.inl ⟨by assumption,rfl⟩))
   .split at h
    .cases h;exact .inr (.inr (.inr ⟨by assumption,rfl⟩))
    .cases h
section
abbrev gc (l:List D')(m:Nat):G':=⟨.type "tuple",none,.seq ⟨l⟩ m,#[]⟩
theorem nM (hk:K.lookup p=some (gc [.int a u,.int b v] m)):aK.rep K H (.ref p) [a,b]:=
 cr (o:=[a,b]) (.inr ⟨_,_,_,hk,rfl,rfl,by show 2<=Nh;decide,.cons ⟨u,rfl⟩ (.cons ⟨v,rfl⟩ .nil),rfl⟩)
theorem vK:∀ps:List A',aL (ps.map V.ref) (ps.map NQ)
 | []=>.nil
 | _::ps=>.cons rfl (vK ps)
theorem yQ (hk:K.lookup c=some (gc (ps.map NQ) m))(NH:ps.length<=3)(hp:Nd (λp ks=>aK.rep K H (.ref p) ks) ps NZ):bS.rep K H (.ref c) NZ:=by
 refine⟨c,ps.map V.ref,rfl,.inr ⟨_,_,_,hk,rfl,rfl,?_,vK ps,rfl⟩,?_⟩
 .show(ps.map NQ).length<=Nh;rw[NT,NU];lia
 .clear hk NH
  induction hp with
  | nil=>exact .nil
  | cons h _ ih=>exact .cons h ih
theorem Ge (X:K.In h)(G:h.Ns N5 mg)(na:O1 K N5 "CLOSES"=some (some (.ref aC)))(hs:(aC==Pr)=false)(lk:K.lookup aC=some ⟨.type "dict",none,.dict #[⟨QR w.params "or",.str "or" t1,.ref c1⟩,⟨QR w.params "and",.str "and" t2,.ref c2⟩,⟨QR w.params "less",.str "less" t3,.ref c3⟩,⟨QR w.params "odd",.str "odd" t4,.ref c4⟩] n,#[]⟩)(k1:K.lookup c1=some (gc [.ref p1,.ref p2,.ref p3] n1))(k2:K.lookup c2=some (gc [.ref p4] n2))(k3:K.lookup c3=some (gc [.ref p5] n3))(k4:K.lookup c4=some (gc [.ref p6,.ref p7] n4))(q1:K.lookup p1=some (gc [.int 1 u1,.int 0 v1] m1))(q2:K.lookup p2=some (gc [.int 0 u2,.int 1 v2] m2))(q3:K.lookup p3=some (gc [.int 1 u3,.int 1 v3] m3))(q4:K.lookup p4=some (gc [.int 1 u4,.int 1 v4] m4))(q5:K.lookup p5=some (gc [.int 1 u5,.int 0 v5] m5))(q6:K.lookup p6=some (gc [.int 1 u6,.int 0 v6] m6))(q7:K.lookup p7=some (gc [.int 0 u7,.int 1 v7] m7)):
  TxC P w K mg aC [(.inr "or",.ref c1),(.inr "and",.ref c2),(.inr "less",.ref c3),(.inr "odd",.ref c4)] where
 at_:=Pi X G na
 d:=⟨hs,_,_,_,lk,⟨rfl,rfl,rfl⟩,rfl,λe he=>by
   rcases(show e=_\/e=_\/e=_\/e=_ by simpa using he) with rfl|rfl|rfl|rfl
   .exact⟨.inr "or",bV _ _ _ _,rfl⟩
   .exact⟨.inr "and",bV _ _ _ _,rfl⟩
   .exact⟨.inr "less",bV _ _ _ _,rfl⟩
   .exact⟨.inr "odd",bV _ _ _ _,rfl⟩,
  .cons (bV _ _ _ _) rfl (.cons (bV _ _ _ _) rfl (.cons (bV _ _ _ _) rfl (.cons (bV _ _ _ _) rfl .nil))),by show([.inr "or",.inr "and",.inr "less",.inr "odd"]:List Key).Nodup;decide⟩
 val:=λx cl h=>by
  rcases A9 h with⟨rfl,rfl⟩|⟨rfl,rfl⟩|⟨rfl,rfl⟩|⟨rfl,rfl⟩
  .exact⟨c1,rfl,λH=>yQ (ps:=[p1,p2,p3]) k1 (aal rfl) (.cons (nM q1) (.cons (nM q2) (.cons (nM q3) .nil)))⟩
  .exact⟨c2,rfl,λH=>yQ (ps:=[p4]) k2 (aal rfl) (.cons (nM q4) .nil)⟩
  .exact⟨c3,rfl,λH=>yQ (ps:=[p5]) k3 (aal rfl) (.cons (nM q5) .nil)⟩
  .exact⟨c4,rfl,λH=>yQ (ps:=[p6,p7]) k4 (aal rfl) (.cons (nM q6) (.cons (nM q7) .nil))⟩
 Nr:=λx h=>by
  unfold UD at h;unfold valueAt;have n1:x≠"or":=λe=>by rw[M6 e] at h;cases h
  rw[M0 n1] at h;have n2:x≠"and":=λe=>by rw[M6 e] at h;cases h
  rw[M0 n2] at h;have n3:x≠"less":=λe=>by rw[M6 e] at h;cases h
  rw[M0 n3] at h;have n4:x≠"odd":=λe=>by rw[M6 e] at h;cases h
  have f:∀y:MV,x≠y->decide ((SD y:Key)=.inr x)=false:=λy hy=>Ny λe=>hy (SD.inj e).symm;simp only[VP,f _ n1,f _ n2,f _ n3,f _ n4,List.find?_nil,Option.map_none]
variable {P:Ng}{w:M7}{K:MZ} in
theorem lC {a:A'}{n:Nat}(es:List (MV×Tok×D'))(hs:(a==Pr)=false)(lk:K.lookup a=some ⟨.type "dict",none,.dict ⟨es.map λe=>⟨QR w.params e.1,.str e.1 e.2.1,e.2.2⟩⟩ n,#[]⟩)(nd:(es.map λe=>(SD e.1:Key)).Nodup):gU P w K a (es.map λe=>(.inr e.1,e.2.2)):=by
 refine⟨hs,_,_,_,lk,⟨rfl,rfl,rfl⟩,rfl,λe he=>?_,?_,by rw[VZ];exact nd⟩
 .have he:e∈es.map λe:MV×Tok×D'=>(⟨QR w.params e.1,.str e.1 e.2.1,e.2.2⟩:O4):=by simpa using he
  obtain⟨x,_,rfl⟩:=NR.mp he;exact⟨.inr x.1,bV _ _ _ _,rfl⟩
 .clear lk nd
  induction es with
  | nil=>exact .nil
  | cons x es ih=>exact .cons (bV _ _ _ _) rfl ih
theorem Gf (X:K.In h)(G:h.Ns N5 mg)(T:Vy K mg CO)(zs:O1 K N5 "str"=some none)(e6:O1 K N5 "MOST_WITHIN"=some (some (.int 6 t6)))(eN:O1 K N5 "NUMBERS_BEHIND"=some (some (.ref aN)))(eR:O1 K N5 "RULES_BEHIND"=some (some (.ref aR)))(eJ:O1 K N5 "JOINS"=some (some (.ref aJ)))(eF:O1 K N5 "FREE"=some (some (.ref aF)))(sN:(aN==Pr)=false)(sR:(aR==Pr)=false)(sJ:(aJ==Pr)=false)(lN:K.lookup aN=some ⟨.type "dict",none,.dict #[⟨QR w.params "at",.str "at" x1,.int 2 y1⟩,⟨QR w.params "ahead",.str "ahead" x2,.int 2 y2⟩,⟨QR w.params "next",.str "next" x3,.int 2 y3⟩,⟨QR w.params "even",.str "even" x4,.int 0 y4⟩] n1,#[]⟩)(lR:K.lookup aR=some ⟨.type "dict",none,.dict #[⟨QR w.params "not",.str "not" p1,.int 1 q1⟩,⟨QR w.params "both",.str "both" p2,.int 2 q2⟩,⟨QR w.params "either",.str "either" p3,.int 2 q3⟩] n2,#[]⟩)(lJ:K.lookup aJ=some ⟨.type "dict",none,.dict #[⟨QR w.params "both",.str "both" j1,.str "and" k1⟩,⟨QR w.params "either",.str "either" j2,.str "or" k2⟩] n3,#[]⟩)(lF:K.lookup aF=some (gc [.str "free" f1] m1)):
  UE P w K mg CO aN aR aJ aF [(.inr "at",.int 2 y1),(.inr "ahead",.int 2 y2),(.inr "next",.int 2 y3),(.inr "even",.int 0 y4)] [(.inr "not",.int 1 q1),(.inr "both",.int 2 q2),(.inr "either",.int 2 q3)] [(.inr "both",.str "and" k1),(.inr "either",.str "or" k2)] where
 k:=T
 str:=Rh X G zs
 most:=⟨t6,Pi X G e6⟩
 nb:=Pi X G eN
 dN:=lC [("at",x1,.int 2 y1),("ahead",x2,.int 2 y2),("next",x3,.int 2 y3),("even",x4,.int 0 y4)] sN lN (by show([.inr "at",.inr "ahead",.inr "next",.inr "even"]:List Key).Nodup;decide)
 vN:=λb nf=>by
  cases b with
  | free=>exact Nc rfl nf
  | at_ _ _=>exact⟨y1,rfl⟩
  | ahead _ _=>exact⟨y2,rfl⟩
  | next _ _=>exact⟨y3,rfl⟩
  | QI=>exact⟨y4,rfl⟩
 nN:=⟨rfl,rfl,rfl⟩
 rb:=Pi X G eR
 dR:=lC [("not",p1,.int 1 q1),("both",p2,.int 2 q2),("either",p3,.int 2 q3)] sR lR (by show([.inr "not",.inr "both",.inr "either"]:List Key).Nodup;decide)
 vR:=⟨⟨q1,rfl⟩,⟨q2,rfl⟩,⟨q3,rfl⟩⟩
 jo:=Pi X G eJ
 dJ:=lC [("both",j1,.str "and" k1),("either",j2,.str "or" k2)] sJ lJ (by show([.inr "both",.inr "either"]:List Key).Nodup;decide)
 vJ:=⟨⟨k1,rfl⟩,⟨k2,rfl⟩⟩
 nJ:=λb=>by cases b <;> rfl
 fr:=Pi X G eF
 sF:=λH=>.inr ⟨_,_,_,lF,rfl,rfl,by show 1<=Nh;decide,.cons ⟨f1,rfl⟩ .nil,rfl⟩
end
end Ord
set_option maxHeartbeats 0
namespace Vw
open PySem PySem.W L2
noncomputable section
abbrev pw:Ng:=PySem.Challenge.pw_ordernest_k30_whole_rules
def at_ (i:Nat):M':=pw.main.body.getD i (.Pass ⟨0,0,0,0⟩)
def s0:M':=at_ 0
def s1:M':=at_ 1
def s2:M':=at_ 2
def s3:M':=at_ 3
def s4:M':=at_ 4
def s5:M':=at_ 5
def s6:M':=at_ 6
def s7:M':=at_ 7
def s8:M':=at_ 8
def s9:M':=at_ 9
def Ql:M':=at_ 10
def SS:M':=at_ 11
def QN:M':=at_ 12
def ψ:M':=at_ 13
def s14:M':=at_ 14
def WV:M':=at_ 15
def s16:M':=at_ 16
def Wy:M':=at_ 17
def s18:M':=at_ 18
def s19:M':=at_ 19
def s20:M':=at_ 20
def s21:M':=at_ 21
def s22:M':=at_ 22
def VB:M':=at_ 23
def s24:M':=at_ 24
def P9:M':=at_ 25
def RY:M':=at_ 26
def s27:M':=at_ 27
def s28:M':=at_ 28
def s29:M':=at_ 29
def s30:M':=at_ 30
def s31:M':=at_ 31
def s32:M':=at_ 32
def s33:M':=at_ 33
def SV:M':=at_ 34
def s35:M':=at_ 35
def s36:M':=at_ 36
def s37:M':=at_ 37
def s38:M':=at_ 38
def s39:M':=at_ 39
def s40:M':=at_ 40
def s41:M':=at_ 41
def s42:M':=at_ 42
def s43:M':=at_ 43
def s44:M':=at_ 44
def Uz:M':=at_ 45
def s46:M':=at_ 46
def s47:M':=at_ 47
def s48:M':=at_ 48
def s49:M':=at_ 49
def s50:M':=at_ 50
def s51:M':=at_ 51
def s52:M':=at_ 52
def s53:M':=at_ 53
def s54:M':=at_ 54
def s55:M':=at_ 55
def s56:M':=at_ 56
def s57:M':=at_ 57
def s58:M':=at_ 58
def s59:M':=at_ 59
def s60:M':=at_ 60
def s61:M':=at_ 61
def s62:M':=at_ 62
def s63:M':=at_ 63
def s64:M':=at_ 64
def s65:M':=at_ 65
def s66:M':=at_ 66
def dk (P:UX)(x:MV)(t:Nat)(v:D'):O4:=⟨QR P x,.str x t,v⟩
def kf (x q:MV)(s:M')(kV doc pm No ct:D'):G':=⟨.type "function",none,.func (fnOf x q (dS s) (cH s) (am s) .none kV doc pm none No ct),#[]⟩
def kg (c:D')(x q:MV)(s:M')(g:Nat)(dV kV doc pm No ct:D'):G':=⟨c,none,.func { name:=x,qualname:=q,params:=dS s,body:=.stmts (cH s),scope:=am s,globals:=g,closure:=[],defaults:=dV,kwdefaults:=kV,doc:=doc,pyModule:=pm,code:=No,closureTuple:=ct },#[]⟩
def kj (c:D')(d:Data):G':=⟨c,none,d,#[]⟩
def kt (l:List D'):G':=⟨.type "tuple",none,.seq ⟨l⟩ 0,#[]⟩
def sV (s:M')(i:Nat):M':=match s with
 | .ClassDef _ _ _ b _ _ _ _ _ _ _=>b.getD i (.Pass ⟨0,0,0,0⟩)
 | s=>s
def r (a:Nat):D':=.ref a
def i (a:Int)(t:Nat):D':=.int a t
def z (x:MV)(t:Nat):D':=.str x t
def kc (x q:MV)(a b c l n f r1 r2 r3 r4 r5 t m u:Nat):G':=kj (.type "code") (.fields #[z x a,z q b,z "/claim/cut.py" c,i l 0,i n 0,i 0 0,i 0 0,i f 0,r r1,.bool true,i 181 0,r r2,.none,r r3,r r4,r r5,i t 0,i m 0,z "/claim/cut.py" u])
variable (P:UX)
def lt (n a:Nat):List D':=[i n 0,i 0 0,r a]
def kl (l:List D'):G':=kj .none (.fields ⟨l⟩)
def PZ:=z "ordernest.books" 286
def QO:=z "ordernest.ruling" 533
def Su:=z "ordernest.errors" 187
def SW:=z "law_ordernest_k30_whole_rules" 688
def zz4:=z "NestError" 197
def YF:=z "ordernest.joining" 463
def zz6:=z "NestError" 189
def zz7:=z "ordernest.orders" 255
def o11:G':=kt []
def o12:G':=kj .none (.fields #[])
def WX (a:MV)(b:Nat)(c:Nat)(d:Nat):G':=kj (.type "code") (.fields #[z a b,z a (b+1),z "/claim/cut.py" (b+2),i c 0,i 0 0,i 0 0,i 0 0,i 0 0,r d,.bool false,i 181 0,r (d+1),.none,.none,.none,.none,i (b+3) 0,i c 0,z "/claim/cut.py" (b+4)])
def o13:G':=WX "<module>" 182 1 11
def o14:G':=⟨(.type "frame"),none,.plain,#[(some (r 13)),(some (r 3)),(some (r 3)),none,(some (z "__main__" 164)),none,(some (r 0))]⟩
def eo3:List O4:=[dk P "__doc__" 166 .none,dk P "__package__" 167 .none,dk P "__loader__" 168 (.builtin "__main__.__loader__#opaque"),dk P "__spec__" 169 .none,dk P "__annotations__" 170 (r 6),dk P "__builtins__" 171 (r 4),dk P "__file__" 173 (z "/claim/cut.py" 172),dk P "__cached__" 174 .none,dk P "NestError" 206 (r 24)]
def o3:G':=kj (.type "dict") (.dict ⟨dk P "__name__" 165 Su::eo3 P⟩ 10)
def Ba:=lt 2 20
def JA:G':=kl Ba
def o15:G':=kt [.type "ValueError"]
def YG:G':=kj (.type "builtin_function_or_method") (.fields #[.builtin "type.__prepare__",.type "type"])
def o17:G':=kj (.type "dict") (.dict #[dk P "__module__" 196 Su,dk P "__qualname__" 198 zz4,dk P "__firstlineno__" 200 (i 2 199),dk P "__static_attributes__" 201 (r 22)] 4)
def o20:G':=WX "NestError" 191 2 18
def YH (a:Nat)(b:D'):G':=⟨(.type "frame"),none,.plain,#[(some (r a)),(some (r 3)),(some (r (a-3))),none,(some b),none,(some (r 0))]⟩
def o21:G':=YH 20 Su
def o23:G':=kj (.type "dict") (.dict #[dk P "__module__" 196 Su,dk P "__firstlineno__" 200 (i 2 199),dk P "__static_attributes__" 201 (r 22),dk P "__weakref__" 203 (r 25),dk P "__doc__" 204 .none] 3)
def kk2 (a:List D'):G':=⟨(.type "type"),none,.cls { name:="NestError",bases:=[.type "ValueError"],mro:=[r 24,.type "ValueError",.type "Exception",.type "BaseException",.type "object"],ns:=23,qualname:="NestError",subclasses:=a },#[(some (r 15)),none,(some zz6),(some zz4),(some (.builtin "ValueError.__new__")),(some (.bool true))]⟩
def o24:G':=kk2 []
def kk3 (a:Nat)(b:Nat):G':=kj (.type "getset_descriptor") (.fields #[z "__weakref__" a,r b,.builtin "ExceptionGroup.__weakref__",.none])
def o25:G':=kk3 202 24
def YI (a:Nat):G':=kj (.type "super") (.fields #[r a,r a,r a])
def o26:G':=YI 24
def YJ (a:Nat):G':=kj (.type "builtin_function_or_method") (.fields #[.builtin "object.__init_subclass__",r a])
def o27:G':=YJ 24
def DE:List O4:=eo3 P++[dk P "BadOrder" 222 (r 37)]
def Ki:G':=kj (.type "dict") (.dict ⟨dk P "__name__" 165 Su::DE P⟩ 11)
def Bb:=Ba++lt 4 33
def JB:G':=kl Bb
def JC:G':=kk2 [r 37]
def o28:G':=kt [r 24]
def kk6 (a:Nat)(b:MV)(c:Nat)(d:Nat):G':=kj (.type "dict") (.dict #[dk P "__module__" a Su,dk P "__qualname__" (a+2) (z b (a+1)),dk P "__firstlineno__" (a+4) (i c (a+3)),dk P "__static_attributes__" (a+5) (r d)] 4)
def o30:G':=kk6 P 214 "BadOrder" 4 35
def o31:G':=kt []
def OG:G':=kj .none (.fields #[])
def o33:G':=WX "BadOrder" 209 4 31
def o34:G':=YH 33 Su
def NO:G':=kt []
def kk7 (a:Nat)(b:Nat)(c:Nat):G':=kj (.type "dict") (.dict #[dk P "__module__" a Su,dk P "__firstlineno__" (a+4) (i b (a+3)),dk P "__static_attributes__" (a+5) (r c),dk P "__doc__" (a+6) .none] 2)
def o36:G':=kk7 P 214 4 35
def kk8 (a:MV)(b:Nat)(c:Nat):G':=⟨(.type "type"),none,.cls { name:=a,bases:=[r 24],mro:=[r b,r 24,.type "ValueError",.type "Exception",.type "BaseException",.type "object"],ns:=(b-1),qualname:=a,subclasses:=[] },#[(some (r (b-9))),none,(some (z a c)),(some (z a (c+8))),(some (.builtin "ValueError.__new__")),(some (.bool true))]⟩
def o37:G':=kk8 "BadOrder" 37 207
def o38:G':=YI 37
def o39:G':=YJ 37
def DF:List O4:=DE P++[dk P "BadBook" 238 (r 49)]
def Kj:G':=kj (.type "dict") (.dict ⟨dk P "__name__" 165 Su::DF P⟩ 12)
def Bc:=Bb++lt 6 45
def JD:G':=kl Bc
def JE:G':=kk2 [r 37,r 49]
def o42:G':=kk6 P 230 "BadBook" 6 47
def o45:G':=WX "BadBook" 225 6 43
def o46:G':=YH 45 Su
def o48:G':=kk7 P 230 6 47
def o49:G':=kk8 "BadBook" 49 223
def o50:G':=YI 49
def o51:G':=YJ 49
def DG:List O4:=DF P++[dk P "BadRule" 254 (r 61),dk P "MOST_THINGS" 258 (i 8 257),dk P "is_whole" 265 (r 70),dk P "is_count" 272 (r 77),dk P "look_count" 279 (r 84),dk P "look_order" 285 (r 89),dk P "NO_ROOM" 289 (i 0 288),dk P "END" 291 (i 1 290),dk P "LOWEST" 293 (i 2 292)]
def Kk:G':=kj (.type "dict") (.dict ⟨dk P "__name__" 165 PZ::DG P⟩ 21)
def Bd:=Bc++lt 8 57++lt 12 69++lt 14 76++lt 16 83++lt 19 88
def JF:G':=kl Bd
def i7:G':=kk2 [r 37,r 49,r 61]
def o54:G':=kk6 P 246 "BadRule" 8 59
def o57:G':=WX "BadRule" 241 8 55
def o58:G':=YH 57 Su
def o60:G':=kk7 P 246 8 59
def o61:G':=kk8 "BadRule" 61 239
def o62:G':=YI 61
def o63:G':=YJ 61
def o66:G':=kt [z "value" 262]
def Oc (a:MV)(b:M'):G':=kg .none a a b 0 .none .none .none .none .none .none
def o68:G':=Oc "is_whole" s7
def bO (a:MV)(b:MV)(c:Nat)(d:Nat)(e:Nat)(f:Nat)(g:Nat):G':=kc a b c (c+1) (c+2) d e 3 f (f+1) (f+2) (f+3) (f+4) g d (g+1)
def o69:G':=bO "is_whole" "is_whole" 259 12 1 64 263
def bB (a:MV)(b:M')(c:D')(d:Nat):G':=kf a a b .none .none c (r d) .none
def o70:G':=bB "is_whole" s7 zz7 69
def o73:G':=kt [z "many" 269]
def o75:G':=Oc "is_count" s8
def o76:G':=bO "is_count" "is_count" 266 14 1 71 270
def o77:G':=bB "is_count" s8 zz7 76
def o80:G':=kt [z "many" 276]
def o82:G':=Oc "look_count" s9
def o83:G':=bO "look_count" "look_count" 273 16 1 78 277
def o84:G':=bB "look_count" s9 zz7 83
def o87:G':=Oc "look_order" Ql
def gP (a:MV)(b:Nat)(c:Nat)(d:Nat)(e:Nat):G':=kj (.type "code") (.fields #[z a b,z a (b+1),z "/claim/cut.py" (b+2),i c 0,i d 0,i 0 0,i 0 0,i 3 0,r e,.bool true,i 181 0,r (e+1),.none,.none,.none,r (e+2),i (b+3) 0,i c 0,z "/claim/cut.py" (b+4)])
def o88:G':=gP "look_order" 280 19 2 85
def o89:G':=bB "look_order" Ql zz7 88
def DH:List O4:=DG P++[dk P "Shelf" 330 (r 113),dk P "look_book" 341 (r 124),dk P "look_parts" 348 (r 131),dk P "things_from" 358 (r 138),dk P "look_doors" 369 (r 145)]
def Kl:G':=kj (.type "dict") (.dict ⟨dk P "__name__" 165 PZ::DH P⟩ 26)
def Be:=Bd++lt 31 95++lt 42 123++lt 50 130++lt 59 137++lt 65 144
def JG:G':=kl Be
def o92:G':=kj (.type "dict") (.dict #[dk P "__module__" 301 PZ,dk P "__qualname__" 303 (z "Shelf" 302),dk P "__firstlineno__" 305 (i 31 304),dk P "__init__" 312 (r 103),dk P "keep" 320 (r 110),dk P "__static_attributes__" 323 (r 111)] 6)
def o94:G':=kj .none (.fields #[i 33 0,i 4 0,r 102,i 37 0,i 4 0,r 109])
def o95:G':=WX "Shelf" 296 31 93
def o96:G':=YH 95 PZ
def o99:G':=kt [z "self" 309]
def Km:G':=kg .none "__init__" "Shelf.__init__" (sV WV 0) 0 .none .none .none .none .none .none
def Gg:G':=bO "__init__" "Shelf.__init__" 306 33 1 97 310
def Gh:G':=kf "__init__" "Shelf.__init__" (sV WV 0) .none .none PZ (r 102) .none
def iI (a:MV)(b:Nat)(c:MV):G':=kt [z a b,z c (b+1)]
def Kn:G':=iI "self" 316 "room"
def Ko:G':=kg .none "keep" "Shelf.keep" (sV WV 1) 0 .none .none .none .none .none .none
def Gi:G':=bO "keep" "Shelf.keep" 313 37 2 104 318
def Gj:G':=kf "keep" "Shelf.keep" (sV WV 1) .none .none PZ (r 109) .none
def Kp:G':=iI "numbers" 321 "rooms"
def Gk:G':=kj (.type "dict") (.dict #[dk P "__module__" 301 PZ,dk P "__firstlineno__" 305 (i 31 304),dk P "__init__" 312 (r 103),dk P "keep" 320 (r 110),dk P "__static_attributes__" 323 (r 111),dk P "__dict__" 325 (r 114),dk P "__weakref__" 327 (r 115),dk P "__doc__" 328 .none] 4)
def Gm:G':=⟨(.type "type"),none,.cls { name:="Shelf",bases:=[.type "object"],mro:=[r 113,.type "object"],ns:=112,qualname:="Shelf",subclasses:=[] },#[none,none,(some (z "Shelf" 294)),(some (z "Shelf" 302)),(some (.builtin "object.__new__")),(some (.bool true))]⟩
def Kq:G':=kj (.type "getset_descriptor") (.fields #[z "__dict__" 324,r 113,.builtin "function.__dict__",.builtin "function.__dict__#set"])
def Kr:G':=kk3 326 113
def Ks:G':=YI 113
def Kt:G':=YJ 113
def vL (a:MV)(b:Nat)(c:MV)(d:MV)(e:MV)(f:MV):G':=kt [z a b,z c (b+1),z d (b+2),z e (b+3),z f (b+4)]
def Ku:G':=vL "book" 334 "many" "rooms" "first" "things"
def Kv:G':=Oc "look_book" s16
def Gn:G':=bO "look_book" "look_book" 331 42 1 118 339
def Go:G':=bB "look_book" s16 PZ 123
def Kw:G':=kt [z "book" 345]
def Kx:G':=Oc "look_parts" Wy
def Gp:G':=bO "look_parts" "look_parts" 342 50 1 125 346
def Gq:G':=bB "look_parts" Wy PZ 130
def lD (a:MV)(b:Nat)(c:MV)(d:MV)(e:MV):G':=kt [z a b,z c (b+1),z d (b+2),z e (b+3)]
def Ky:G':=lD "many" 352 "rooms" "things" "room"
def Kz:G':=Oc "things_from" s18
def Gr:G':=bO "things_from" "things_from" 349 59 2 132 356
def Gs:G':=bB "things_from" s18 PZ 137
def KB:G':=vL "many" 362 "room" "number" "last" "door"
def KC:G':=Oc "look_doors" s19
def Gu:G':=bO "look_doors" "look_doors" 359 65 3 139 367
def Gv:G':=bB "look_doors" s19 PZ 144
def DI:List O4:=DH P++[dk P "is_door" 376 (r 152),dk P "things_of_room" 382 (r 157),dk P "things_through" 392 (r 164),dk P "look_first" 401 (r 171),dk P "look_turn" 410 (r 178),dk P "walk_rooms" 420 (r 185),dk P "book_of" 431 (r 192),dk P "shelve" 437 (r 197),dk P "grown" 448 (r 204),dk P "grow" 462 (r 211)]
def KD:G':=kj (.type "dict") (.dict ⟨dk P "__name__" 165 YF::DI P⟩ 36)
def Bf:=Be++lt 77 151++lt 79 156++lt 84 163++lt 90 170++lt 97 177++lt 104 184++lt 110 191++lt 119 196++lt 127 203++lt 131 210
def JH:G':=kl Bf
def KF:G':=kt [z "door" 373]
def KG:G':=Oc "is_door" s20
def Gw:G':=bO "is_door" "is_door" 370 77 1 146 374
def Gx:G':=bB "is_door" s20 PZ 151
def KH:G':=Oc "things_of_room" s21
def Gy:G':=gP "things_of_room" 377 79 2 153
def Gz:G':=bB "things_of_room" s21 PZ 156
def KI:G':=lD "door" 386 "things" "thing" "later"
def KJ:G':=Oc "things_through" s22
def GA:G':=bO "things_through" "things_through" 383 84 2 158 390
def GB:G':=bB "things_through" s22 PZ 163
def KM:G':=kt [z "many" 396,z "things" 397,z "first" 398]
def KN:G':=Oc "look_first" VB
def GC:G':=bO "look_first" "look_first" 393 90 3 165 399
def GD:G':=bB "look_first" VB PZ 170
def KO:G':=kt [z "rooms" 405,z "first" 406,z "walked" 407]
def KP:G':=Oc "look_turn" s24
def GE:G':=bO "look_turn" "look_turn" 402 97 2 172 408
def GF:G':=bB "look_turn" s24 PZ 177
def KQ:G':=lD "rooms" 414 "number" "walked" "door"
def KR:G':=Oc "walk_rooms" P9
def GG:G':=bO "walk_rooms" "walk_rooms" 411 104 3 179 418
def GH:G':=bB "walk_rooms" P9 PZ 184
def KS:G':=vL "many" 424 "orders" "order" "shelf" "first"
def KU:G':=Oc "book_of" RY
def GI:G':=bO "book_of" "book_of" 421 110 2 186 429
def GJ:G':=bB "book_of" RY PZ 191
def KW:G':=Oc "shelve" s27
def GL:G':=gP "shelve" 432 119 3 193
def GM:G':=bB "shelve" s27 PZ 196
def KY:G':=vL "many" 441 "state" "doors_from" "shelf" "first"
def KZ:G':=Oc "grown" s28
def GN:G':=bO "grown" "grown" 438 127 3 198 446
def GO:G':=bB "grown" s28 PZ 203
def K0:G':=kt [z "shelf" 452,z "state" 453,z "doors_from" 454,z "known" 455,z "doors" 456,z "thing" 457,z "later" 458,z "number" 459]
def K1:G':=Oc "grow" s29
def GQ:G':=bO "grow" "grow" 449 131 4 205 460
def GS:G':=bB "grow" s29 PZ 210
def DJ:List O4:=DI P++[dk P "CLOSES" 487 (r 212),dk P "join_books" 500 (r 230),dk P "meet" 510 (r 237),dk P "doors_of_pair" 524 (r 244),dk P "doors_by_thing" 532 (r 251),dk P "MOST_WITHIN" 536 (i 6 535),dk P "NUMBERS_BEHIND" 549 (r 252),dk P "RULES_BEHIND" 559 (r 253)]
def K3:G':=kj (.type "dict") (.dict ⟨dk P "__name__" 165 QO::DJ P⟩ 44)
def Bg:=Bf++lt 142 229++lt 146 236++lt 153 243++lt 160 250
def JI:G':=kl Bg
def GT:G':=kj (.type "dict") (.dict #[dk P "or" 465 (r 216),dk P "and" 472 (r 218),dk P "less" 475 (r 220),dk P "odd" 478 (r 223)] 4)
def GU:G':=kt [i 1 466,i 0 467]
def GV:G':=kt [i 0 468,i 1 469]
def GW:G':=kt [i 1 470,i 1 471]
def GX:G':=kt [r 213,r 214,r 215]
def GY:G':=kt [i 1 473,i 1 474]
def GZ:G':=kt [r 217]
def G0:G':=kt [i 1 476,i 0 477]
def G3:G':=kt [r 219]
def G4:G':=kt [i 1 479,i 0 480]
def G5:G':=kt [i 0 481,i 1 482]
def G6:G':=kt [r 221,r 222]
def K4:G':=lD "word" 491 "one" "other" "first"
def K7:G':=kt [z "one" 495,z "other" 496,z "closes" 497]
def K8:G':=Oc "join_books" s32
def G7:G':=bO "join_books" "join_books" 488 142 3 224 498
def G8:G':=bB "join_books" s32 YF 229
def La:G':=lD "closes" 504 "one" "other" "settled"
def Lb:G':=Oc "meet" s33
def G9:G':=bO "meet" "meet" 501 146 3 231 508
def Ha:G':=bB "meet" s33 YF 236
def Lc:G':=kt [z "closes" 514,z "rooms" 515,z "others" 516,z "pair" 517,z "mine" 518,z "theirs" 519,z "found" 520,z "thing" 521]
def Ld:G':=Oc "doors_of_pair" SV
def Hb:G':=bO "doors_of_pair" "doors_of_pair" 511 153 4 238 522
def Hc:G':=bB "doors_of_pair" SV YF 243
def Le:G':=iI "rooms" 528 "number"
def Lf:G':=Oc "doors_by_thing" s35
def He:G':=bO "doors_by_thing" "doors_by_thing" 525 160 2 245 530
def Hf:G':=bB "doors_by_thing" s35 YF 250
def Hg:G':=kj (.type "dict") (.dict #[dk P "at" 537 (i 2 538),dk P "ahead" 539 (i 2 540),dk P "next" 541 (i 2 542),dk P "even" 543 (i 0 544)] 4)
def Hh:G':=kj (.type "dict") (.dict #[dk P "not" 550 (i 1 551),dk P "both" 552 (i 2 553),dk P "either" 554 (i 2 555)] 3)
def DK:List O4:=DJ P++[dk P "JOINS" 566 (r 254),dk P "FREE" 568 (r 255),dk P "BROKEN" 570 (i 2 569),dk P "ruled" 578 (r 262),dk P "cut" 586 (r 269),dk P "look_rule" 596 (r 276),dk P "look_parts_behind" 604 (r 283),dk P "look_numbers" 613 (r 290),dk P "book_by_rule" 621 (r 297),dk P "book_of_walk" 631 (r 304),dk P "doors_by_rule" 637 (r 309),dk P "things_left" 643 (r 314),dk P "has_gone" 651 (r 321),dk P "state_behind" 662 (r 328)]
def Lg:G':=kj (.type "dict") (.dict ⟨dk P "__name__" 165 QO::DK P⟩ 58)
def Bh:=Bg++lt 171 261++lt 175 268++lt 179 275++lt 193 282++lt 196 289++lt 202 296++lt 208 303++lt 210 308++lt 212 313++lt 214 320++lt 216 327
def JJ:G':=kl Bh
def Hi:G':=kj (.type "dict") (.dict #[dk P "both" 560 (z "and" 561),dk P "either" 562 (z "or" 563)] 2)
def Hj:G':=kt [z "free" 567]
def Lh:G':=iI "many" 574 "rule"
def Li:G':=Oc "ruled" s43
def Hk:G':=bO "ruled" "ruled" 571 171 2 256 576
def Hl:G':=bB "ruled" s43 QO 261
def Lj:G':=iI "book" 582 "rule"
def Lk:G':=Oc "cut" s44
def Hm:G':=bO "cut" "cut" 579 175 2 263 584
def Hn:G':=bB "cut" s44 QO 268
def Ll:G':=lD "many" 590 "rule" "depth" "part"
def Lm:G':=Oc "look_rule" Uz
def Ho:G':=bO "look_rule" "look_rule" 587 179 3 270 594
def Hq:G':=bB "look_rule" Uz QO 275
def Ln:G':=iI "rule" 600 "count"
def Lo:G':=Oc "look_parts_behind" s46
def Hr:G':=bO "look_parts_behind" "look_parts_behind" 597 193 2 277 602
def Hs:G':=bB "look_parts_behind" s46 QO 282
def Lp:G':=kt [z "many" 608,z "rule" 609,z "number" 610]
def Lq:G':=Oc "look_numbers" s47
def Ht:G':=bO "look_numbers" "look_numbers" 605 196 2 284 611
def Hu:G':=bB "look_numbers" s47 QO 289
def Lr:G':=iI "many" 617 "rule"
def Ls:G':=Oc "book_by_rule" s48
def Hv:G':=bO "book_by_rule" "book_by_rule" 614 202 2 291 619
def Hw:G':=bB "book_by_rule" s48 QO 296
def Lu:G':=iI "many" 625 "rule"
def Lv:G':=iI "many" 627 "rule"
def Lw:G':=Oc "book_of_walk" s49
def Hx:G':=bO "book_of_walk" "book_of_walk" 622 208 2 298 629
def Hy:G':=bB "book_of_walk" s49 QO 303
def Lx:G':=kt []
def Ly:G':=kj .none (.fields #[])
def Lz:G':=Oc "doors_by_rule" s50
def Hz:G':=gP "doors_by_rule" 632 210 3 305
def HA:G':=bB "doors_by_rule" s50 QO 308
def LA:G':=kt []
def LB:G':=kj .none (.fields #[])
def LC:G':=Oc "things_left" s51
def HB:G':=gP "things_left" 638 212 2 310
def HC:G':=bB "things_left" s51 QO 313
def LD:G':=kt []
def LE:G':=kj .none (.fields #[])
def LF:G':=iI "gone" 647 "thing"
def LG:G':=kt []
def LH:G':=Oc "has_gone" s52
def HD:G':=bO "has_gone" "has_gone" 644 214 2 315 649
def HE:G':=bB "has_gone" s52 QO 320
def LI:G':=kt []
def LJ:G':=kj .none (.fields #[])
def LK:G':=vL "many" 655 "rule" "state" "thing" "mark"
def LL:G':=kt []
def LM:G':=Oc "state_behind" s53
def HF:G':=bO "state_behind" "state_behind" 652 216 4 322 660
def HG:G':=bB "state_behind" s53 QO 327
def JK:List O4:=DK P++[dk P "mark_behind" 672 (r 335),dk P "mark_behind_next" 681 (r 342),dk P "crossed_by" 687 (r 347),dk P "_law_cell" 697 (r 354),dk P "_law_mix" 706 (r 361),dk P "_law_all" 712 (r 366),dk P "_law_set" 718 (r 371),dk P "_law_lay" 724 (r 376),dk P "_law_book" 734 (r 383),dk P "_law_rule" 740 (r 388),dk P "_law_keeps" 746 (r 393),dk P "law" 752 (r 398)]
def Dc:G':=kj (.type "dict") (.dict ⟨dk P "__name__" 165 SW::JK P⟩ 70)
def HH:=Bh++lt 223 334++lt 233 341++lt 237 346++lt 240 353++lt 244 360++lt 248 365++lt 256 370++lt 266 375++lt 277 382++lt 283 387++lt 295 392++lt 311 397
def DL:G':=kl HH
def LN:G':=kt []
def LO:G':=kj .none (.fields #[])
def LP:G':=lD "many" 666 "rule" "state" "thing"
def LQ:G':=kt []
def LR:G':=Oc "mark_behind" s54
def HI:G':=bO "mark_behind" "mark_behind" 663 223 4 329 670
def HJ:G':=bB "mark_behind" s54 QO 334
def LS:G':=kt []
def LT:G':=kj .none (.fields #[])
def LU:G':=kt [z "rule" 676,z "state" 677,z "thing" 678]
def LV:G':=kt []
def LW:G':=Oc "mark_behind_next" s55
def HK:G':=bO "mark_behind_next" "mark_behind_next" 673 233 3 336 679
def HL:G':=bB "mark_behind_next" s55 QO 341
def LX:G':=kt []
def LY:G':=kj .none (.fields #[])
def LZ:G':=Oc "crossed_by" s56
def HM:G':=gP "crossed_by" 682 237 3 343
def HN:G':=bB "crossed_by" s56 QO 346
def L0:G':=kt []
def L4:G':=kj .none (.fields #[])
def L7:G':=iI "_law_script" 693 "_law_k"
def L8:G':=kt []
def L9:G':=Oc "_law_cell" s58
def HP:G':=bO "_law_cell" "_law_cell" 690 240 2 348 695
def HQ:G':=bB "_law_cell" s58 SW 353
def Ma:G':=kt []
def Mb:G':=kj .none (.fields #[])
def Mc:G':=kt [z "_law_script" 701,z "_law_k" 702,z "_law_number" 703]
def Md:G':=kt []
def Me:G':=Oc "_law_mix" s59
def HR:G':=bO "_law_mix" "_law_mix" 698 244 2 355 704
def HS:G':=bB "_law_mix" s59 SW 360
def Mf:G':=kt []
def Mg:G':=kj .none (.fields #[])
def Mh:G':=Oc "_law_all" s60
def HU:G':=gP "_law_all" 707 248 1 362
def HV:G':=bB "_law_all" s60 SW 365
def Mi:G':=kt []
def Mj:G':=kj .none (.fields #[])
def Ml:G':=Oc "_law_set" s61
def HW:G':=gP "_law_set" 713 256 3 367
def HX:G':=bB "_law_set" s61 SW 370
def Mm:G':=kt []
def Mo:G':=kj .none (.fields #[])
def Mp:G':=Oc "_law_lay" s62
def HY:G':=gP "_law_lay" 719 266 4 372
def HZ:G':=bB "_law_lay" s62 SW 375
def Mq:G':=kt []
def Mr:G':=kj .none (.fields #[])
def Ms:G':=lD "_law_many" 728 "_law_orders" "_law_rooms" "_law_first"
def Mt:G':=kt []
def Mu:G':=Oc "_law_book" s63
def Ia:G':=bO "_law_book" "_law_book" 725 277 2 377 732
def Ib:G':=bB "_law_book" s63 SW 382
def Mv:G':=kt []
def Mw:G':=kj .none (.fields #[])
def My:G':=Oc "_law_rule" s64
def Ic:G':=gP "_law_rule" 735 283 4 384
def Id:G':=bB "_law_rule" s64 SW 387
def Mz:G':=kt []
def MA:G':=kj .none (.fields #[])
def MB:G':=Oc "_law_keeps" s65
def Ie:G':=gP "_law_keeps" 741 295 2 389
def Ig:G':=bB "_law_keeps" s65 SW 392
def MC:G':=kt []
def MD:G':=kj .none (.fields #[])
def ME:G':=Oc "law" s66
def Ih:G':=gP "law" 747 311 1 394
def Ii:G':=bB "law" s66 SW 397
def ev:List G'->List G'
 | x::_::r=>x::ev r
 | l=>l
def od:List G'->List G'
 | _::y::r=>y::od r
 | _=>[]
def tr:Nat->List G'->BT
 | n+1,x::r=>.node x (tr n (ev r)) (tr n (od r))
 | _,_=>.nil
def yR (x3 Qm Qn:G'):List G':=[boot_o_0 P,boot_o_1 P,boot_o_2 P,x3,boot_o_4 P,boot_o_5 P,boot_o_6 P,boot_o_7 P,boot_o_8 P,boot_o_9 P,boot_o_10 P,o11,Qm,o13,o14]
abbrev E2:=yR
def Ij (x3 Qm Qn:G'):List G':=yR P x3 Qm Qn++[o15,YG,o17 P,o11,o12,o20,o21,o11,o23 P,Qn,o25,o26,o27]
def Ik (x3 Qm Qn:G'):List G':=Ij P x3 Qm Qn++[o28,YG,o30 P,o31,OG,o33,o34,NO,o36 P,o37,o38,o39]
def Il (x3 Qm Qn:G'):List G':=Ik P x3 Qm Qn++[o28,YG,o42 P,NO,OG,o45,o46,NO,o48 P,o49,o50,o51]
def Im (x3 Qm Qn:G'):List G':=Il P x3 Qm Qn++[o28,YG,o54 P,NO,OG,o57,o58,NO,o60 P,o61,o62,o63,NO,OG,o66,NO,o68,o69,o70,NO,OG,o73,NO,o75,o76,o77,NO,OG,o80,NO,o82,o83,o84,NO,OG,o87,o88,o89]
def Io (x3 Qm Qn:G'):List G':=Im P x3 Qm Qn++[NO,YG,o92 P,NO,o94,o95,o96,NO,OG,o99,NO,Km,Gg,Gh,NO,OG,Kn,NO,Ko,Gi,Gj,Kp,Gk P,Gm,Kq,Kr,Ks,Kt,NO,OG,Ku,NO,Kv,Gn,Go,NO,OG,Kw,NO,Kx,Gp,Gq,NO,OG,Ky,NO,Kz,Gr,Gs,NO,OG,KB,NO,KC,Gu,Gv]
def Ip (x3 Qm Qn:G'):List G':=Io P x3 Qm Qn++[NO,OG,KF,NO,KG,Gw,Gx,NO,OG,KH,Gy,Gz,NO,OG,KI,NO,KJ,GA,GB,NO,OG,KM,NO,KN,GC,GD,NO,OG,KO,NO,KP,GE,GF,NO,OG,KQ,NO,KR,GG,GH,NO,OG,KS,NO,KU,GI,GJ,NO,OG,KW,GL,GM,NO,OG,KY,NO,KZ,GN,GO,NO,OG,K0,NO,K1,GQ,GS]
def Iq (x3 Qm Qn:G'):List G':=Ip P x3 Qm Qn++[GT P,GU,GV,GW,GX,GY,GZ,G0,G3,G4,G5,G6,NO,OG,K4,K7,K8,G7,G8,NO,OG,La,NO,Lb,G9,Ha,NO,OG,Lc,NO,Ld,Hb,Hc,NO,OG,Le,NO,Lf,He,Hf,Hg P,Hh P]
def Ir (x3 Qm Qn:G'):List G':=Iq P x3 Qm Qn++[Hi P,Hj,NO,OG,Lh,NO,Li,Hk,Hl,NO,OG,Lj,NO,Lk,Hm,Hn,NO,OG,Ll,NO,Lm,Ho,Hq,NO,OG,Ln,NO,Lo,Hr,Hs,NO,OG,Lp,NO,Lq,Ht,Hu,NO,OG,Lr,NO,Ls,Hv,Hw,NO,OG,Lu,Lv,Lw,Hx,Hy,Lx,Ly,Lz,Hz,HA,LA,LB,LC,HB,HC,LD,LE,LF,LG,LH,HD,HE,LI,LJ,LK,LL,LM,HF,HG]
def Iu (x3 Qm Qn:G'):List G':=Ir P x3 Qm Qn++[LN,LO,LP,LQ,LR,HI,HJ,LS,LT,LU,LV,LW,HK,HL,LX,LY,LZ,HM,HN,L0,L4,L7,L8,L9,HP,HQ,Ma,Mb,Mc,Md,Me,HR,HS,Mf,Mg,Mh,HU,HV,Mi,Mj,Ml,HW,HX,Mm,Mo,Mp,HY,HZ,Mq,Mr,Ms,Mt,Mu,Ia,Ib,Mv,Mw,My,Ic,Id,Mz,MA,MB,Ie,Ig,MC,MD,ME,Ih,Ii]
def xC:BT:=tr 10 (E2 P (boot_o_3 P) (o12) (o14))
def Iv:BT:=tr 10 (Ij P (o3 P) (JA) (o24))
def Ix:BT:=tr 10 (Ik P (Ki P) (JB) (JC))
def Iy:BT:=tr 10 (Il P (Kj P) (JD) (JE))
def Iz:BT:=tr 10 (Im P (Kk P) (JF) (i7))
def IA:BT:=tr 10 (Io P (Kl P) (JG) (i7))
def yS:BT:=tr 10 (Ip P (KD P) (JH) (i7))
def qu:BT:=tr 10 (Iq P (K3 P) (JI) (i7))
def yT:BT:=tr 10 (Ir P (Lg P) (JJ) (i7))
def IB:BT:=tr 10 (Iu P (Dc P) (DL) (i7))
def hA:M4:=⟨⟨yR P (boot_o_3 P) (o12) (o14)⟩,{}⟩
def hF:M4:=⟨⟨Iu P (Dc P) (DL) (i7)⟩,{}⟩
def K:Frag:=(nat_lit 2,boot_o_2 P)::(nat_lit 3,Dc P)::(nat_lit 23,o23 P)::(nat_lit 24,i7)::(nat_lit 36,o36 P)::(nat_lit 37,o37)::(nat_lit 48,o48 P)::(nat_lit 49,o49)::(nat_lit 60,o60 P)::(nat_lit 61,o61)::(nat_lit 69,o69)::(nat_lit 70,o70)::(nat_lit 76,o76)::(nat_lit 77,o77)::(nat_lit 83,o83)::(nat_lit 84,o84)::(nat_lit 88,o88)::(nat_lit 89,o89)::(nat_lit 102,Gg)::(nat_lit 103,Gh)::(nat_lit 109,Gi)::(nat_lit 110,Gj)::(nat_lit 112,Gk P)::(nat_lit 113,Gm)::(nat_lit 123,Gn)::(nat_lit 124,Go)::(nat_lit 130,Gp)::(nat_lit 131,Gq)::(nat_lit 137,Gr)::(nat_lit 138,Gs)::(nat_lit 144,Gu)::(nat_lit 145,Gv)::(nat_lit 151,Gw)::(nat_lit 152,Gx)::(nat_lit 156,Gy)::(nat_lit 157,Gz)::(nat_lit 163,GA)::(nat_lit 164,GB)::(nat_lit 170,GC)::(nat_lit 171,GD)::(nat_lit 177,GE)::(nat_lit 178,GF)::(nat_lit 184,GG)::(nat_lit 185,GH)::(nat_lit 191,GI)::(nat_lit 192,GJ)::(nat_lit 196,GL)::(nat_lit 197,GM)::(nat_lit 203,GN)::(nat_lit 204,GO)::(nat_lit 210,GQ)::(nat_lit 211,GS)::(nat_lit 212,GT P)::(nat_lit 213,GU)::(nat_lit 214,GV)::(nat_lit 215,GW)::(nat_lit 216,GX)::(nat_lit 217,GY)::(nat_lit 218,GZ)::(nat_lit 219,G0)::(nat_lit 220,G3)::(nat_lit 221,G4)::(nat_lit 222,G5)::(nat_lit 223,G6)::(nat_lit 229,G7)::(nat_lit 230,G8)::(nat_lit 236,G9)::(nat_lit 237,Ha)::(nat_lit 243,Hb)::(nat_lit 244,Hc)::(nat_lit 250,He)::(nat_lit 251,Hf)::(nat_lit 252,Hg P)::(nat_lit 253,Hh P)::(nat_lit 254,Hi P)::(nat_lit 255,Hj)::(nat_lit 261,Hk)::(nat_lit 262,Hl)::(nat_lit 268,Hm)::(nat_lit 269,Hn)::(nat_lit 275,Ho)::(nat_lit 276,Hq)::(nat_lit 282,Hr)::(nat_lit 283,Hs)::(nat_lit 289,Ht)::(nat_lit 290,Hu)::(nat_lit 296,Hv)::(nat_lit 297,Hw)::(nat_lit 303,Hx)::(nat_lit 304,Hy)::(nat_lit 308,Hz)::(nat_lit 309,HA)::(nat_lit 313,HB)::(nat_lit 314,HC)::(nat_lit 320,HD)::(nat_lit 321,HE)::(nat_lit 327,HF)::(nat_lit 328,HG)::(nat_lit 334,HI)::(nat_lit 335,HJ)::(nat_lit 341,HK)::(nat_lit 342,HL)::(nat_lit 346,HM)::(nat_lit 347,HN)::(nat_lit 353,HP)::(nat_lit 354,HQ)::(nat_lit 360,HR)::(nat_lit 361,HS)::(nat_lit 365,HU)::(nat_lit 366,HV)::(nat_lit 370,HW)::(nat_lit 371,HX)::(nat_lit 375,HY)::(nat_lit 376,HZ)::(nat_lit 382,Ia)::(nat_lit 383,Ib)::(nat_lit 387,Ic)::(nat_lit 388,Id)::(nat_lit 392,Ie)::(nat_lit 393,Ig)::(nat_lit 397,Ih)::(nat_lit 398,Ii)::[]
def as_:List A':=[2,3,23,24,36,37,48,49,60,61,69,70,76,77,83,84,88,89,102,103,109,110,112,113,123,124,130,131,137,138,144,145,151,152,156,157,163,164,170,171,177,178,184,185,191,192,196,197,203,204,210,211,212,213,214,215,216,217,218,219,220,221,222,223,229,230,236,237,243,244,250,251,252,253,254,255,261,262,268,269,275,276,282,283,289,290,296,297,303,304,308,309,313,314,320,321,327,328,334,335,341,342,346,347,353,354,360,361,365,366,370,371,375,376,382,383,387,388,392,393,397,398]
def B:List Frame:=[topFrame ⟨0,0,0,0⟩]
def env:OV:={ scope:=pw.main.scope,locals:=mainNs,globals:=mainNs,cells:=[],code:=(.ref 13),frame:=some 14 }
def cE:Code:=.body (behindTheImports pw) env
def sT (t:UX->BT)(n k:Nat)(w:M7)(os:Pz):SharedT:=⟨t w.params,n,{},⟨[]⟩,{},k,os⟩
def sH (h:UX->M4)(k:Nat)(w:M7)(os:Pz):J':=⟨h w.params,⟨[]⟩,{},k,os⟩
def sO (w:M7)(os:Pz):J':=⟨Xx w.params,⟨[]⟩,boot_drawn,boot_toks,os⟩
theorem MF (w)(os):topGo treeTable pw w 11 (some (.ref 6)) 12 (sO w os) (topStub pw)=some (sH hA 187 w os,⟨denote treeTable cE,cE,⟨0,0,0,0⟩,B⟩):=by
 rewrite [W.Fast.te15667345088766844465,Ru,W.Fast.te11892475500146522536];kernel_rfl
theorem IC (w)(os):segRun treeTable pw w 11 (some (.ref 6)) 1 1 (sH hA 187 w os) (blockOf (behindTheImports pw) env cE ⟨0,0,0,0⟩ B)=some (.next,(sT xC 15 187 w os).abs,cE,⟨0,0,0,0⟩):=by
 rewrite [W.Fast.te14374325043358763698,Ru];kernel_rfl
def ID:List M':=[s0,s1]
theorem MH (w)(os):segRunT treeTable pw w 11 (some (.ref 6)) 1 196 (sT xC 15 187 w os) (piecesOf ID env cE ⟨0,0,0,0⟩ B)=some (.next,sT Iv 28 207 w os,cE,⟨2,0,3,8⟩):=by
 rewrite [Sv,Ru];kernel_rfl
def IE:List M':=[s2]
theorem MI (w)(os):segRunT treeTable pw w 11 (some (.ref 6)) 1 214 (sT Iv 28 207 w os) (piecesOf IE env cE ⟨2,0,3,8⟩ B)=some (.next,sT Ix 40 223 w os,cE,⟨4,0,5,8⟩):=by
 rewrite [Sv,Ru];kernel_rfl
def IG:List M':=[s3]
theorem MJ (w)(os):segRunT treeTable pw w 11 (some (.ref 6)) 1 214 (sT Ix 40 223 w os) (piecesOf IG env cE ⟨4,0,5,8⟩ B)=some (.next,sT Iy 52 239 w os,cE,⟨6,0,7,8⟩):=by
 rewrite [Sv,Ru];kernel_rfl
def IH:List M':=[s4,s5,s6,s7,s8,s9,Ql,SS,QN,ψ,s14]
theorem MK (w)(os):segRunT treeTable pw w 11 (some (.ref 6)) 1 381 (sT Iy 52 239 w os) (piecesOf IH env cE ⟨6,0,7,8⟩ B)=some (.next,sT Iz 90 294 w os,cE,⟨30,0,30,6⟩):=by
 rewrite [Sv,Ru];kernel_rfl
def II:List M':=[WV,s16,Wy,s18,s19]
theorem ML (w)(os):segRunT treeTable pw w 11 (some (.ref 6)) 1 382 (sT Iz 90 294 w os) (piecesOf II env cE ⟨30,0,30,6⟩ B)=some (.next,sT IA 146 370 w os,cE,⟨65,0,76,22⟩):=by
 rewrite [Sv,Ru];kernel_rfl
def IJ:List M':=[s20,s21,s22,VB,s24,P9,RY,s27,s28,s29,s30]
theorem MM (w)(os):segRunT treeTable pw w 11 (some (.ref 6)) 1 319 (sT IA 146 370 w os) (piecesOf IJ env cE ⟨65,0,76,22⟩ B)=some (.next,sT yS 212 465 w os,cE,⟨140,0,140,8⟩):=by
 rewrite [Sv,Ru];kernel_rfl
def yU:List M':=[s31,s32,s33,SV,s35,s36,s37,s38,s39]
theorem yV (w)(os):segRunT treeTable pw (R4 w "special-get-raises" false) 11 (some (.ref 6)) 1 379 (sT yS 212 465 (R4 w "special-get-raises" false) os) (piecesOf yU env cE ⟨140,0,140,8⟩ B)=some (.next,sT qu 254 560 (R4 w "special-get-raises" false) os,cE,⟨167,0,167,12⟩):=by
 rewrite [Sv,Ru];kernel_rfl
theorem Bi (w)(os):segRunT treeTable pw (R4 w "special-get-raises" true) 11 (some (.ref 6)) 1 379 (sT yS 212 465 (R4 w "special-get-raises" true) os) (piecesOf yU env cE ⟨140,0,140,8⟩ B)=some (.next,sT qu 254 560 (R4 w "special-get-raises" true) os,cE,⟨167,0,167,12⟩):=by
 rewrite [Sv,Ru];kernel_rfl
theorem MN (w)(os):segRunT treeTable pw w 11 (some (.ref 6)) 1 379 (sT yS 212 465 w os) (piecesOf yU env cE ⟨140,0,140,8⟩ B)=some (.next,sT qu 254 560 w os,cE,⟨167,0,167,12⟩):=by
 have e:=aeA w "special-get-raises";cases hb:w.params.followText "special-get-raises" <;> rw[hb] at e
 .have h:=yV w os;rw[e] at h;exact h
 .have h:=Bi w os;rw[e] at h;exact h
def yW:List M':=[s40,s41,s42,s43,s44,Uz,s46,s47,s48,s49,s50,s51,s52,s53]
theorem yX (w)(os):segRunT treeTable pw (R4 w "special-get-raises" false) 11 (some (.ref 6)) 1 391 (sT qu 254 560 (R4 w "special-get-raises" false) os) (piecesOf yW env cE ⟨167,0,167,12⟩ B)=some (.next,sT yT 329 663 (R4 w "special-get-raises" false) os,cE,⟨216,0,222,40⟩):=by
 rewrite [Sv,Ru];kernel_rfl
theorem Bj (w)(os):segRunT treeTable pw (R4 w "special-get-raises" true) 11 (some (.ref 6)) 1 391 (sT qu 254 560 (R4 w "special-get-raises" true) os) (piecesOf yW env cE ⟨167,0,167,12⟩ B)=some (.next,sT yT 329 663 (R4 w "special-get-raises" true) os,cE,⟨216,0,222,40⟩):=by
 rewrite [Sv,Ru];kernel_rfl
theorem MO (w)(os):segRunT treeTable pw w 11 (some (.ref 6)) 1 391 (sT qu 254 560 w os) (piecesOf yW env cE ⟨167,0,167,12⟩ B)=some (.next,sT yT 329 663 w os,cE,⟨216,0,222,40⟩):=by
 have e:=aeA w "special-get-raises";cases hb:w.params.followText "special-get-raises" <;> rw[hb] at e
 .have h:=yX w os;rw[e] at h;exact h
 .have h:=Bj w os;rw[e] at h;exact h
def IK:List M':=[s54,s55,s56,s57,s58,s59,s60,s61,s62,s63,s64,s65,s66]
theorem MP (w)(os):segRunT treeTable pw w 11 (some (.ref 6)) 1 348 (sT yT 329 663 w os) (piecesOf IK env cE ⟨216,0,222,40⟩ B)=some (.next,sT IB 399 753 w os,cE,⟨311,0,320,112⟩):=by
 rewrite [Sv,Ru];kernel_rfl
theorem MQ (w)(os):topRun treeTable pw w 11 (some (.ref 6)) 2 (sT IB 399 753 w os).abs (restOf [] env cE ⟨311,0,320,112⟩ B)=some (sH hF 753 w os):=by
 rewrite [W.Fast.te14082659384304107361,Ru];kernel_rfl
theorem JL:behindTheImports pw=ID++(IE++(IG++(IH++(II++(IJ++(yU++(yW++(IK++[])))))))):=by kernel_rfl
theorem MR (w)(os):topRun treeTable pw w 11 (some (.ref 6)) (12+(1+(196+(214+(214+(381+(382+(319+(379+(391+(348+(2)))))))))))) (sO w os) (topStub pw)=some (sH hF 753 w os):=by
 refine go_top (MF w os) (piece_block (IC w os) ?_);rw[JL];exact T8 (T9 (MH w os)) (T8 (T9 (MI w os)) (T8 (T9 (MJ w os)) (T8 (T9 (MK w os)) (T8 (T9 (ML w os)) (T8 (T9 (MM w os)) (T8 (T9 (MN w os)) (T8 (T9 (MO w os)) (T8 (T9 (MP w os)) (MQ w os)))))))))
def jg:Ng:={ pw with main:={ pw.main with body:=[s1,s2,s3,s4,s6,s7,s8,s9,Ql,QN,ψ,s14,WV,s16,Wy,s18,s19,s20,s21,s22,VB,s24,P9,RY,s27,s28,s29,s31,s32,s33,SV,s35,s37,s38,s39,s40,s41,s42,s43,s44,Uz,s46,s47,s48,s49,s50,s51,s52,s53,s54,s55,s56,s58,s59,s60,s61,s62,s63,s64,s65,s66] } }
abbrev Dd:WRecords:=RowW.records (OpenRow.toRowW (OpenLaw.row PySem.Challenge.rw_ordernest_k30_whole_rules))
def Xt (s:J'):Bool:=xlAt jg [] s&&recOk Dd s
abbrev H:Hook:=kHook K as_ (λ_=>by kernel_rfl)
theorem JM (w:M7):((Xx w.params).isNs N5&&(Array.mk ([]:List GenState)).size==0,(Xx w.params).objs.size,(Xx w.params).nsMap N5 "__annotations__")=(true,11,(some (.ref 6))):=by kernel_rfl
open PyProof.Rows in
theorem JN (w:M7) (os:Pz):openSeen jg ["CLOSES","NUMBERS_BEHIND","RULES_BEHIND","JOINS"] (importedModules pw.main.body) Xt true (sH hF 753 w os)=openGood jg ["CLOSES","NUMBERS_BEHIND","RULES_BEHIND","JOINS"]:=by
 unfold openSeen openGood
 refine Tf ?a (Tf ?b (Tf ?c (Tf ?d (Tf ?e (Tf ?f (Tf ?g (Tf ?h ?i)))))))
 case a=>rewrite [W.Fast.te5160383126252970620,W.R.mapR_eq,adX,W.Fast.te5991557255702980513];kernel_rfl
 case b=>kernel_rfl
 case c=>rewrite [W.Fast.te10880121769531294198,ad3,W.R.mapR_eq,adX,W.Fast.te7409074990110511671,W.Fast.te13664370479719496447,W.Fast.te14722251495701143533,adY,W.Fast.te10994771534591457954];kernel_rfl
 case d=>rewrite [W.Fast.te479339242167458305];kernel_rfl
 case e=>rewrite [W.Fast.te16090120013241838585,W.Fast.te3247288618530077131];kernel_rfl
 case f=>rewrite [W.Fast.te2386780881361962483,ad3];kernel_rfl
 case g=>rewrite [W.Fast.te11698064438423848299];kernel_rfl
 case h=>rewrite [W.Fast.te7317090234206586261];kernel_rfl
 case i=>rewrite [W.Fast.te7369524293546568484];kernel_rfl
theorem JO (w)(os):(staticsOk (importedModules pw.main.body) (Xx w.params) (hF w.params)&&namesBound pw (hF w.params)&&gensDone (sH hF 753 w os)&&laidKept (Xx w.params) (hF w.params))=true:=by
 rewrite [adY];kernel_rfl
theorem MS (w)(os):Hook.obs H (sH hF 753 w os)=Hook.val H w:=by kernel_rfl
theorem De:opening pw=plainProg pw.main.scope.names:=by kernel_rfl
theorem JP:LeftO pw jg ["CLOSES","NUMBERS_BEHIND","RULES_BEHIND","JOINS"] Xt (Hook.obs H) (Hook.val H) 5756:=
 LeftO.of_pieces (H₁:=hF) (boot_open De rfl λs=>by kernel_rfl) JM MR rfl λw=>funext λos=>Tf (JO w os) (Tf (JN w os) (MS w os))
end
end Vw
namespace L2
open PySem PySem.Spec PyProof.Rows
structure Dn (K)(x)(st)(f)(fd):Prop where
 fn:NE K x x st f fd
 ns:O1 K N5 x=some (some (.ref f))
theorem bu {K:MZ}{x:MV}{st:M'}{f:A'}{oc:D'}{od an:Option A'}{Qi:Array (Option D')}{kV doc pm No ct:D'}(a:O1 K N5 x=some (some (.ref f)))(l:K.lookup f=some ⟨oc,od,.func (Tj x x (dS st) (cH st) (am st) .none kV doc pm an No ct),Qi⟩)(c:Zv K No x=true)(k:R8 K (.ref f)=true):
  Dn K x st f (Tj x x (dS st) (cH st) (am st) .none kV doc pm an No ct):=⟨zu l c k,a⟩
theorem Dn.df {P:Ng}{w:M7}{K:MZ}{mg:MV->Option D'}{base h:M4}{CX:PU}{k:Nat}{x:MV}{st:M'}{f:A'}{fd:Nt}{ps:List MV}{sp:Sp}(D:Dn K x st f fd)(X:K.In h)(G:h.Ns N5 mg)(b:bH K fd ps [])(F:Nq P w K mg base CX k f fd ps sp):Df P w K mg base CX k x ps sp:=⟨f,fd,F,b,D.fn.kp,Pi X G D.ns⟩
structure Mn (K)(C)(x qual)(st)(f)(fd):Prop where
 fn:NE K x qual st f fd
 mt:Ue K C x f
theorem DM {K:MZ}{C:A'}{x qual:MV}{st:M'}{f:A'}{oc:D'}{od an:Option A'}{Qi:Array (Option D')}{kV doc pm No ct:D'}(a:QG K (.ref C) x=some (some (.ref f)))(i:W.isFn K (.ref f)=true)(l:K.lookup f=some ⟨oc,od,.func (Tj x qual (dS st) (cH st) (am st) .none kV doc pm an No ct),Qi⟩)(c:Zv K No qual=true)(k:R8 K (.ref f)=true):
  Mn K C x qual st f (Tj x qual (dS st) (cH st) (am st) .none kV doc pm an No ct):=⟨zu l c k,a,i,k⟩
theorem gW {p:List D'->Prop}(h:∀a,p [a])(us:List D')(e:us.length=1):p us:=by
 cases us with
 | nil=>cases e
 | cons a us=>cases us with
 | nil=>exact h a
 | cons x us=>cases e
theorem cP {p:List D'->Prop}(h:∀a b,p [a,b])(us:List D')(e:us.length=2):p us:=by
 cases us with
 | nil=>cases e
 | cons a us=>cases us with
 | nil=>cases e
 | cons b us=>cases us with
 | nil=>exact h a b
 | cons x us=>cases e
theorem fq {p:List D'->Prop}(h:∀a b c,p [a,b,c])(us:List D')(e:us.length=3):p us:=by
 cases us with
 | nil=>cases e
 | cons a us=>cases us with
 | nil=>cases e
 | cons b us=>cases us with
 | nil=>cases e
 | cons c us=>cases us with
 | nil=>exact h a b c
 | cons x us=>cases e
theorem mH {p:List D'->Prop}(h:∀a b c d,p [a,b,c,d])(us:List D')(e:us.length=4):p us:=by
 cases us with
 | nil=>cases e
 | cons a us=>cases us with
 | nil=>cases e
 | cons b us=>cases us with
 | nil=>cases e
 | cons c us=>cases us with
 | nil=>cases e
 | cons d us=>cases us with
 | nil=>exact h a b c d
 | cons x us=>cases e
end L2
namespace Ord
open PySem L2 Mx
theorem IL {l:W.OpenLaw}{w:M7}{K:MZ}{h:M4}{mg:MV->Option D'}{fa CO C c0 Pt c1 Pw aC aN aR aJ aF:A'}(X:K.In h)(G:h.Ns N5 mg)(hfa:mg "law"=some (.ref fa)){t8 t0 t1 t2 tb:Tok}{fi fk:A'}{gi gk:Nt}{f0 f1 f2 f3 f4 f5 f6 f7 f8 f9 f10 f11 f12 f13 f14 f15 f16 f17 f18 f19 f20 f21 f22 f23 f24 f25 f26 f27 f28 f29 f30 f31 f32 f33 f34 f35 f36 f37 f38 f39 f40 f41 f42 f43 f44:A'}{g0 g1 g2 g3 g4 g5 g6 g7 g8 g9 g10 g11 g12 g13 g14 g15 g16 g17 g18 g19 g20 g21 g22 g23 g24 g25 g26 g27 g28 g29 g30 g31 g32 g33 g34 g35 g36 g37 g38 g39 g40 g41 g42 g43 g44:Nt}(d0:Dn K "is_whole" tT f0 g0)(d1:Dn K "is_count" tU f1 g1)(d2:Dn K "look_count" tV f2 g2)(d3:Dn K "look_order" sB f3 g3)(d4:Dn K "is_door" uF f4 g4)(d5:Dn K "things_through" nq f5 g5)(d6:Dn K "look_parts" uI f6 g6)(d7:Dn K "look_first" uH f7 g7)(d8:Dn K "look_doors" uG f8 g8)(d9:Dn K "things_of_room" me f9 g9)(d10:Dn K "things_from" ym f10 g10)(d11:Dn K "walk_rooms" sG f11 g11)(d12:Dn K "look_turn" uJ f12 g12)(d13:Dn K "look_book" sI f13 g13)(d14:Dn K "shelve" jF f14 g14)(d15:Dn K "book_of" pW f15 g15)(d16:Dn K "grow" mw f16 g16)(WY:Dn K "grown" oU f17 g17)(YK:Dn K "meet" sL f18 g18)(YL:Dn K "doors_by_thing" nC f19 g19)(YM:Dn K "doors_of_pair" mx f20 g20)(YN:Dn K "join_books" cT f21 g21)(d22:Dn K "look_parts_behind" qh f22 g22)(d23:Dn K "look_numbers" vw f23 g23)(d24:Dn K "look_rule" pc f24 g24)(TQ:Dn K "has_gone" yI f25 g25)(YO:Dn K "things_left" sP f26 g26)(YQ:Dn K "crossed_by" kq f27 g27)(YR:Dn K "mark_behind_next" vm f28 g28)(YS:Dn K "mark_behind" vn f29 g29)(YT:Dn K "state_behind" qe f30 g30)(YU:Dn K "doors_by_rule" mz f31 g31)(YV:Dn K "book_of_walk" cN f32 g32)(d33:Dn K "book_by_rule" mD f33 g33)(d34:Dn K "ruled" vG f34 g34)(d35:Dn K "cut" C6 f35 g35)(d36:Dn K "_law_cell" yK f36 g36)(d37:Dn K "_law_mix" CY f37 g37)(d38:Dn K "_law_all" Tr f38 g38)(d39:Dn K "_law_set" vA f39 g39)(d40:Dn K "_law_lay" jf f40 g40)(d41:Dn K "_law_book" lz f41 g41)(d42:Dn K "_law_rule" lB f42 g42)(d43:Dn K "_law_keeps" jK f43 g43)(d44:Dn K "law" nL f44 g44)(aS:O1 K N5 "Shelf"=some (some (.ref C)))(mi:Mn K C "__init__" "Shelf.__init__" yt fi gi)(mk:Mn K C "keep" "Shelf.keep" sK fk gk)(pg:Zq K C MV.empty=true)(hd:aa0 K C=true)(po:W.plainOver K C=true)(sa:QG K (.ref C) "__setattr__"=some (some (.builtin "object.__setattr__")))(ms:W.makesIn K C=true)(kc:R8 K (.ref C)=true)(nR:QG K (.ref C) "rooms"=some none)(nN:QG K (.ref C) "numbers"=some none)(tj:Ub K "join_books"=some (c0,Pt))(kp:K.lookup Pt=none)(tw:Ub K "book_of_walk"=some (c1,Pw))(kw:K.lookup Pw=none)(ne:Pt≠Pw){kvs kN kR kJ:List (Key×D')}(TC:TxC l.prog w K mg aC kvs)(na:O1 K N5 "BadOrder"=some (some (.ref CO)))(xo:W.excIn K CO bmV "ValueError.__new__"=true)(m8:O1 K N5 "MOST_THINGS"=some (some (.int 8 t8)))(m0:O1 K N5 "NO_ROOM"=some (some (.int 0 t0)))(m1:O1 K N5 "END"=some (some (.int 1 t1)))(m2:O1 K N5 "LOWEST"=some (some (.int 2 t2)))(mb:O1 K N5 "BROKEN"=some (some (.int 2 tb)))(z0:O1 K N5 "isinstance"=some none)(z1:O1 K N5 "int"=some none)(z2:O1 K N5 "bool"=some none)(z3:O1 K N5 "tuple"=some none)(z4:O1 K N5 "list"=some none)(z5:O1 K N5 "range"=some none)(z6:O1 K N5 "sorted"=some none)(z7:O1 K N5 "all"=some none)(z8:O1 K N5 "len"=some none)(z9:O1 K N5 "enumerate"=some none)(z10:O1 K N5 "set"=some none)(z11:O1 K N5 "min"=some none)(z12:O1 K N5 "dict"=some none)(z13:O1 K N5 "any"=some none)(TRm:Vy K mg CO->UE l.prog w K mg CO aN aR aJ aF kN kR kJ): ∃(fd:Nt) (c Pt c' Pw:A'),Ub K "join_books"=some (c,Pt)/\(K).lookup Pt=none/\Ub K "book_of_walk"=some (c',Pw)/\(K).lookup Pw=none/\Pt≠Pw/\(∀(s:J') (v:D'),XD s fd ⟨[v],[]⟩ [("_law_script",v)])/\∀base:M4,(K).In base->base.Ns N5 mg->QT base c Pt->QT base c' Pw->Bm mg base->Nq l.prog w (K) mg base Nb 20 fa fd ["_law_script"] (sU (K) Pt Pw):=by
 have e:=hfa.symm.trans (Pi X G d44.ns);cases e;have T0:Txt K mg CO:=⟨⟨Pi X G na,xo⟩,⟨t8,Pi X G m8⟩,Rh X G z0,Rh X G z1,Rh X G z2,Rh X G z3,Rh X G z4,Rh X G z5,Rh X G z6,Rh X G z7,Rh X G z8,Rh X G z9⟩
 have T:Oy K mg CO:=⟨T0,⟨t0,Pi X G m0⟩,⟨t1,Pi X G m1⟩,⟨t2,Pi X G m2⟩,Rh X G z10⟩
 have TJ:Yy K mg CO:=⟨T,Rh X G z11,Rh X G z12⟩
 have TK:Vy K mg CO:=⟨T,⟨tb,Pi X G mb⟩⟩
 have TR:=TRm TK;have c:SN K C:=⟨⟨pg,hd,po,sa⟩,nR,nN⟩
 have M:Mk K C fi:=⟨ms,mi.mt.at_,mi.mt.fn,kc⟩
 have mC:=Pi X G aS;have bi:=mi.fn.binds (ps:=["self"]) λ_ _ _ _ _ _=>gW λ_=>rfl;have bk:=mk.fn.binds (ps:=["self","room"]) λ_ _ _ _ _ _=>cP λ_ _=>rfl;have b0:=d0.fn.binds (ps:=["value"]) λ_ _ _ _ _ _=>gW λ_=>rfl;have b1:=d1.fn.binds (ps:=["many"]) λ_ _ _ _ _ _=>gW λ_=>rfl;have b2:=d2.fn.binds (ps:=["many"]) λ_ _ _ _ _ _=>gW λ_=>rfl;have b3:=d3.fn.binds (ps:=["many","order"]) λ_ _ _ _ _ _=>cP λ_ _=>rfl;have b4:=d4.fn.binds (ps:=["door"]) λ_ _ _ _ _ _=>gW λ_=>rfl;have b5:=d5.fn.binds (ps:=["door","things"]) λ_ _ _ _ _ _=>cP λ_ _=>rfl;have b6:=d6.fn.binds (ps:=["book"]) λ_ _ _ _ _ _=>gW λ_=>rfl;have b7:=d7.fn.binds (ps:=["many","things","first"]) λ_ _ _ _ _ _=>fq λ_ _ _=>rfl;have b8:=d8.fn.binds (ps:=["many","room","number"]) λ_ _ _ _ _ _=>fq λ_ _ _=>rfl;have b9:=d9.fn.binds (ps:=["room","things"]) λ_ _ _ _ _ _=>cP λ_ _=>rfl;have b10:=d10.fn.binds (ps:=["many","rooms"]) λ_ _ _ _ _ _=>cP λ_ _=>rfl;have b11:=d11.fn.binds (ps:=["rooms","number","walked"]) λ_ _ _ _ _ _=>fq λ_ _ _=>rfl;have b12:=d12.fn.binds (ps:=["rooms","first"]) λ_ _ _ _ _ _=>cP λ_ _=>rfl;have b13:=d13.fn.binds (ps:=["book"]) λ_ _ _ _ _ _=>gW λ_=>rfl;have b14:=d14.fn.binds (ps:=["shelf","orders","place"]) λ_ _ _ _ _ _=>fq λ_ _ _=>rfl;have b15:=d15.fn.binds (ps:=["many","orders"]) λ_ _ _ _ _ _=>cP λ_ _=>rfl;have b16:=d16.fn.binds (ps:=["shelf","state","doors_from","known"]) λ_ _ _ _ _ _=>mH λ_ _ _ _=>rfl;have b17:=WY.fn.binds (ps:=["many","state","doors_from"]) λ_ _ _ _ _ _=>fq λ_ _ _=>rfl;have b18:=YK.fn.binds (ps:=["closes","one","other"]) λ_ _ _ _ _ _=>fq λ_ _ _=>rfl;have b19:=YL.fn.binds (ps:=["rooms","number"]) λ_ _ _ _ _ _=>cP λ_ _=>rfl;have b20:=YM.fn.binds (ps:=["closes","rooms","others","pair"]) λ_ _ _ _ _ _=>mH λ_ _ _ _=>rfl;have b21:=YN.fn.binds (ps:=["word","one","other"]) λ_ _ _ _ _ _=>fq λ_ _ _=>rfl;have b22:=d22.fn.binds (ps:=["rule","count"]) λ_ _ _ _ _ _=>cP λ_ _=>rfl;have b23:=d23.fn.binds (ps:=["many","rule"]) λ_ _ _ _ _ _=>cP λ_ _=>rfl;have b24:=d24.fn.binds (ps:=["many","rule","depth"]) λ_ _ _ _ _ _=>fq λ_ _ _=>rfl;have b25:=TQ.fn.binds (ps:=["gone","thing"]) λ_ _ _ _ _ _=>cP λ_ _=>rfl;have b26:=YO.fn.binds (ps:=["many","gone"]) λ_ _ _ _ _ _=>cP λ_ _=>rfl;have b27:=YQ.fn.binds (ps:=["many","gone","thing"]) λ_ _ _ _ _ _=>fq λ_ _ _=>rfl;have b28:=YR.fn.binds (ps:=["rule","state","thing"]) λ_ _ _ _ _ _=>fq λ_ _ _=>rfl;have b29:=YS.fn.binds (ps:=["many","rule","state","thing"]) λ_ _ _ _ _ _=>mH λ_ _ _ _=>rfl;have b30:=YT.fn.binds (ps:=["many","rule","state","thing"]) λ_ _ _ _ _ _=>mH λ_ _ _ _=>rfl;have b31:=YU.fn.binds (ps:=["many","rule","state"]) λ_ _ _ _ _ _=>fq λ_ _ _=>rfl;have b32:=YV.fn.binds (ps:=["many","rule"]) λ_ _ _ _ _ _=>cP λ_ _=>rfl;have b33:=d33.fn.binds (ps:=["many","rule"]) λ_ _ _ _ _ _=>cP λ_ _=>rfl;have b34:=d34.fn.binds (ps:=["many","rule"]) λ_ _ _ _ _ _=>cP λ_ _=>rfl;have b35:=d35.fn.binds (ps:=["book","rule"]) λ_ _ _ _ _ _=>cP λ_ _=>rfl;have b36:=d36.fn.binds (ps:=["_law_script","_law_k"]) λ_ _ _ _ _ _=>cP λ_ _=>rfl;have b37:=d37.fn.binds (ps:=["_law_script","_law_k"]) λ_ _ _ _ _ _=>cP λ_ _=>rfl;have b38:=d38.fn.binds (ps:=["_law_many"]) λ_ _ _ _ _ _=>gW λ_=>rfl;have b39:=d39.fn.binds (ps:=["_law_script","_law_k","_law_many"]) λ_ _ _ _ _ _=>fq λ_ _ _=>rfl;have b40:=d40.fn.binds (ps:=["_law_many","_law_left","_law_orders","_law_rooms"]) λ_ _ _ _ _ _=>mH λ_ _ _ _=>rfl;have b41:=d41.fn.binds (ps:=["_law_many","_law_orders"]) λ_ _ _ _ _ _=>cP λ_ _=>rfl;have b42:=d42.fn.binds (ps:=["_law_script","_law_k","_law_many","_law_deep"]) λ_ _ _ _ _ _=>mH λ_ _ _ _=>rfl;have b43:=d43.fn.binds (ps:=["_law_rule_here","_law_order"]) λ_ _ _ _ _ _=>cP λ_ _=>rfl;have b44:=d44.fn.binds (ps:=["_law_script"]) λ_ _ _ _ _ _=>gW λ_=>rfl;refine⟨g44,c0,Pt,c1,Pw,tj,kp,tw,kw,ne,λs v=>?_,λbase _ _ CH CW bm=>?_⟩
 .obtain⟨oc,od,kV,doc,pm,an,No,ct,Qi,rfl,lk,Pq⟩:=d44.fn.ex;exact .of_eq rfl
 have DP:∀OK,Mod K mg OK->Df l.prog w K mg OK Nb 2 "doors_of_pair" ["closes","rooms","others","pair"] (iA K):=λOK _=>YM.df X G b20 (rQ YM.fn TJ (YL.df X G b19 (oZ YL.fn TJ)) (YK.df X G b18 (xm YK.fn TJ)));have DW:∀OK,Mod K mg OK->Df l.prog w K mg OK Nb 5 "doors_by_rule" ["many","rule","state"] (iG K):=λOK _=>(YU.df X G b31 (rY YU.fn (YO.df X G b26 (xn YO.fn T (TQ.df X G b25 (my TQ.fn)))) (YT.df X G b30 (rX YT.fn TK (YS.df X G b29 (vp YS.fn TK (TQ.df X G b25 (my TQ.fn)) (YR.df X G b28 (vo YR.fn TK)) (YQ.df X G b27 (o8 YQ.fn T (TQ.df X G b25 (my TQ.fn))))))))))
 have GR:∀OK,Mod K mg OK->ib l.prog w K mg OK f17 g17:=λOK _=>CC WY.fn d16.fn T c M (w4 mi.fn c) bi mC mk.mt (w5 mk.fn T c) bk b16 (Pi X G d16.ns);have Fi:=w4 (P:=l.prog) (w:=w) (mg:=mg) (base:=base) mi.fn c;have Fk:=w5 (P:=l.prog) (w:=w) (base:=base) mk.fn T c;have W0:=d0.df (P:=l.prog) (w:=w) (base:=base) X G b0 (BE d0.fn T.t);have W1:=d1.df (P:=l.prog) (w:=w) (base:=base) X G b1 (BF d1.fn T.t W0);have W2:=d2.df (P:=l.prog) (w:=w) (base:=base) X G b2 (BG d2.fn T.t W1);have W3:=d3.df (P:=l.prog) (w:=w) (base:=base) X G b3 (D8 d3.fn T.t W2 W0);have W4:=d4.df (P:=l.prog) (w:=w) (base:=base) X G b4 (Cg d4.fn T W0);have W5:=d5.df (P:=l.prog) (w:=w) (base:=base) X G b5 (yn d5.fn);have W6:=d6.df (P:=l.prog) (w:=w) (base:=base) X G b6 (Ch d6.fn T W0 W1);have W7:=d7.df (P:=l.prog) (w:=w) (base:=base) X G b7 (Cj d7.fn T);have W8:=d8.df (P:=l.prog) (w:=w) (base:=base) X G b8 (Ck d8.fn T W4);have W9:=d9.df (P:=l.prog) (w:=w) (base:=base) X G b9 (Ak d9.fn T W5);have W10:=d10.df (P:=l.prog) (w:=w) (base:=base) X G b10 (Ey d10.fn T W8 W9);have W11:=λn=>d11.df (P:=l.prog) (w:=w) (base:=base) X G b11 (wV d11.fn T b11 (Pi X G d11.ns) n);have W12:=d12.df (P:=l.prog) (w:=w) (base:=base) X G b12 (Cn 8 d12.fn T (W11 8));have W13:=d13.df (P:=l.prog) (w:=w) (base:=base) X G b13 (EA d13.fn W6 W10 W7 W12);have W14:=λn=>d14.df (P:=l.prog) (w:=w) (base:=base) X G b14 (rK d14.fn T c mk.mt Fk bk b14 (Pi X G d14.ns) n);have W15:=d15.df (P:=l.prog) (w:=w) (base:=base) X G b15 (Az d15.fn T c M Fi bi mC W2 W3 W14);have W18:=YK.df (P:=l.prog) (w:=w) (base:=base) X G b18 (xm YK.fn TJ);have W19:=YL.df (P:=l.prog) (w:=w) (base:=base) X G b19 (oZ YL.fn TJ);have W20:=YM.df (P:=l.prog) (w:=w) (base:=base) X G b20 (rQ YM.fn TJ W19 W18);have W21:=YN.df (P:=l.prog) (w:=w) (base:=base) X G b21 (CD YN.fn (YN.fn.code X G tj (Pi X G YN.ns)) CH bm TJ TC W18 DP GR (Pi X G WY.ns) WY.fn.kp b17);have W22:=d22.df (P:=l.prog) (w:=w) (base:=base) X G b22 (AU d22.fn T);have W23:=d23.df (P:=l.prog) (w:=w) (base:=base) X G b23 (CU d23.fn W0);have W24:=λn=>d24.df (P:=l.prog) (w:=w) (base:=base) X G b24 (vy d24.fn TR W22 W23 b24 (Pi X G d24.ns) n);have W25:=TQ.df (P:=l.prog) (w:=w) (base:=base) X G b25 (my TQ.fn);have W26:=YO.df (P:=l.prog) (w:=w) (base:=base) X G b26 (xn YO.fn T W25);have W27:=YQ.df (P:=l.prog) (w:=w) (base:=base) X G b27 (o8 YQ.fn T W25);have W28:=YR.df (P:=l.prog) (w:=w) (base:=base) X G b28 (vo YR.fn TK);have W29:=YS.df (P:=l.prog) (w:=w) (base:=base) X G b29 (vp YS.fn TK W25 W28 W27);have W30:=YT.df (P:=l.prog) (w:=w) (base:=base) X G b30 (rX YT.fn TK W29);have W31:=YU.df (P:=l.prog) (w:=w) (base:=base) X G b31 (rY YU.fn W26 W30);have W32:=YV.df (P:=l.prog) (w:=w) (base:=base) X G b32 (AS YV.fn (YV.fn.code X G tw (Pi X G YV.ns)) CW bm DW GR (Pi X G WY.ns) WY.fn.kp b17);have W33:=λn=>d33.df (P:=l.prog) (w:=w) (base:=base) X G b33 (sg d33.fn TR W21 W32 b33 (Pi X G d33.ns) n);have W34:=d34.df (P:=l.prog) (w:=w) (base:=base) X G b34 (C7 d34.fn W2 (W24 4) (W33 4));have W35:=d35.df (P:=l.prog) (w:=w) (base:=base) X G b35 (Gc d35.fn W13 (W24 4) (W33 4) W21);have W36:=d36.df (P:=l.prog) (w:=w) (base:=base) X G b36 (EU d36.fn T);have W37:=d37.df (P:=l.prog) (w:=w) (base:=base) X G b37 (F7 d37.fn T W36);have W38:=d38.df (P:=l.prog) (w:=w) (base:=base) X G b38 (F8 d38.fn T);have W39:=d39.df (P:=l.prog) (w:=w) (base:=base) X G b39 (F9 d39.fn T W38 W37);have W40:=λn=>d40.df (P:=l.prog) (w:=w) (base:=base) X G b40 (A3 d40.fn T b40 (Pi X G d40.ns) n);have W41:=d41.df (P:=l.prog) (w:=w) (base:=base) X G b41 (C0 d41.fn T W40);have W42:=λn=>d42.df (P:=l.prog) (w:=w) (base:=base) X G b42 (vH d42.fn T W37 b42 (Pi X G d42.ns) n);have W43:=λn=>d43.df (P:=l.prog) (w:=w) (base:=base) X G b43 (vI d43.fn T (Rh X G z13) b43 (Pi X G d43.ns) n);exact Gd d44.fn T W37 (W42 4) W34 W38 (W43 4) W39 W41 W15 W35
theorem walk {l:W.OpenLaw}{q:Ng}{loose:List MV}{XP:(MV->Option D')->M4->Prop}{YP:M7->M4->Prop}{d:V6}{K:UX->MZ}(hn:l.most=some 63)(X9:d.params.defaults=[])(hj:((aeQ q).find? (λe:V6=>e.name==("join_books":MV))).isSome=true)(hw:((aeQ q).find? (λe:V6=>e.name==("book_of_walk":MV))).isSome=true)(hY:∀(w:M7) (h:M4),YP w h->(K w.params).In h)(F:∀(w:M7) (mg:MV->Option D') (fa:A') (h:M4),(K w.params).In h->h.Ns N5 mg->mg d.name=some (.ref fa)->∃(fd:Nt) (c Pt c' Pw:A'),Ub (K w.params) "join_books"=some (c,Pt)/\((K w.params)).lookup Pt=none/\Ub (K w.params) "book_of_walk"=some (c',Pw)/\((K w.params)).lookup Pw=none/\Pt≠Pw/\(∀(s:J') (v:D'),XD s fd ⟨[v],[]⟩ [("_law_script",v)])/\∀base:M4,((K w.params)).In base->base.Ns N5 mg->QT base c Pt->QT base c' Pw->Bm mg base->Nq l.prog w ((K w.params)) mg base Nb 20 fa fd ["_law_script"] (sU ((K w.params)) Pt Pw)):
  W.WalkO q loose XP YP l.row.toRowW d [] (λf vs=>ac7 f vs):=by
 obtain⟨dj,hj⟩:=SZ.mp hj;obtain⟨dw,hw⟩:=SZ.mp hw;exact L2.Db (n:=63) (k:=20) (x:="_law_script") (xj:="join_books") (xw:="book_of_walk") (CX:=λ_=>Nb) (sp:=λw=>sU (K w.params)) hn (by decide) X9 ⟨rfl,by decide,by decide,rfl⟩ hj hw hY F (λ_ _ a Pt Pw ns hl ne hT TL hS=>⟨a,ns,rfl,hS,⟨ne,⟨#[],hT,trivial,.inl rfl⟩,⟨#[],TL,trivial,.inl rfl⟩⟩,λ_=>rfl⟩) λ_ _ _ _ _ z=>z
end Ord
open PySem PySem.W PyProof.Rows
theorem Vw.af8:((recsOf Vw.jg).find? (λe:V6=>e.name==("join_books":MV))).isSome=true:=by kernel_rfl
theorem Vw.af9:((recsOf Vw.jg).find? (λe:V6=>e.name==("book_of_walk":MV))).isSome=true:=by kernel_rfl
set_option maxRecDepth 100000 in
set_option maxHeartbeats 0 in
theorem PySem.Challenge.cw_ordernest_k30_whole_rules_holds : PySem.Challenge.rw_ordernest_k30_whole_rules.Holds := by
 w_on;refine holds_law (by kernel_rfl) λsaid=>?_
 refine holds_open (q:=Vw.jg) (loose:=["CLOSES","NUMBERS_BEHIND","RULES_BEHIND","JOINS"]) (Xt:=Vw.Xt) (XP:=XL Vw.jg []) (Yf:=Hook.obs Vw.H) (Ya:=Hook.val Vw.H)
  (YP:=Hook.says Vw.H) (N:=5756) Vw.JP (Hook.of Vw.H) (Hook.keeps Vw.H) (λs e=>xl_of s (aeG.mp (id e:(xlAt Vw.jg [] s&&recOk Vw.Dd s)=true)).1) XL.keeps
  (by rfl) (by rfl) (by rfl) (λs e=>recFacts_of (aeG.mp (id e:(xlAt Vw.jg [] s&&recOk Vw.Dd s)=true)).2) (by rfl)
  (by assumption) (by decide +kernel) ⟨rfl,rfl,rfl,rfl,rfl,by decide +kernel⟩ ?hw ?hc
 (case hw=>w_witness2)
 refine Ord.walk (l:=PySem.Challenge.rw_ordernest_k30_whole_rules) rfl rfl Vw.af8 Vw.af9 (λw h Y=>W.kIn_of Y) ?F
 case F=>
  intro w mg fa h KX G X'
  k_fill
  refine' Ord.IL (c0:=229) (Pt:=225) (c1:=303) (Pw:=299) KX G X' (L2.bu ?a0 ?l0 ?c0 ?k0) (L2.bu ?a1 ?l1 ?c1 ?k1) (L2.bu ?a2 ?l2 ?c2 ?k2) (L2.bu ?a3 ?l3 ?c3 ?k3) (L2.bu ?a4 ?l4 ?c4 ?k4) (L2.bu ?a5 ?l5 ?c5 ?k5) (L2.bu ?a6 ?l6 ?c6 ?k6) (L2.bu ?a7 ?l7 ?c7 ?k7) (L2.bu ?a8 ?l8 ?c8 ?k8) (L2.bu ?a9 ?l9 ?c9 ?k9) (L2.bu ?a10 ?l10 ?c10 ?k10) (L2.bu ?a11 ?l11 ?c11 ?k11) (L2.bu ?a12 ?l12 ?c12 ?k12) (L2.bu ?a13 ?l13 ?c13 ?k13) (L2.bu ?a14 ?l14 ?c14 ?k14) (L2.bu ?a15 ?l15 ?c15 ?k15) (L2.bu ?a16 ?l16 ?c16 ?k16) (L2.bu ?a17 ?l17 ?c17 ?k17) (L2.bu ?a18 ?l18 ?c18 ?k18) (L2.bu ?a19 ?l19 ?c19 ?k19) (L2.bu ?a20 ?l20 ?c20 ?k20) (L2.bu ?a21 ?l21 ?c21 ?k21) (L2.bu ?a22 ?l22 ?c22 ?k22) (L2.bu ?a23 ?l23 ?c23 ?k23) (L2.bu ?a24 ?l24 ?c24 ?k24) (L2.bu ?a25 ?l25 ?c25 ?k25) (L2.bu ?a26 ?l26 ?c26 ?k26) (L2.bu ?a27 ?l27 ?c27 ?k27) (L2.bu ?a28 ?l28 ?c28 ?k28) (L2.bu ?a29 ?l29 ?c29 ?k29) (L2.bu ?a30 ?l30 ?c30 ?k30) (L2.bu ?a31 ?l31 ?c31 ?k31) (L2.bu ?a32 ?l32 ?c32 ?k32) (L2.bu ?a33 ?l33 ?c33 ?k33) (L2.bu ?a34 ?l34 ?c34 ?k34) (L2.bu ?a35 ?l35 ?c35 ?k35) (L2.bu ?a36 ?l36 ?c36 ?k36) (L2.bu ?a37 ?l37 ?c37 ?k37) (L2.bu ?a38 ?l38 ?c38 ?k38) (L2.bu ?a39 ?l39 ?c39 ?k39) (L2.bu ?a40 ?l40 ?c40 ?k40) (L2.bu ?a41 ?l41 ?c41 ?k41) (L2.bu ?a42 ?l42 ?c42 ?k42) (L2.bu ?a43 ?l43 ?c43 ?k43) (L2.bu ?a44 ?l44 ?c44 ?k44) ?aS (L2.DM ?ia ?ii ?il ?ic ?ik) (L2.DM ?ka ?ki ?kl ?kcc ?kk) ?pg ?hd ?po ?sa ?ms ?kc ?nR ?nN ?tj ?kp ?tw ?kw ?ne (Ord.Ge KX G ?cna ?csy ?clk ?ck1 ?ck2 ?ck3 ?ck4 ?cq1 ?cq2 ?cq3 ?cq4 ?cq5 ?cq6 ?cq7) ?na ?xo ?m8 ?m0 ?m1 ?m2 ?mb ?z0 ?z1 ?z2 ?z3 ?z4 ?z5 ?z6 ?z7 ?z8 ?z9 ?z10 ?z11 ?z12 ?z13 (λT=>Ord.Gf KX G T ?rzs ?re6 ?reN ?reR ?reJ ?reF ?rsN ?rsR ?rsJ ?rlN ?rlR ?rlJ ?rlF)
  case a0|l0|c0|k0|a1|l1|c1|k1|a2|l2|c2|k2|a3|l3|c3|k3|a4|l4|c4|k4|a5|l5|c5|k5|a6|l6|c6|k6|a7|l7|c7|k7|a8|l8|c8|k8|a9|l9|c9|k9|a10|l10|c10|k10|a11|l11|c11|k11|a12|l12|c12|k12|a13|l13|c13|k13|a14|l14|c14|k14|a15|l15|c15|k15|a16|l16|c16|k16|a17|l17|c17|k17|a18|l18|c18|k18|a19|l19|c19|k19|a20|l20|c20|k20|a21|l21|c21|k21|a22|l22|c22|k22|a23|l23|c23|k23|a24|l24|c24|k24|a25|l25|c25|k25|a26|l26|c26|k26|a27|l27|c27|k27|a28|l28|c28|k28|a29|l29|c29|k29|a30|l30|c30|k30|a31|l31|c31|k31|a32|l32|c32|k32|a33|l33|c33|k33|a34|l34|c34|k34|a35|l35|c35|k35|a36|l36|c36|k36|a37|l37|c37|k37|a38|l38|c38|k38|a39|l39|c39|k39|a40|l40|c40|k40|a41|l41|c41|k41|a42|l42|c42|k42|a43|l43|c43|k43|a44|l44|c44|k44|aS|ia|ii|il|ic|ik|ka|ki|kl|kcc|kk|pg|hd|po|sa|ms|kc|nR|nN=>k_is
  (case tj=>kernel_rfl)
  (case kp=>kernel_rfl)
  (case tw=>kernel_rfl)
  (case kw=>kernel_rfl)
  (case ne=>decide)
  case cna=>k_is
  (case csy=>rfl)
  case clk|ck1|ck2|ck3|ck4|cq1|cq2|cq3|cq4|cq5|cq6|cq7|na=>k_is
  (case xo=>k_exc)
  case m8|m0|m1|m2|mb|z0|z1|z2|z3|z4|z5|z6|z7|z8|z9|z10|z11|z12|z13|rzs|re6|reN|reR|reJ|reF=>k_is
  (case rsN=>rfl)
  (case rsR=>rfl)
  (case rsJ=>rfl)
  case rlN|rlR|rlJ|rlF=>k_is
