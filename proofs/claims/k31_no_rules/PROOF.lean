import PyProof.Rows.All
import Wide.All
import OpenK.AllK
import Wide.FinOn
import Lean
import PyProof.EqAt
import PyProof.EqKinds
import PyProof.TupleCall
import KE.KIsAll
import PyProof.ExcAttrAll.ValueError
import KE.KDictList
import KE.KDictLaws
import PyProof.Rows.SortShellK
import PySem.SetOps
import PyProof.SetScanFacts
import PyProof.Rows.SetFrom
import PyProof.DictRoadsH
import KE.KDictOf
import PySem.Challenge.RW_ordernest_k31_no_rules
open PySem renaming Addr->D',Arguments->Zt,Around->P7,BindsTo->Á,Builtin->S7,DefRec->Zv,DictEntry->Ro,Env->RD,Expr->PZ,FuncData->P5,GenState->À,Heap->Ps,IsPart->Yn,Model->Xz,NameKind->Wn,Obj->J',OsState->RM,Paired->PR,Params->Yo,PassesOwn->ö,Pos->Qp,Program->PU,Within->ø,call->ĸ,mem_of_lookup->Uf,Scope->Su,SetTable->QZ,Shared->N',Stmt->PD,Str->M',Tok->Sh,Value->G',World->Pz,bootBuiltins->SF,builtinLookup_eq_fast->Ĺ,cLine->Qv,call_meets->Â,codeAny_builtin->VJ,codeAny_call_builtin->ĺ,codeAny_mono->Xq,compareOp->R9,entryFor_alias->Ļ,isSubtype_type->Ï,lookup_relabel_local->ù,mainGlobals->Qq,model->Px,noFill_tuple_add->ļ,plainId_quiet->Ð,seq_tuple_add->Ľ,sizeLine->PH,sizeLine_eq->QA,slot_dict_contains->ľ,starEach->QX,strLen_append->Ŀ,sysModules->R8,tupleKind_room_in1->ú,typeIs_int->û,typeLookup_type->ŀ,wpAny->Pq,wpAny_Assign_Subscript->Ł,wpAny_Call_Name_kw->τ,wpAny_FormattedValue_repr->ON,wpAny_askSetting->Ñ,wpAny_assign_Name->ü,wpAny_attempt->ł,wpAny_bind->Pm,wpAny_call->Ò,wpAny_callSpecial?_slot->Ó,wpAny_call_entry->UU,wpAny_comprehension_free->OR,wpAny_dictEntries->Ô,wpAny_dictEpoch->VL,wpAny_execs_nil->ý,wpAny_forIn_list->UB,wpAny_holding->Sq,wpAny_isInstance->þ,wpAny_list_append_plain->ST,wpAny_loadPart_at->Õ,wpAny_mono->UY,wpAny_newFunctionEnv->Ń,wpAny_newList->Ã,wpAny_newObj_type->Xl,wpAny_passesOwn->Ö,wpAny_pure->Pu,wpAny_pyIter_list->ń,wpAny_pyIter_tuple->ÿ,wpAny_rule->Tj,wpAny_runValue->Ņ,wpAny_seqItems->Ā,wpAny_sequenceKey->ņ,wpAny_setEntries_of->Ň,wpAny_setField->ň,wpAny_setState_of->SE,wpAny_specialOf->Zf,wpAny_standAt->Ø,wpAny_storeSet_of->Ù,wpAny_truthy_bool->UA,wpAny_typeOf->Zp
open PyProof.Rows renaming AllBare->VO,IntsAre->U1,KK_mirror_equal->ŉ,Keyed->Vm,NonIncK->Vk,KeyKind->To,callWith_type1->Ŋ,entry_list_sort->ŋ,envOfC->Ō,recsOf->ags,slot_list_sort->ō,slot_tuple_getitem->Ŏ,SortKind->aal,SortSt->SS,SortedToK->Ss,args_list_sort->ŏ,arrOf->Qj,get?_update_seq->ā,listItems_at->Ä,listUpdate_at->Ă,mirror_perm->ă,pairsOf_size->Ą,pairsOf_toList->Ő,seqObj->QB,wpS_bind->Rw,wpS_forRange->Å,wpS_get->Æ,wpS_pure->Sz,wpS_reverse->ą
open PySem.Around renaming frames_deeper->agg,under->Ć,under_plainId->Y6
open Array.Perm renaming refl->ő
open Array renaming forIn_toList->Ú,getD->Uj,getElem?_eq_getElem->Vd,getElem?_eq_none->Û,getElem?_eq_some_iff->Xg,getElem?_setIfInBounds_ne->afC,getElem?_setIfInBounds_self_of_lt->afA,getElem?_toList->V',getElem_setIfInBounds->afH,length_toList->RT,mem_toList_iff->ć,perm_iff_toList_perm->Œ,replicate->œ,toList_append->agr,toList_filterMap->Ŕ
open Bool renaming and_eq_true->Tv,and_eq_true_iff->agk,and_false->Ü,eq_false_iff->ŕ,eq_iff_iff->Yg,false_and->Ý,false_eq_true->Q7,false_ne_true->TQ,not_true->Ui,or_eq_true->Ŗ
open PySem.Builtin.Dict renaming updateFrom->af5
open PySem.Builtin.Frozenset renaming addrOf->ŗ,copyOf->Ĉ,isAnySet->Ř,merge->af4,updateFrom->ĉ
open PySem.Builtin.List renaming listExtendWith->afG,listItems->ř,listLengthHint->afI,listTooLong->Ś
open PySem.Builtin.Slice renaming sliceAdjust->ś,sliceApplied->afN,slicePlaces->Ċ
open PySem.Builtin.Tuple renaming tupleExact->ċ,tupleHashOf->Y0,tupleItemsOf->afO
open PySem.Builtin renaming bitAnd->Č,bitOr->č
open PySem.Calls renaming Constant_str->agv,Name_function_global->afL,callWith_builtin->af6,call_function_entry->Ŝ,evalArgs_plain->ŝ,spliced_cons->ρ,spliced_nil->Ş,evalArgs_plain->afQ
open Classical renaming byContradiction->US,propDecidable->Ď
open PySem.Code renaming isFrame->ş,quiet_builtin->Š
open PySem.Expr renaming Constant->UD
open PySem.F renaming slot_gs_get->š,slot_tuple_hash->Þ,typeOf_object_class->Ţ,args_dict_get_3->af1,args_tuple_add_2->ţ,entry_dict_get->af7,entry_tuple_add->Ť,plainAttrs_dict->af2,plainAttrs_list->Xj,plain_list_iadd->af3,plain_set_new->agc,slot_dict_get->ť,slot_dict_getitem->ď,slot_dict_setdefault->afD,slot_list_append->Y2,slot_list_count->afZ,slot_list_index->af0,slot_set_iter->age,slot_set_or->agq,slot_tuple_add->Ŧ,slot_tuple_getattribute->ŧ,type_list_append->Y3
open False renaming elim->SH
open ForInStep renaming yield->Ze
open PySem.Heap.DictOf renaming new->agB
open PySem.Heap renaming SameBut->UX,get?_push_of_some->Qn,get?_push_size->Rb,get?_update_other->ξ,get?_update_self->Đ,lt_size->Qf,size_push->Zg
open PySem.Heap.SameBut renaming update->π
open Int renaming emod_lt_of_pos->Wa,emod_nonneg->Wf,fdiv_eq_ediv_of_nonneg->afM,min_eq_left->Ũ,min_eq_right->ũ,toNat_natCast->UT,toNat_of_nonneg->agp
open Int.ofNat renaming inj->agE
open PyProof.Rows.KeyOrd renaming kle_antisymm->agm,kle_of_klt->đ,kle_refl->Ç,kle_trans->Ē
open List renaming Nodup->È,all_cons->Zk,all_eq_true->Ve,any_cons->Wi,append_assoc->Y',append_eq_nil_iff->aga,append_nil->Vg,drop->SR,drop_zero->ē,eq_nil_iff_forall_not_mem->Ĕ,exists_cons_of_ne_nil->Ū,exists_mem_of_ne_nil->Xi,filterMap_cons->TN,filterMap_cons_none->ĕ,filterMap_cons_some->Y1,filter_append->Ė,filter_cons->ė,filter_cons_of_neg->ß,filter_cons_of_pos->Y4,filter_sublist->Y9,find?_append->Ę,find?_cons->We,find?_cons_of_neg->Y5,find?_cons_of_pos->af9,find?_eq_none->à,find?_nil->ę,flatMap_cons->ū,flatten_cons->á,foldl->Ě,foldl_append->Yc,foldl_cons->Zd,forIn_cons->Ŭ,getD_eq_getElem?_getD->Vc,getElem?_append_left->Xh,getElem?_append_right->YZ,getElem?_cons_zero->ŭ,getElem?_eq_getElem->Q5,getElem?_eq_none->Ů,getElem?_eq_some_iff->Rh,getElem?_inj->ů,getElem?_map->So,getElem?_range->agn,getElem?_replicate->afX,getElem?_set_ne->Ű,getElem?_set_self->ű,getElem?_take_of_lt->Ų,getElem_cons_drop->af8,getElem_mem->Xo,getElem_of_mem->ų,idxOf_append->Ŵ,idxOf_lt_length_of_mem->afJ,length->Xs,length_append->Rt,length_cons->QU,length_drop->â,length_eq_zero_iff->VH,length_erase_of_mem->ŵ,length_filter_le->VI,length_map->Qx,length_nil->Xp,length_pos_iff->Y8,length_pos_of_mem->ã,length_range->Zb,length_replicate->agb,length_singleton->Ŷ,length_take->SO,lookup->Yj,lookup_cons->Ye,map_append->UC,map_congr_left->ä,map_cons->QJ,map_map->Yi,map_nil->å,mem_append->QW,mem_append_left->Ue,mem_append_right->Sc,mem_cons->Qe,mem_cons_of_mem->Qr,mem_cons_self->Qa,mem_erase_of_ne->ŷ,mem_filter->Sd,mem_filterMap->Ug,mem_flatMap->Uh,mem_iff_getElem->ě,mem_iff_getElem?->X',mem_map->Qs,mem_of_find?_eq_some->afS,mem_of_getElem?->Q6,mem_of_mem_take->Ÿ,mem_range->R7,mem_singleton->Ri,nil_prefix->Ź,nodup_append->Xn,nodup_cons->Tw,nodup_nil->Zh,nodup_range->Ĝ,not_mem_nil->Rz,of_mem_zip->ź,pairwise_append->ĝ,pairwise_cons->χ,pairwise_iff_getElem->Ż,pairwise_lt_range->Ğ,pairwise_map->Wc,perm_ext_iff_of_nodup->ż,prefix_append->ψ,prefix_rfl->Th,range->Q3,range_succ->Ž,replicate->Rj,replicate_succ->Y7,replicate_succ'->agh,size_toArray->QI,sum_cons->Zn,take_add_one->Xm,take_append_drop->X9,take_length->UV,take_of_length_le->æ,take_prefix->ž,take_sublist->ğ,take_succ_cons->ſ,zip_cons_cons->υ
open List.Pairwise renaming nil->Yb
open List.Perm renaming eq_of_pairwise->afV,refl->ç,swap->agC
open List.Sublist renaming refl->Ġ
open List.cons renaming inj->agD
open PySem.NameKind renaming free->Zl
open Nat renaming add_assoc->ġ,add_zero->Ģ,eq_of_testBit_eq->aT,eq_zero_or_pos->bY,le_add_left->dO,le_max_left->ģ,le_max_right->Ĥ,le_of_ble_eq_true->ĥ,le_of_eq->Zo,le_of_lt->Yh,le_of_not_lt->gV,le_refl->P1,le_succ->Zq,le_trans->RX,lt_irrefl->Wh,lt_of_le_of_lt->iF,lt_of_lt_of_le->Rs,lt_or_ge->SG,lt_succ_of_lt->Za,lt_succ_self->Yd,lt_trans->è,lt_trichotomy->ω,mul_le_mul_right->ο,mul_succ->iN,ne_of_gt->Wj,ne_of_lt->Qw,not_lt_zero->Ħ,pow_le_pow_right->agi,shiftRight_eq_div_pow->afT,sub_self->iS,succ_le_succ->Zc,succ_mul->oF,testBit_two_pow->ago,zero_add->ħ,zero_le->RA
open Ne renaming symm->QC
open PySem.Obj renaming data_mapDictKeys->agj,data_mapFields->Ĩ,isFreed_of_fields->agd,mapFields->oN,mapSeq->Sr,putSet->Zs
open Option renaming getD_none->agy,getD_some->agA,isSome_iff_exists->V9,isSome_map->agx,map_eq_some_iff->Xk,map_none->ĩ,map_some->é,toList_some->ê
open Option.some renaming inj->UW
open Or renaming inl->Q8,inr->Xx
open PySem.Paired renaming length->Zi
open PySem.PassesOwn renaming leaving->oR,never->Wg
open Prod.mk renaming injEq->Ī
open PySem.PyData renaming keyHash->TU
open PyProof.Rows.F renaming entry_set_update_loop->afB,plain_set_update_loop->tO
open PySem.SeqAt renaming EqAt->VM,notIn_tupleAt->agl
open PySem.SeqAt.EqAt renaming int_int->ī,int_str->agt,of_refs->Ĭ,same->ë,str_int->agu
open PySem.SeqAt.RcAt renaming lists->agz,lists_lengths->afW,tuples->ĭ
open PySem.SeqAt.RcNeAt renaming lists->agw,lists_lengths->afP
open PySem.SetTable renaming fill->Vh,fits->Į,roomFor->At,tooFull->AT
open PySem.Shared renaming TypeIs->É
open PySem.Spec renaming bitNot->Zr
open PySem.Str renaming ofString->Vi
open Sum renaming inl->RH,inr->UH
open Sum.inl renaming inj->Ê
open Sum.inr renaming inj->ì
open True renaming intro->Ti
open PySem.Value renaming bool->UE,builtin->Zm,float->By,int->Ru,isInt->Ë,isInt_shape->BY,none->Xu,ref->Qu,str->í,type->TV
open PySem.W renaming CodeHd->TW,Frag->Po,codeIn->î,emptyDict->Xr,excIn->Ì,findIn->RY,fnOf->Wo,funFrames_hide->Do,hasDictIn->į,hideAll->Yl,hideAll_get->Zj,hideAll_none->İ,instObj->Yk,isClsIn->SQ,keepIn->Vj,kia_one->UF,kitOne->UG,kla_obj->ï,looks_findIn->ı,looks_mroIn->Ĳ,mg_none_of->S0,mg_of->Rx,mroIn->QF,nsIn->Q0,of_hideAll->ð,plainGet->ñ,plainGet_of->DO,tabIn->Xw,tabObj->Í,typeIn->VN,boot_heap->Î,items_int->ĳ,looks_pair->Wl,piece_app->UZ,segRun_of->U0
open PySem.W.Fast renaming te10110043849684766642->Ud,te14364793385576792824->Tg,te3399658132070893891->afE,te5923862056798008813->afF,te821141287760084731->afK
open PySem.W.Looks renaming ld->IF
open PySem.Walks renaming tuple->IN
open PySem.World renaming withFollow->Vf,withFollow_self->agf
open PySem.pickOrder renaming go->IS
abbrev Py:=@absurd
abbrev Qd:=@decide_eq_false
abbrev Qk:=@decide_eq_true
abbrev Pr:=@if_neg
abbrev PK:=@if_pos
abbrev Wb:=@of_decide_eq_true
theorem QK {α:Sort u}{β:Sort v}{p q r:α->β->Prop}{C:Prop}(h:∃a b,p a b/\q a b/\r a b)(k:∀a b,p a b->q a b->r a b->C):C:=
 Exists.elim h λa h=>Exists.elim h λb h=>k a b h.1 h.2.1 h.2.2
set_option compiler.extract_closed false
set_option Elab.async false
set_option linter.all false
set_option genSizeOf false
set_option maxRecDepth 100000
set_option maxHeartbeats 4000000
namespace L2
open PySem PySem.Spec PyProof.Rows
abbrev Key:=Sum Int M'
noncomputable def i7:Key->G'->Bool
 | .inl k,v=>Ë k v
 | .inr x,v=>G'.isStrOf x v
noncomputable def F8 (w:Pz):Key->Int
 | .inl k=>hashInt k
 | .inr x=>hashStr w x
theorem ck:∀{k:Key}{v:G'},i7 k v=true->(∃i t,k=RH i/\v=Ru i t)\/(∃x t,k=UH x/\v=í x t)
 | .inl i,v,h=>by
  obtain⟨t,e⟩:=BY (k:=i) (v:=v) h;exact .inl ⟨i,t,rfl,e⟩
 | .inr x,v,h=>by
  obtain⟨t,e⟩:=G'.isStrOf_shape (x:=x) (v:=v) h;exact .inr ⟨x,t,rfl,e⟩
theorem qK (i:Int)(t):i7 (.inl i) (.int i t)=true:=by simp[i7,Ë]
theorem zH (x)(t):i7 (.inr x) (.str x t)=true:=by simp[i7,G'.isStrOf]
theorem F9 (a b:Int):decide ((RH a:Key)=RH b)=(a==b):=by
 by_cases e:a=b
 .subst e;simp
 .have h:¬(RH a:Key)=RH b:=λq=>e (Ê q);rw[Qd h];exact(beq_eq_false_iff_ne.mpr e).symm
theorem Ga (a b):decide ((UH a:Key)=UH b)=decide (a=b):=by
 by_cases e:a=b
 .subst e;simp
 .have h:¬(UH a:Key)=UH b:=λq=>e (ì q);rw[Qd h,Qd e]
theorem Gb (a:Int)(b):decide ((RH a:Key)=UH b)=false:=Qd (λq=>nomatch q)
theorem Gc (a)(b:Int):decide ((UH a:Key)=RH b)=false:=Qd (λq=>nomatch q)
noncomputable def aY (prog)(w):PySem.KeyKind prog w Key where
 is:=i7
 hash:=F8 w
 inj:=λv a b ha hb=>by
  rcases ck ha with⟨i,t,rfl,rfl⟩|⟨x,t,rfl,rfl⟩
  .rcases ck hb with⟨j,u,rfl,e⟩|⟨y,u,rfl,e⟩
   .injection e with e1 _;rw[e1]
   .exact nomatch e
  .rcases ck hb with⟨j,u,rfl,e⟩|⟨y,u,rfl,e⟩
   .exact nomatch e
   .injection e with e1 _;rw[e1]
 byValue:=λk v h=>by
  rcases ck h with⟨i,t,rfl,rfl⟩|⟨x,t,rfl,rfl⟩ <;> rfl
 pyHash:=λhv h=>by
  rcases ck hv with⟨i,t,rfl,rfl⟩|⟨x,t,rfl,rfl⟩
  .exact wpAny_pyHash_int h
  .exact wpAny_pyHash_str h
 eqBool:=λhu hv h=>by
  rcases ck hu with⟨i,t,rfl,rfl⟩|⟨x,t,rfl,rfl⟩
  .rcases ck hv with⟨j,u,rfl,rfl⟩|⟨y,u,rfl,rfl⟩
   .rw[F9] at h;exact wpAny_eqBool_int h
   .rw[Gb] at h;exact agt i t y u _ _ _ _ h
  .rcases ck hv with⟨j,u,rfl,rfl⟩|⟨y,u,rfl,rfl⟩
   .rw[Gc] at h;exact agu x t j u _ _ _ _ h
   .rw[Ga] at h;exact wpAny_eqBool_str h
 «strs»:=λk x t v h=>by
  rcases ck h with⟨i,u,rfl,e⟩|⟨y,u,rfl,e⟩
  .exact nomatch e
  .injection e with e1 _
   subst e1;cases v <;> rfl
theorem yd (prog)(w)(k)(v):(aY prog w).is k v=i7 k v:=rfl
theorem wv (prog)(w)(i:Int)(t):(aY prog w).is (.inl i) (.int i t)=true:=qK i t
theorem bS (prog)(w)(x)(t):(aY prog w).is (.inr x) (.str x t)=true:=zH x t
inductive V where
 | Qb|bl (b:Bool)|int (i:Int)|str (x:M')|Zz (b:Array UInt8)|Yw (b:UInt64)|ref (a:D')|ty (n:String)
 deriving DecidableEq
def aI:V->G'->Prop
 | .Qb,u=>u=Xu
 | .bl b,u=>u=UE b
 | .int i,u=>∃t,u=Ru i t
 | .str x,u=>∃t,u=í x t
 | .Zz b,u=>∃t,u=G'.bytes b t
 | .Yw b,u=>∃t,u=By b t
 | .ref a,u=>u=Qu a
 | .ty n,u=>u=TV n
abbrev aL:List V->List G'->Prop:=PR aI
theorem aL.length (r:aL xs us):xs.length=us.length:=Zi r
theorem aL.get:∀{xs:List V}{us:List G'}{i:Nat}{x:V},aL xs us->xs[i]?=some x->∃u,us[i]?=some u/\aI x u
 | _,_,_,_,.nil,e=>by simp at e
 | _,_,0,_,.cons r _,e=>by simp at e;subst e;exact⟨_,rfl,r⟩
 | _,_,i+1,x,.cons _ t,e=>by
  obtain⟨u,b,c⟩:=aL.get (i:=i) (x:=x) t (by simpa using e);exact⟨u,by simpa using b,c⟩
theorem aL.append:∀{xs ys:List V}{us ws:List G'},aL xs us->aL ys ws->aL (xs++ys) (us++ws)
 | _,_,_,_,.nil,s=>s
 | _,_,_,_,.cons r t,s=>.cons r (aL.append t s)
theorem aL.take:∀{xs:List V}{us:List G'}(n:Nat),aL xs us->aL (xs.take n) (us.take n)
 | _,_,0,_=>.nil
 | _,_,_+1,.nil=>.nil
 | _,_,n+1,.cons r t=>.cons r (aL.take n t)
theorem aL.drop:∀{xs:List V}{us:List G'}(n:Nat),aL xs us->aL (xs.drop n) (us.drop n)
 | _,_,0,r=>r
 | _,_,_+1,.nil=>.nil
 | _,_,n+1,.cons _ t=>aL.drop n t
def eK:Option V->Option G'->Prop
 | some v,some u=>aI v u
 | none,none=>True
 | _,_=>False
def KV {κ:Type}:List (κ×V)->List (κ×G')->Prop:=PR λ(p:κ×V) (q:κ×G')=>p.1=q.1/\aI p.2 q.2
noncomputable def kV:Key->V
 | .inl i=>.int i
 | .inr x=>.str x
inductive HO where
  | lst (xs:List V)
  | tup (xs:List V)
  | dK (kvs:List (Key×V))|dT (kvs:List (List Key×V))
  | set (S:Int->Bool) (n:Nat)
  | ins (C dx:D') (fs:List (M'×V))
  | own (x:D')
  | xd (fs:List (M'×V))
  | met (f x:D')
  | Wv (lo hi:Int)
  | Q2 (o:J') (u:HO)
  | Sw (ps:Array G')
  | ext (φ:Ps->Prop)
abbrev Hp:=D'->Option HO
noncomputable def upd (H:Hp)(a:D')(o:HO):Hp:=λb=>if b=a then some o else H b
theorem ak:upd H a o a=some o:=by unfold upd;rw[PK rfl]
theorem al (h:b≠a):upd H a o b=H b:=by unfold upd;rw[Pr h]
theorem pP:upd (upd H a o) a u=upd H a u:=by
 funext b;unfold upd;split <;> rfl
theorem i8 {H:Hp}(h:H a=some o)(h':H b=some u)(d:o≠u):a≠b:=by
 intro e;subst e;rw[h] at h';exact d (UW h')
theorem ax {H:Hp}(h:H a=some o)(h':H b=none):a≠b:=by
 intro e;subst e;rw[h] at h';cases h'
def fA (h:Ps)(a:D')(items:Array G'):Prop:=∃o,h.get? a=some o/\o.cls=.type "tuple"/\∃n,o.data=.seq items n/\o.dict=none
theorem fA.tup (x:fA h a items):IsTup h a items:=let ⟨o,e,c,n,d,_⟩:=x;⟨o,e,c,n,d⟩
theorem fA.new (h:Ps)(items:Array G'):fA (h.push { cls:=.type "tuple",data:=.seq items }) h.objs.size items:=⟨_,Rb _ rfl,rfl,_,rfl,rfl⟩
section
variable (P:PU) (w:Pz)
def bt (H:Hp)(h:Ps)(a:D'):HO->Prop
 | .lst xs=>xs.length<=PH/\∃(Pp:List G') (n:Nat),aL xs Pp/\h.get? a=some { cls:=.type "list",data:=.seq Pp.toArray n }
 | .tup xs=>xs.length<=PH/\∃Pp:List G',aL xs Pp/\fA h a Pp.toArray
 | .dK kvs=>kvs.length<=PH/\(a==R8)=false/\∃vs,KV kvs vs/\h.DictOf (aY P w) a vs
 | .dT kvs=>kvs.length<=PH/\(a==R8)=false/\∃xs:List (List Key×D'×G'),
   PR (λ(p:List Key×V) (q:List Key×D'×G')=>p.1=q.1/\H q.2.1=some (.tup (p.1.map kV))/\aI p.2 q.2.2) kvs xs/\
   ∃o es ep,h.get? a=some o/\o.ExactDict/\o.data=.dict es ep/\es.toList=xs.map (entryOfKey (tupleKind (aY P w)))/\(xs.map (·.1)).Nodup
 | .set S n=>h.SetOf (intKind P w) a S n
 | .ins C dx fs=>H dx=some (.own a)/\fs.length<=1000/\dx≠a/\h.get? a=some (Yk C dx)/\
   ∃mA,h.Ns1 dx mA/\(∀f,eK (fs.lookup f) (mA f))/\ø mA (fs.map (·.1))
 | .own _=>∃o,h.get? a=some o
 | .xd fs=>∃mA,h.Ns1 a mA/\∀f,eK (fs.lookup f) (mA f)
 | .Wv lo hi=>∃t u v,h.get? a=some { cls:=.type "range",data:=.fields #[.int lo t,.int hi u,.int 1 v] }
 | .Q2 o u=>h.get? a=some o/\bt H h a u
 | .Sw ps=>h.get? a=some { cls:=.none,data:=.fields ps }
 | .met f x=>h.get? a=some (W.methodObj (.ref f) (.ref x))
 | .ext φ=>φ h/\(∃o,h.get? a=some o)/\∀h1 h2:Ps,φ h1->(∀o,h1.get? a=some o->h2.get? a=some o)->φ h2
def Rq (H:Hp)(h:Ps):Prop:=∀a o,H a=some o->bt P w H h a o
end
theorem bt.lt (x:bt P w H h a o):a<h.objs.size:=by
 cases o with
 | lst xs=>obtain⟨_,_,_,_,e⟩:=x;exact Qf e
 | tup xs=>obtain⟨_,_,_,p⟩:=x;exact p.tup.lt
 | dK kvs=>obtain⟨_,_,_,_,o,_,_,e,_⟩:=x;exact Qf e
 | dT kvs=>obtain⟨_,_,_,_,o,_,_,e,_⟩:=x;exact Qf e
 | set S n=>obtain⟨o,_,_,_,e,_⟩:=x;exact Qf e
 | ins C d fs=>obtain⟨_,_,_,e,_⟩:=x;exact Qf e
 | own y=>obtain⟨_,e⟩:=x;exact Qf e
 | xd fs=>obtain⟨_,⟨_,_,_,e,_⟩,_⟩:=x;exact Qf e
 | Wv lo b=>obtain⟨_,_,_,e⟩:=x;exact Qf e
 | Q2 ob u=>obtain⟨e,_⟩:=x;exact Qf e
 | Sw ps=>exact Qf (show h.get? a=some _ from x)
 | met f y=>exact Qf (show h.get? a=some _ from x)
 | ext c=>obtain⟨_,⟨_,e⟩,_⟩:=x;exact Qf e
theorem Paired.acY {α β:Type}{F G:α->β->Prop}:∀{Se:List α}{Sf:List β},PR F Se Sf->(∀a b,F a b->G a b)->PR G Se Sf
 | _,_,.nil,_=>.nil
 | _,_,.cons r t,f=>.cons (f _ _ r) (Paired.acY t f)
theorem bt.Vn (x:bt P w H h a o)(k:∀b u,(b=a\/H b=some (.own a))->h.get? b=some u->h'.get? b=some u)(ho:∀b,H b=some (.own a)->H' b=some (.own a))(ht:∀b xs,H b=some (.tup xs)->H' b=some (.tup xs)):bt P w H' h' a o:=by
 induction o with
 | lst xs=>obtain⟨z,g,n,r,e⟩:=x;exact⟨z,g,n,r,k _ _ (.inl rfl) e⟩
 | tup xs=>obtain⟨z,g,r,ob,e,c⟩:=x;exact⟨z,g,r,ob,k _ _ (.inl rfl) e,c⟩
 | dK kvs=>obtain⟨z,y,vs,r,ob,es,ep,e,c⟩:=x;exact⟨z,y,vs,r,ob,es,ep,k _ _ (.inl rfl) e,c⟩
 | dT kvs=>
  obtain⟨z,y,xs,r,ob,es,ep,e,c⟩:=x;exact⟨z,y,xs,Paired.acY r λp q z=>⟨z.1,ht _ _ z.2.1,z.2.2⟩,ob,es,ep,k _ _ (.inl rfl) e,c⟩
 | set S n=>obtain⟨ob,es,ep,t,e,c⟩:=x;exact⟨ob,es,ep,t,k _ _ (.inl rfl) e,c⟩
 | ins C E fs=>
  obtain⟨d,z,ne,e,j,⟨od,es,ep,m,c⟩,r⟩:=x;exact⟨ho _ d,z,ne,k _ _ (.inl rfl) e,j,⟨od,es,ep,k _ _ (.inr d) m,c⟩,r⟩
 | own y=>obtain⟨ob,e⟩:=x;exact⟨ob,k _ _ (.inl rfl) e⟩
 | xd fs=>obtain⟨j,⟨od,es,ep,e,c⟩,r⟩:=x;exact⟨j,⟨od,es,ep,k _ _ (.inl rfl) e,c⟩,r⟩
 | Wv lo A=>obtain⟨t,u,v,e⟩:=x;exact⟨t,u,v,k _ _ (.inl rfl) e⟩
 | Q2 ob u s=>obtain⟨e,q⟩:=x;exact⟨k _ _ (.inl rfl) e,s q⟩
 | Sw ps=>
  have e:h.get? a=some { cls:=.none,data:=.fields ps }:=x;show h'.get? a=some { cls:=.none,data:=.fields ps };exact k a _ (.inl rfl) e
 | met f y=>
  have e:h.get? a=some (W.methodObj (.ref f) (.ref y)):=x;show h'.get? a=some (W.methodObj (.ref f) (.ref y));exact k a _ (.inl rfl) e
 | ext D=>obtain⟨p,⟨o,e⟩,st⟩:=x;exact⟨st _ _ p λo q=>k _ _ (.inl rfl) q,⟨o,k _ _ (.inl rfl) e⟩,st⟩
theorem Rq.lt (x:Rq P w H h)(e:H a=some o):a<h.objs.size:=(x a o e).lt
theorem Rq.fresh {a:D'}(x:Rq P w H h)(e:h.objs.size<=a):H a=none:=by
 cases q:H a with
 | none=>rfl
 | some u=>exact Py (Rs (x.lt q) e) (Wh _)
theorem Rq.kept (x:Rq P w H h)(k:∀b u,h.get? b=some u->h'.get? b=some u):Rq P w H h':=λa o e=>
 (x a o e).Vn (λb u _ q=>k b u q) (λ_ q=>q) λ_ _ q=>q
theorem Rq.laid {a:D'}(x:Rq P w H h)(k:∀b u,h.get? b=some u->h'.get? b=some u)(hp:h.objs.size<=a)(new:bt P w (upd H a o) h' a o):Rq P w (upd H a o) h':=λb u e=>by
 have f:=x.fresh hp
 by_cases d:b=a
 .subst d;rw[ak] at e;cases e;exact new
 .rw[al d] at e;exact(x b u e).Vn (λc v _ q=>k c v q) (λc q=>by rw[al (ax q f)];exact q) λc xs q=>by rw[al (ax q f)];exact q
def Rd (H:Hp)(a:D')(u:HO):Prop:=H a=some u\/∃o,H a=some (.Q2 o u)
theorem Rd.ok (r:Rd H a u)(x:Rq P w H h):bt P w H h a u:=by
 rcases r with r|⟨o,r⟩
 .exact x a u r
 .obtain⟨_,q⟩:=x a _ r;exact q
def Mut:Option HO->Prop
 | some (.lst _)=>True
 | some (.dK _)=>True
 | some (.dT _)=>True
 | some (.set _ _)=>True
 | some (.ins _ _ _)=>True
 | some (.ext _)=>True
 | _=>False
theorem Rq.write (ok:Rq P w H h)(mu:Mut (H x))(he:e=x\/H e=some (.own x))(k:∀b u,b≠e->h.get? b=some u->h'.get? b=some u)(ZA:∃u,h'.get? e=some u)(new:bt P w (upd H x o') h' x o'):Rq P w (upd H x o') h':=λb u q=>by
 have d:∀c y,H c=some (.own y)->c≠x:=λc y r z=>by subst z;rw[r] at mu;exact mu
 have j:∀c xs,H c=some (.tup xs)->c≠x:=λc xs r z=>by subst z;rw[r] at mu;exact mu
 by_cases g:b=x
 .subst g;rw[ak] at q;cases q;exact new
 .rw[al g] at q
  by_cases f:b=e
  .have m:H b=some (.own x):=by
    rcases he with z|z
    .exact Py (f.trans z) g
    .rw[f];exact z
   rw[q] at m;cases m;obtain⟨v,n⟩:=ZA;exact⟨v,by rw[f];exact n⟩
  .refine(ok b u q).Vn (λc v hc r=>k c v ?_ r) (λc r=>by rw[al (d c b r)];exact r) λc xs r=>by rw[al (j c xs r)];exact r
   rcases hc with rfl|hc
   .exact f
   .rintro rfl;rcases he with z|z
    .exact d c b hc z
    .rw[hc] at z;cases z;exact g rfl
structure Un (fs ex:List D')(H H':Hp)(h h':Ps):Prop where
 keep:∀b o,h.get? b=some o->H b=none->b∉fs->b∉ex->h'.get? b=some o
 slot:∀b o,h.get? b=some o->H b=none->b∈fs->b∉ex->∃sl,h'.get? b=some { o with slots:=sl }
 free:∀b o,h.get? b=some o->H b=none->b∉ex->H' b=none
 there:∀b o,h.get? b=some o->b∉ex->∃o',h'.get? b=some o'
 RC:∀b xs,H b=some (.tup xs)->H' b=some (.tup xs)
 Um:∀b o u,H b=some (.Q2 o u)->H' b=some (.Q2 o u)
 Uo:∀b ps,H b=some (.Sw ps)->∃more,H' b=some (.Sw (ps++more))
theorem Un.any (u:Un fs ex H H1 h h1)(q:h.get? b=some ob)(n:H b=none)(hx:b∉ex):∃sl,h1.get? b=some { ob with slots:=sl }:=by
 by_cases c:b∈fs
 .exact u.slot b ob q n c hx
 .exact⟨ob.slots,u.keep b ob q n c hx⟩
theorem Un.kept (k:∀b u,h.get? b=some u->h'.get? b=some u):Un fs ex H H h h':=
 ⟨λb ob q _ _ _=>k b ob q,λb ob q _ _ _=>⟨ob.slots,k b ob q⟩,λ_ _ _ n _=>n,λb ob q _=>⟨ob,k b ob q⟩,λ_ _ q=>q,λ_ _ _ q=>q,λ_ ps q=>⟨#[],by rw[q];simp⟩⟩
theorem Un.refl:Un fs ex H H h h:=Un.kept λ_ _ q=>q
theorem Un.laid (k:∀b u,h.get? b=some u->h'.get? b=some u)(hp:h.objs.size<=a)(hn:H a=none):Un fs ex H (upd H a o) h h' where
 keep:=λb u q _ _ _=>k b u q
 slot:=λb u q _ _ _=>⟨u.slots,k b u q⟩
 free:=λb u q n _=>by rw[al (Qw (Rs (Qf q) hp))];exact n
 there:=λb u q _=>⟨u,k b u q⟩
 RC:=λb xs q=>by rw[al (ax q hn)];exact q
 Um:=λb u xs q=>by rw[al (ax q hn)];exact q
 Uo:=λb ps q=>⟨#[],by rw[al (ax q hn),q];simp⟩
theorem Un.write (mu:Mut (H x))(he:e=x\/H e=some (.own x))(k:∀b u,b≠e->h.get? b=some u->h'.get? b=some u)(ZA:∃u,h'.get? e=some u):Un fs ex H (upd H x o) h h':=by
 have d:∀b,H b=none->b≠x:=λb n z=>by subst z;rw[n] at mu;exact mu
 have g:∀b,H b=none->b≠e:=λb n z=>by
  subst z;rcases he with r|r
  .exact d b n r
  .rw[n] at r;cases r
 have c:∀b u,H b=some u->¬Mut (some u)->b≠x:=λb u q nm z=>by subst z;rw[q] at mu;exact nm mu
 refine⟨λb u q n _ _=>k b u (g b n) q,λb u q n _ _=>⟨u.slots,k b u (g b n) q⟩,λb u q n _=>by rw[al (d b n)];exact n,λb u q _=>?_,
  λb xs q=>by rw[al (c b _ q λz=>z)];exact q,λb u xs q=>by rw[al (c b _ q λz=>z)];exact q,λb ps q=>⟨#[],by rw[al (c b _ q λz=>z),q];simp⟩⟩
 by_cases f:b=e
 .subst f;exact ZA
 .exact⟨u,k b u f q⟩
noncomputable def trk (h:Ps)(H:Hp):List D':=(Q3 h.objs.size).filter λa=>(H a).isSome
noncomputable def gY (h:Ps)(H:Hp):Ps:=Yl h (trk h H)
theorem zI (h)(H):(gY h H).objs.size=h.objs.size:=W.hideAll_size _ _
theorem B7 (e:h.get? b=some o)(n:H b=none):(gY h H).get? b=some o:=
 Zj _ e λc=>by
  have q:(H b).isSome=true:=(Sd.mp c).2;rw[n] at q;simp at q
theorem EI (e:(gY h H).get? b=some o):h.get? b=some o/\H b=none:=by
 have c:h.get? b=some o:=ð (trk h H) e;refine⟨c,?_⟩;cases q:H b with
 | none=>rfl
 | some x=>
  have d:b∈trk h H:=Sd.mpr ⟨R7.mpr (Qf c),by simp[q]⟩;have z:(gY h H).get? b=none:=İ (trk h H) d;rw[z] at e;cases e
structure Mod (K:Po)(mg:M'->Option G')(base:Ps):Prop where
 XE:K.In base
 glob:base.Ns Qq mg
 blt:∃mb,base.Ns builtinsNs mb/\∀x:M',x≠"__name__"->mb x=SF x
 nolimit:base.NoLimit
structure Cx where
 prog:PU
 w:Pz
 K:Po
 mg:M'->Option G'
 base:Ps
 A:P7
 N:List M'
 QY:N'
 Yr:Hp
 env:RD
 outer:List RD
 stack:List RD
 ex:List D'
 fn:M'->Bool
 calm:Bool
 pn:List (D'×J')
 xe:G'->N'->Prop
noncomputable def QS (l:List RD):List D':=l.filterMap (·.frame)
noncomputable abbrev Cx.fs (X:Cx):List D':=QS X.outer
def Vis (sc:Su)(x:M'):Prop:=sc.names.lookup x=some .local \/sc.names.lookup x=some .cell\/sc.names.lookup x=some .free
def Loc (sc:Su)(x:M'):Prop:=sc.names.lookup x=some .local \/sc.names.lookup x=some .cell
def Gd (env:RD)(h:Ps)(m:M'->Option G')(x:M')(u:G'):Prop:=
 (env.kindOf x=some .local /\m x=some u)\/((env.kindOf x=some .cell\/env.kindOf x=some .free)/\∃c,env.cells.lookup x=some c/\h.IsCell c (some u))
structure Cx.Ok (X:Cx):Prop where
 mod:Mod X.K X.mg X.base
 kind:X.env.scope.kind=.function
 glob:X.env.globals=Qq
 blt:X.env.builtins=builtinsNs
 above:X.QY.heap.objs.size<=X.env.locals
 inj:∀x y c,X.env.cells.lookup x=some c->X.env.cells.lookup y=some c->x=y
 has:∀x,(X.env.kindOf x=some .cell\/X.env.kindOf x=some .free)->∃c,X.env.cells.lookup x=some c
 XF:∀x c,X.fn x=true->X.env.cells.lookup x=some c->X.QY.heap.objs.size<=c
 hd:X.calm=true->X.A.handled=none
 frames:X.A.frames=some X.stack
 ZB:X.stack=X.outer\/(X.stack=X.env::X.outer/\X.env.frame=some X.env.locals)
 exf:∀b∈X.ex,b≠X.env.locals/\∀x c,X.env.cells.lookup x=some c->c≠b
 bs:∀b o,X.base.get? b=some o->X.QY.heap.get? b=some o/\X.Yr b=none
 Vt:X.base.objs.size<=X.QY.heap.objs.size
 Up:∀b o,X.base.get? b=some o->b∉X.ex
 Zw:∀b∈X.ex,b∉X.fs
 Tk:X.QY.heap.FunFrames X.base X.outer
 Vu:∀b∈X.fs,X.Yr b=none
structure Inv (X:Cx)(ac:List (D'×J'))(σ:List (Option V))(H:Hp)(s:N'):Prop where
 ok:X.Ok
 os:s.os=X.QY.os
 bare:VO s.gens
 base:Un X.fs X.ex X.Yr H X.QY.heap s.heap
 loc:∃m,s.heap.Ns X.env.locals m/\∀(i:Nat) (x:M') (v:V),X.N[i]?=some x->σ[i]?=some (some v)->Vis X.env.scope x->∃u,aI v u/\Gd X.env s.heap m x u
 cell:∀x c,X.env.cells.lookup x=some c->∃v,s.heap.IsCell c v
 free:H X.env.locals=none
 Tx:∀x c,X.env.cells.lookup x=some c->H c=none
 pin:∀p∈X.pn++ac,s.heap.get? p.1=some p.2/\H p.1=none/\p.1≠X.env.locals/\p.1∉X.fs/\∀v,p.2.data≠.cell v
 PQ:Rq X.prog X.w H s.heap
 len:σ.length=X.N.length
theorem Cx.Ok.ag6 {X:Cx}(ok:X.Ok)(e:X.base.get? b=some o):b∉X.fs:=λc=>by
 have:=(ok.Tk.mem c).1;rw[e] at this;cases this
theorem Inv.bs (I:Inv X ac σ H s):∀b o,X.base.get? b=some o->s.heap.get? b=some o/\H b=none:=λb o e=>
 ⟨I.base.keep b o (I.ok.bs b o e).1 (I.ok.bs b o e).2 (I.ok.ag6 e) (I.ok.Up b o e),I.base.free b o (I.ok.bs b o e).1 (I.ok.bs b o e).2 (I.ok.Up b o e)⟩
theorem Inv.bk (I:Inv X ac σ H s):∀b o,X.base.get? b=some o->s.heap.get? b=some o:=λb o e=>(I.bs b o e).1
theorem Inv.mod (I:Inv X ac σ H s):Mod X.K X.mg X.base:=I.ok.mod
theorem Inv.Re (I:Inv X ac σ H s):X.K.In s.heap:=I.ok.mod.XE.keeps I.bk
theorem Inv.lt (I:Inv X ac σ H s):X.env.locals<s.heap.objs.size:=let ⟨_,hn,_⟩:=I.loc;hn.lt
theorem Inv.sz (I:Inv X ac σ H s):X.QY.heap.objs.size<=s.heap.objs.size:=RX I.ok.above (Yh I.lt)
theorem Inv.afa (I:Inv X ac σ H s){a:D'}(h:s.heap.objs.size<=a):a∉X.fs:=λc=>by
 obtain⟨_,o,b,_⟩:=I.ok.Tk.mem c;exact Py (Rs (Qf b) (RX I.sz h)) (Wh _)
theorem Inv.VW (I:Inv X ac σ H s):∀x c,X.env.cells.lookup x=some c->c≠X.env.locals:=λx c e z=>by
 obtain⟨v,o,b,hd⟩:=I.cell x c e;obtain⟨m,⟨g,es,ep,d,f,_⟩,_⟩:=I.loc;rw[z,d] at b;cases b;rw[f] at hd;cases hd
theorem Inv.Tk (I:Inv X ac σ H s):s.heap.FunFrames X.base X.outer:=by
 have all:∀(l:List RD),(∀b∈QS l,b∈X.fs)->X.QY.heap.FunFrames X.base l->s.heap.FunFrames X.base l:=by
  intro l
  induction l with
  | nil=>intro _ _;trivial
  | cons env r ih=>
   intro g h;obtain⟨n,⟨L,o,f,m,p,hd⟩,j⟩:=h;have d:L∈X.fs:=g L (by unfold QS;rw[TN,f];exact Qa);obtain⟨t,e⟩:=I.base.slot L o p (I.ok.Vu L d) d λz=>I.ok.Zw L z d;exact⟨n,⟨L,_,f,m,e,hd⟩,ih (λb c=>g b (by unfold QS;rw[TN,f];exact Qr _ c)) j⟩
 exact all X.outer (λ_ c=>c) I.ok.Tk
theorem Inv.stack (I:Inv X ac σ H s):s.heap.FunFrames X.base X.stack:=by
 rcases I.ok.ZB with e|⟨e,c⟩
 .rw[e];exact I.Tk
 .rw[e];obtain⟨m,b,_⟩:=I.loc;refine .cons (by rw[I.ok.kind];decide) c b ?_ I.Tk;exact Ps.get?_none_of_le (RX I.ok.Vt I.ok.above)
theorem Inv.Vl (I:Inv X ac σ H s):∀b∈QS X.stack,b∈X.env.locals::X.fs:=λb c=>by
 rcases I.ok.ZB with e|⟨e,d⟩
 .rw[e] at c;exact Qr _ c
 .rw[e] at c;unfold QS at c;rw[TN,d] at c;exact c
theorem Inv.abk (I:Inv X ac σ H s):∀b∈QS X.stack,H b=none:=λb hb=>by
 rcases Qe.mp (I.Vl b hb) with e|hb
 .rw[e];exact I.free
 .obtain⟨_,o,c,_⟩:=I.ok.Tk.mem hb;exact I.base.free b o c (I.ok.Vu b hb) λz=>I.ok.Zw b z hb
variable {X:Cx}{ac:List (D'×J')}{σ:List (Option V)}{H:Hp}{H':Hp}{s:N'}{h':Ps} in
theorem Inv.step {g':Array À}{t':Nat}{d':Drawn}{ch:List D'}(I:Inv X ac σ H s)(Sx:∀b∈ch,(b∈X.ex\/X.QY.heap.objs.size<=b)/\b≠X.env.locals/\(∀x c,X.env.cells.lookup x=some c->c≠b)/\∀p∈X.pn++ac,p.1≠b)(keep:∀b o,b≠X.env.locals->b∉X.fs->b∉ch->s.heap.get? b=some o->H b=none->h'.get? b=some o)(slot:∀b o,b≠X.env.locals->b∈X.fs->b∉ch->s.heap.get? b=some o->H b=none->∃sl,h'.get? b=some { o with slots:=sl })(free:∀b o,b∉ch->s.heap.get? b=some o->H b=none->H' b=none)(there:∀b o,b∉ch->s.heap.get? b=some o->∃o',h'.get? b=some o')(RC:∀b xs,H b=some (.tup xs)->H' b=some (.tup xs))(Um:∀b o u,H b=some (.Q2 o u)->H' b=some (.Q2 o u))(Uo:∀b ps,H b=some (.Sw ps)->∃more,H' b=some (.Sw (ps++more)))(ns:∀m,s.heap.Ns X.env.locals m->h'.Ns X.env.locals m)(PQ:Rq X.prog X.w H' h')(hg:VO g'):
  Inv X ac σ H' { s with heap:=h',gens:=g',drawn:=d',toks:=t' }:=by
 have E:∀b o,X.QY.heap.get? b=some o->b≠X.env.locals:=λb o e=>Qw (Rs (Qf e) I.ok.above);have A:∀b o,X.QY.heap.get? b=some o->b∉X.ex->b∉ch:=λb o e f h=>by
  rcases(Sx b h).1 with z|z
  .exact f z
  .exact Py (Rs (Qf e) z) (Wh _)
 have cellK:∀x c,X.env.cells.lookup x=some c->∀v,s.heap.IsCell c v->h'.IsCell c v:=λx c e v ⟨o,j,hd⟩=>by
  have y:c∉ch:=λz=>(Sx c z).2.2.1 x c e rfl
  by_cases D:c∈X.fs
  .obtain⟨sl,q⟩:=slot c o (I.VW x c e) D y j (I.Tx x c e);exact⟨_,q,hd⟩
  .exact⟨o,keep c o (I.VW x c e) D y j (I.Tx x c e),hd⟩
 refine⟨I.ok,I.os,hg,⟨λb o e n h f=>?_,λb o e n h f=>?_,λb o e n f=>?_,λb o e f=>?_,λb xs e=>RC b xs (I.base.RC b xs e),λb o xs e=>Um b o xs (I.base.Um b o xs e),λb ps e=>?_⟩,?_,λx c e=>?_,?_,λx c e=>?_,λp F=>?_,PQ,I.len⟩
 .exact keep b o (E b o e) h (A b o e f) (I.base.keep b o e n h f) (I.base.free b o e n f)
 .obtain⟨sl,g⟩:=I.base.slot b o e n h f;obtain⟨O,t⟩:=slot b _ (E b o e) h (A b o e f) g (I.base.free b o e n f);exact⟨O,t⟩
 .obtain⟨o',g⟩:=I.base.there b o e f;exact free b o' (A b o e f) g (I.base.free b o e n f)
 .obtain⟨o',g⟩:=I.base.there b o e f;exact there b o' (A b o e f) g
 .obtain⟨M,g⟩:=I.base.Uo b ps e;obtain⟨J,t⟩:=Uo b _ g;exact⟨M++J,by rw[t,Array.append_assoc]⟩
 .obtain⟨m,L,G⟩:=I.loc;refine⟨m,ns m L,λi x v g t N=>?_⟩;obtain⟨u,r,l⟩:=G i x v g t N;refine⟨u,r,?_⟩;rcases l with l|⟨k,c,e,z⟩
  .exact .inl l
  .exact .inr ⟨k,c,e,cellK x c e _ z⟩
 .obtain⟨v,z⟩:=I.cell x c e;exact⟨v,cellK x c e v z⟩
 .obtain⟨m,⟨o,_,_,j,_⟩,_⟩:=I.loc;exact free _ o (λz=>(Sx _ z).2.1 rfl) j I.free
 .obtain⟨v,o,j,hd⟩:=I.cell x c e;exact free c o (λz=>(Sx c z).2.2.1 x c e rfl) j (I.Tx x c e)
 .obtain⟨e,n,ne,C,d⟩:=I.pin p F;have y:p.1∉ch:=λz=>(Sx p.1 z).2.2.2 p F rfl;exact⟨keep p.1 p.2 ne C y e n,free p.1 p.2 y e n,ne,C,d⟩
theorem Inv.un {t':Nat}(I:Inv X ac σ H s)(u:Un X.fs [] H H' s.heap h')(PQ:Rq X.prog X.w H' h'):Inv X ac σ H' { s with heap:=h',toks:=t' }:=by
 obtain⟨m,⟨o,es,ep,f,r⟩,_⟩:=id I.loc;obtain⟨y,t⟩:=u.any f I.free (by simp);exact I.step (g':=s.gens) (d':=s.drawn) (ch:=[]) (λ_ z=>nomatch z) (λb o _ c _ e n=>u.keep b o e n c (by simp)) (λb o _ c _ e n=>u.slot b o e n c (by simp)) (λb o _ e n=>u.free b o e n (by simp)) (λb o _ e=>u.there b o e (by simp)) u.RC u.Um u.Uo (λx j=>by
  obtain⟨v,h,p,d,g⟩:=j;rw[f] at d;cases d;exact⟨_,h,p,t,g⟩) PQ I.bare
theorem Inv.call {t':Nat}{d':Drawn}(I:Inv X ac σ H s)(u:Un (QS X.stack) ch H H' s.heap h')(PQ:Rq X.prog X.w H' h')(hg:VO g')(Sx:∀b∈ch,(b∈X.ex\/X.QY.heap.objs.size<=b)/\b≠X.env.locals/\(∀x c,X.env.cells.lookup x=some c->c≠b)/\∀p∈X.pn++ac,p.1≠b):
  Inv X ac σ H' { s with heap:=h',gens:=g',drawn:=d',toks:=t' }:=by
 obtain⟨m,⟨o,es,ep,h,r⟩,_⟩:=id I.loc;obtain⟨E,f⟩:=u.any h I.free λz=>(Sx _ z).2.1 rfl;exact I.step (ch:=ch) Sx (λb o f A d e n=>u.keep b o e n (λz=>(Qe.mp (I.Vl b z)).elim f A) d) (λb o _ _ d e n=>u.any e n d) (λb o d e n=>u.free b o e n d) (λb o d e=>u.there b o e d) u.RC u.Um u.Uo (λD v=>by
  obtain⟨C,t,y,g,j⟩:=v;rw[h] at g;cases g;exact⟨_,t,y,f,j⟩) PQ hg
theorem Inv.turned {t':Nat}(I:Inv X ac σ H s)(k:∀b o,b≠it->s.heap.get? b=some o->h'.get? b=some o)(hn:H it=none)(hL:it≠X.env.locals)(h1:it∈X.ex\/X.QY.heap.objs.size<=it)(h2:∀x c,X.env.cells.lookup x=some c->c≠it)(h3:∀p∈X.pn++ac,p.1≠it):Inv X ac σ H { s with heap:=h',toks:=t' }:=by
 have f:∀b u,H b=some u->b≠it:=λb u e z=>by rw[z,hn] at e;cases e
 refine I.step (g':=s.gens) (d':=s.drawn) (ch:=[it]) (λb h=>?_) (λb o _ _ d e _=>k b o (λz=>d (by simp[z])) e) (λb o _ _ d e _=>⟨o.slots,k b o (λz=>d (by simp[z])) e⟩) (λ_ _ _ _ n=>n)
  (λb o d e=>⟨o,k b o (λz=>d (by simp[z])) e⟩) (λ_ _ e=>e) (λ_ _ _ e=>e) (λb ps e=>⟨#[],by rw[e];simp⟩) (λm g=>?_) (λb u e=>?_) I.bare
 .have e:b=it:=by simpa using h
  subst e;exact⟨h1,hL,h2,h3⟩
 .obtain⟨o,es,ep,j,r⟩:=g;exact⟨o,es,ep,k _ o (QC hL) j,r⟩
 .refine(I.PQ b u e).Vn (λc v d q=>k c v ?_ q) (λ_ q=>q) λ_ _ q=>q;rcases d with z|z
  .rw[z];exact f b u e
  .exact f c _ z
theorem Inv.tok (I:Inv X ac σ H s)(t:Nat):Inv X ac σ H { s with toks:=t }:=I.un (h':=s.heap) (t':=t) Un.refl I.PQ
theorem Inv.kept {t':Nat}(I:Inv X ac σ H s)(k:∀b u,s.heap.get? b=some u->h'.get? b=some u):Inv X ac σ H { s with heap:=h',toks:=t' }:=I.un (Un.kept k) (I.PQ.kept k)
theorem Inv.laid {a:D'}{t':Nat}(I:Inv X ac σ H s)(k:∀b u,s.heap.get? b=some u->h'.get? b=some u)(hp:s.heap.objs.size<=a)(new:bt X.prog X.w (upd H a o) h' a o):
  Inv X ac σ (upd H a o) { s with heap:=h',toks:=t' }:=I.un (Un.laid k hp (I.PQ.fresh hp)) (I.PQ.laid k hp new)
theorem Inv.write {t':Nat}(I:Inv X ac σ H s)(mu:Mut (H x))(he:e=x\/H e=some (.own x))(k:∀b u,b≠e->s.heap.get? b=some u->h'.get? b=some u)(ZA:∃u,h'.get? e=some u)(new:bt X.prog X.w (upd H x o) h' x o):Inv X ac σ (upd H x o) { s with heap:=h',toks:=t' }:=I.un (Un.write mu he k ZA) (I.PQ.write mu he k ZA new)
theorem Inv.Zu (I:Inv X ac σ H s)(h:∀p∈Wr,s.heap.get? p.1=some p.2/\H p.1=none/\p.1≠X.env.locals/\p.1∉X.fs/\∀v,p.2.data≠.cell v):Inv X Wr σ H s:=
 ⟨I.ok,I.os,I.bare,I.base,I.loc,I.cell,I.free,I.Tx,λp b=>(QW.mp b).elim (λz=>I.pin p (Ue _ z)) (h p),I.PQ,I.len⟩
theorem ny {N:List M'}(hN:N.Nodup){i j:Nat}{x:M'}(a:N[i]?=some x)(b:N[j]?=some x):i=j:=by
 obtain⟨f,c⟩:=Rh.mp a;obtain⟨e,d⟩:=Rh.mp b;exact(List.getElem_inj hN).mp (c.trans d.symm)
theorem qL (I:Inv X ac σ H s)(hN:X.N.Nodup)(hi:X.N[i]?=some x)(hx:Loc X.env.scope x)(r:aI v u)(h:∀s',Inv X ac (σ.set i (some v)) H s'->(∃a,UX a s.heap s'.heap/\(a=X.env.locals\/X.env.cells.lookup x=some a))->Q () s')(hf:X.fn x=true\/X.env.scope.names.lookup x=some .local :=by first|exact .inl rfl|exact .inr rfl|assumption):Pq M A (storeName X.env x u) Q E s:=by
 obtain⟨m,W,hl⟩:=id I.loc;have Z:(X.env.scope.kind==.class ||(X.env.scope.kind==.module&&X.env.locals != X.env.globals))=false:=by rw[I.ok.kind];rfl
 have G:i<σ.length:=by rw[I.len];exact(Rh.mp hi).1
 have VW:=I.VW;have tracked:∀{a:D'}{h':Ps},(∃o,s.heap.get? a=some o/\H a=none)->UX a s.heap h'->Rq X.prog X.w H h':=λ{a h'} ha f b ob e=>by
  obtain⟨_,_,O⟩:=ha;refine(I.PQ b ob e).Vn (λc R hc q=>(f.2 c ?_).trans q) (λ_ q=>q) λ_ _ q=>q;rintro rfl;rcases hc with rfl|hc
  .rw[O] at e;cases e
  .rw[O] at hc;cases hc
 rcases hx with hk|hk
 .refine wpAny_storeName_local hk W (λh' hn' f=>?_) Z;obtain⟨oL,_,_,U,_⟩:=id W;refine h _ ⟨I.ok,I.os,I.bare,⟨λb o e n C hx=>?_,λb o e n C hx=>?_,I.base.free,λb o e hx=>?_,I.base.RC,I.base.Um,I.base.Uo⟩,⟨_,hn',λj y v' g t e3=>?_⟩,λy c e=>?_,I.free,I.Tx,λp hp=>?_,tracked ⟨oL,U,I.free⟩ f,by simpa using I.len⟩ ⟨_,f,.inl rfl⟩
  .exact(f.2 b (Qw (Rs (Qf e) I.ok.above))).trans (I.base.keep b o e n C hx)
  .obtain⟨sl,g⟩:=I.base.slot b o e n C hx;exact⟨sl,(f.2 b (Qw (Rs (Qf e) I.ok.above))).trans g⟩
  .obtain⟨T,g⟩:=I.base.there b o e hx;exact⟨T,(f.2 b (Qw (Rs (Qf e) I.ok.above))).trans g⟩
  .by_cases F:j=i
   .subst F;rw[hi] at g;cases g;rw[ű G] at t;cases t;exact⟨u,r,.inl ⟨hk,by simp⟩⟩
   .rw[Ű (QC F)] at t;obtain⟨Y,S,q⟩:=hl j y v' g t e3;refine⟨Y,S,?_⟩;rcases q with⟨k,e⟩|⟨k,c,e,z⟩
    .refine .inl ⟨k,?_⟩;have:y≠x:=λe=>F (ny hN g (e▸hi));simp[this,e]
    .exact .inr ⟨k,c,e,z.sameBut f (VW y c e)⟩
  .obtain⟨R,z⟩:=I.cell y c e;exact⟨R,z.sameBut f (VW y c e)⟩
  .obtain⟨e,n,ne,nf,d⟩:=I.pin p hp;exact⟨(f.2 p.1 ne).trans e,n,ne,nf,d⟩
 .have D:X.fn x=true:=by
   rcases hf with z|z
   .exact z
   .rw[z] at hk;cases hk
  obtain⟨c,hc⟩:=I.ok.has x (.inl hk);obtain⟨R,z⟩:=I.cell x c hc;refine wpAny_storeName_cell I.ok.kind hk hc z (λh' Yz f=>?_);obtain⟨oc,J,ag8⟩:=id z;refine h { s with heap:=h' } ⟨I.ok,I.os,I.bare,⟨λb o e n C hx=>?_,λb o e n C hx=>?_,I.base.free,λb o e hx=>?_,I.base.RC,I.base.Um,I.base.Uo⟩,⟨m,W.sameBut f (QC (VW x c hc)),λj y v' g t e3=>?_⟩,λy P e=>?_,I.free,I.Tx,λp hp=>?_,tracked ⟨oc,J,I.Tx x c hc⟩ f,by simpa using I.len⟩ ⟨c,f,.inr hc⟩
  .exact(f.2 b (Qw (Rs (Qf e) (I.ok.XF x c D hc)))).trans (I.base.keep b o e n C hx)
  .obtain⟨sl,g⟩:=I.base.slot b o e n C hx;exact⟨sl,(f.2 b (Qw (Rs (Qf e) (I.ok.XF x c D hc)))).trans g⟩
  .obtain⟨T,g⟩:=I.base.there b o e hx;exact⟨T,(f.2 b (Qw (Rs (Qf e) (I.ok.XF x c D hc)))).trans g⟩
  .by_cases F:j=i
   .subst F;rw[hi] at g;cases g;rw[ű G] at t;cases t;exact⟨u,r,.inr ⟨.inl hk,c,hc,Yz⟩⟩
   .rw[Ű (QC F)] at t;obtain⟨Y,S,q⟩:=hl j y v' g t e3;refine⟨Y,S,?_⟩;rcases q with q|⟨k,P,e,z'⟩
    .exact .inl q
    .refine .inr ⟨k,P,e,z'.sameBut f ?_⟩;rintro rfl;exact F (ny hN g (I.ok.inj _ _ _ e hc▸hi))
  .by_cases L:P=c
   .subst L;exact⟨_,Yz⟩
   .obtain⟨w2,z2⟩:=I.cell y P e;exact⟨w2,z2.sameBut f L⟩
  .obtain⟨e,n,ne,nf,d⟩:=I.pin p hp;refine⟨(f.2 p.1 ?_).trans e,n,ne,nf,d⟩;intro q;rw[q,J] at e;have q':oc=p.2:=UW e;exact d R (by rw[<-q'];exact ag8)
theorem iI (I:Inv X ac σ H s)(hN:X.N.Nodup)(hi:X.N[i]?=some x)(hx:Loc X.env.scope x)(r:aI v u)(h:∀s',Inv X ac (σ.set i (some v)) H s'->Q () s')(hf:X.fn x=true\/X.env.scope.names.lookup x=some .local :=by first|exact .inl rfl|exact .inr rfl|assumption):Pq M A (storeName X.env x u) Q E s:=
 qL I hN hi hx r (λs' b _=>h s' b) hf
theorem Inv.acR (I:Inv X ac σ H s)(ho:s'.os=s.os)(u:Un (QS X.stack) ch H H' s.heap s'.heap)(PQ:Rq X.prog X.w H' s'.heap)(hg:VO s'.gens)(Sx:∀b∈ch,(b∈X.ex\/X.QY.heap.objs.size<=b)/\b≠X.env.locals/\(∀x c,X.env.cells.lookup x=some c->c≠b)/\∀p∈X.pn++ac,p.1≠b):Inv X ac σ H' s':=by
 obtain⟨h',g',d',t',d⟩:=s';have e:d=s.os:=ho;subst e;exact I.call (g':=g') (t':=t') (d':=d') u PQ hg Sx
abbrev XK:=G'->Option D'->Hp->Prop
abbrev St:=List (Option V)
abbrev VK:=V->Hp->Prop
abbrev TE:=St->Hp->VK->Prop
abbrev TT:=St->Hp->(Bool->Hp->Prop)->Prop
abbrev TA:=St->Hp->(List V->Hp->Prop)->Prop
structure Ends where
 nx:St->Hp->Prop
 rt:VK
 bk:St->Hp->Prop:=λ_ _=>False
 ct:St->Hp->Prop:=λ_ _=>False
abbrev TS:=Ends->St->Hp->Prop
def EP (X:Cx)(ac:List (D'×J'))(σ:St)(Q:VK)(u:G')(s':N'):Prop:=∃v H',Inv X ac σ H' s'/\aI v u/\Q v H'
def TP (X:Cx)(ac:List (D'×J'))(σ:St)(Q:Bool->Hp->Prop)(b:Bool)(s':N'):Prop:=∃H',Inv X ac σ H' s'/\Q b H'
def AP (X:Cx)(ac:List (D'×J'))(σ:St)(Q:List V->Hp->Prop)(us:List G')(s':N'):Prop:=∃vs H',Inv X ac σ H' s'/\aL vs us/\Q vs H'
def SP (X:Cx)(ac:List (D'×J'))(D:Ends)(f:Flow)(s':N'):Prop:=
 match f with
 | .next=>∃Ql H',Inv X ac Ql H' s'/\D.nx Ql H'
 | .brk=>∃Ql H',Inv X ac Ql H' s'/\D.bk Ql H'
 | .cont=>∃Ql H',Inv X ac Ql H' s'/\D.ct Ql H'
 | .ret u=>∃v Ql H',Inv X ac Ql H' s'/\aI v u/\D.rt v H'
def PE (X:Cx)(e:PZ)(t:TE):Prop:=
 ∀(ac:List (D'×J')) (s:N') (σ:St) (H:Hp) (Q:VK),Inv X ac σ H s->t σ H Q->Pq (Px X.prog X.w) X.A (eval e X.env) (EP X ac σ Q) X.xe s
def PT (X:Cx)(e:PZ)(t:TT):Prop:=
 ∀(ac:List (D'×J')) (s:N') (σ:St) (H:Hp) (Q:Bool->Hp->Prop),Inv X ac σ H s->t σ H Q->Pq (Px X.prog X.w) X.A (isTrue e X.env (eval e X.env)) (TP X ac σ Q) X.xe s
def PW (X:Cx)(e:PZ)(t:TT):Prop:=
 ∀(whole:Sem G') (ac:List (D'×J')) (s:N') (σ:St) (H:Hp) (Q:Bool->Hp->Prop),Inv X ac σ H s->t σ H Q->Pq (Px X.prog X.w) X.A (isTrue e X.env whole) (TP X ac σ Q) X.xe s
theorem PW.pt (h:PW X e t):PT X e t:=h _
def PA (X:Cx)(es:List PZ)(t:TA):Prop:=
 ∀(pos:Qp) (ac:List (D'×J')) (s:N') (σ:St) (H:Hp) (Q:List V->Hp->Prop),Inv X ac σ H s->t σ H Q->Pq (Px X.prog X.w) X.A (spliced (backTo pos (QX es X.env))) (AP X ac σ Q) X.xe s
def PS (X:Cx)(st:PD)(t:TS):Prop:=
 ∀(ac:List (D'×J')) (s:N') (σ:St) (H:Hp) (D:Ends),Inv X ac σ H s->t D σ H->Pq (Px X.prog X.w) X.A (exec st X.env) (SP X ac D) X.xe s
def SC (X:Cx)(st:List PD)(t:TS):Prop:=
 ∀(ac:List (D'×J')) (s:N') (σ:St) (H:Hp) (D:Ends),Inv X ac σ H s->t D σ H->Pq (Px X.prog X.w) X.A (execs st X.env) (SP X ac D) X.xe s
theorem PY {α:Type}{t:Sem α}{Q Q':α->N'->Prop}{M:Xz}{A:P7}{E:G'->N'->Prop}{s:N'}(h:Pq M A t Q E s)(hQ:∀a s,Q a s->Q' a s):Pq M A t Q' E s:=UY h hQ λ_ _ x=>x
def eP (i:Nat):TE:=λσ H Q=>∃v,σ[i]?=some (some v)/\Q v H
def tC (v:V):TE:=λ_ H Q=>Q v H
theorem zJ (hN:X.N[i]?=some x)(hv:Vis X.env.scope x)(hd:(x==("__debug__":M'))=false:=by decide)(R5:(x==("__classdict__":M'))=false:=by decide):PE X (.Name x pos) (eP i):=by
 intro ac s n H Q I h;obtain⟨v,e,h⟩:=h;obtain⟨m,j,f⟩:=I.loc;obtain⟨u,r,l⟩:=f i x v hN e hv;have fin:EP X ac n Q u s:=⟨v,H,I,r,h⟩
 rcases l with⟨hk,g⟩|⟨hk,c,d,b⟩
 .exact wpAny_Name (wpAny_loadName_local I.ok.kind hk j g fin) hd
 .rcases hk with hk|hk
  .exact wpAny_Name (wpAny_loadName_cell I.ok.kind hk d b fin) hd
  .exact wpAny_Name (wpAny_loadName_free I.ok.kind hk d b fin R5) hd
theorem ae {i j pos}:PE X (.Constant (.int i) j pos) (tC (.int i)):=λ_ _ _ H _ I h=>wpAny_Constant_int ⟨.int i,H,I.tok _,⟨_,rfl⟩,h⟩
theorem hR {b j pos}:PE X (.Constant (.bool b) j pos) (tC (.bl b)):=λ_ _ _ H _ I h=>Constant_bool ⟨.bl b,H,I,rfl,h⟩
theorem tN {j pos}:PE X (.Constant .none j pos) (tC .Qb):=λ_ _ _ H _ I h=>Constant_none ⟨.Qb,H,I,rfl,h⟩
theorem av {x j pos}:PE X (.Constant (.str x) j pos) (tC (.str x)):=λ_ _ _ H _ I h=>agv ⟨.str x,H,I.tok _,⟨_,rfl⟩,h⟩
def Gl (X:Cx)(x:M'):Prop:=X.env.kindOf x=some .globalImplicit
theorem iw {σ:St}(I:Inv X ac σ H s)(hg:Gl X x)(hm:X.mg x=some u)(h:Q u s)(hd:(x==("__debug__":M'))=false:=by decide):Pq (Px X.prog X.w) X.A (eval (.Name x pos) X.env) Q E s:=
 afL I.ok.kind hg (Calls.loadGlobal_global (by rw[I.ok.glob];exact I.mod.glob.keeps I.bk) hm h) hd
theorem kS {σ:St}(I:Inv X ac σ H s)(hg:Gl X x)(hm:X.mg x=none)(hv:SF x=some u)(h:Q u s)(hn:x≠"__name__":=by decide)(hd:(x==("__debug__":M'))=false:=by decide):Pq (Px X.prog X.w) X.A (eval (.Name x pos) X.env) Q E s:=by
 obtain⟨d,c,b⟩:=I.mod.blt;exact afL I.ok.kind hg (Calls.loadGlobal_builtin (by rw[I.ok.glob];exact I.mod.glob.keeps I.bk) hm (by rw[I.ok.blt];exact c.keeps I.bk) ((b x hn).trans hv) h) hd
theorem aA (hg:Gl X x)(hm:X.mg x=some u)(r:aI v u)(hd:(x==("__debug__":M'))=false:=by decide):PE X (.Name x pos) (tC v):=
 λ_ _ _ H _ I h=>iw I hg hm ⟨v,H,I,r,h⟩ hd
theorem eE (hg:Gl X x)(hm:X.mg x=none)(hv:SF x=some u)(r:aI v u)(hn:x≠"__name__":=by decide)(hd:(x==("__debug__":M'))=false:=by decide):PE X (.Name x pos) (tC v):=
 λ_ _ _ H _ I h=>kS I hg hm hv ⟨v,H,I,r,h⟩ hn hd
def PC (X:Cx)(op:CmpOp)(a b:PZ)(t:TE):Prop:=
 ∀(ac:List (D'×J')) (s:N') (σ:St) (H:Hp) (Q:VK),Inv X ac σ H s->t σ H Q->
  Pq (Px X.prog X.w) X.A (eval a X.env) (λv P8=>Pq (Px X.prog X.w) X.A (eval b X.env) (λu Qy=>Pq (Px X.prog X.w) X.A (R9 op v u) (EP X ac σ Q) X.xe Qy) X.xe P8) X.xe s
def tB (t:TE):TT:=λσ H Q=>t σ H λx H1=>∃c,x=.bl c/\Q c H1
theorem zK (h:PC X op a b t)(h1:behindInMarks op b=false:=by first|exact ahN _ (by decide) (by decide)|rfl):PT X (.Compare a [op] [b] pos) (tB t):=by
 intro ac s j H Q I e;refine wpAny_isTrue_Compare1 (PY (h ac s j H _ I e) λv s1 h1=>PY h1 λu s2 n=>PY n λc s3 o=>QK o λx m g r1 f=>?_) h1;obtain⟨d,rfl,q⟩:=f;cases r1;exact UA ⟨m,g,q⟩
theorem cz (h:PE X e t)(he:∀whole,isTrue e X.env whole=(do let v <-whole;standAt e.pos;holding [v] (truthy v)):=by intro _;rfl):PT X e (tB t):=by
 intro ac s g H Q I b;refine isTrue_plain (PY (h ac s g H _ I b) λv s1 m=>QK m λx j f r1 c=>?_) (he _);obtain⟨d,rfl,q⟩:=c;cases r1;exact UA ⟨j,f,q⟩
def ye (t u:TT):TT:=λσ H Q=>t σ H λc H1=>if c=true then u σ H1 Q else Q false H1
def tOr (t u:TT):TT:=λσ H Q=>t σ H λc H1=>if c=true then Q true H1 else u σ H1 Q
def LP (t:TT):TT:=λσ H Q=>t σ H λc H1=>Q (!c) H1
theorem ix (ha:PT X a tA):PW X (.BoolOp .And [a] pos) tA:=by
 intro d ac s b H Q I h;refine isTrue_and (PY (ha ac s b H Q I h) λc s1 e=>?_);cases c with
 | true=>exact isTrue_and_nil e
 | false=>exact e
theorem fB (ha:PT X a tA):PW X (.BoolOp .Or [a] pos) tA:=by
 intro d ac s b H Q I h;refine isTrue_or (PY (ha ac s b H Q I h) λc s1 e=>?_);cases c with
 | false=>exact isTrue_or_nil e
 | true=>exact e
theorem jy (ha:PT X a tA)(hb:PW X (.BoolOp .And (b::rest) pos) tB'):PW X (.BoolOp .And (a::b::rest) pos) (ye tA tB'):=by
 intro m ac s f H Q I h;refine isTrue_and (PY (ha ac s f H _ I h) λc s1 j=>?_);obtain⟨g,e,d⟩:=j;cases c with
 | true=>exact hb m ac s1 f g Q e d
 | false=>exact⟨g,e,d⟩
theorem gc (ha:PT X a tA)(hb:PW X (.BoolOp .Or (b::rest) pos) tB'):PW X (.BoolOp .Or (a::b::rest) pos) (tOr tA tB'):=by
 intro m ac s f H Q I h;refine isTrue_or (PY (ha ac s f H _ I h) λc s1 j=>?_);obtain⟨g,e,d⟩:=j;cases c with
 | true=>exact⟨g,e,d⟩
 | false=>exact hb m ac s1 f g Q e d
theorem cp (ha:PT X a tA):PT X (.UnaryOp .Not a pos) (LP tA):=by
 intro ac s b H Q I h;exact isTrue_not (ha ac s b H (λc d=>Q (!c) d) I h)
def KC (ta tb:TE):TE:=λσ H Q=>ta σ H λx H1=>∃c,x=.bl c/\if c=true then tb σ H1 Q else Q (.bl false) H1
def LQ (ta tb:TE):TE:=λσ H Q=>ta σ H λx H1=>∃c,x=.bl c/\if c=true then Q (.bl true) H1 else tb σ H1 Q
def KD (ta:TE):TE:=λσ H Q=>ta σ H λx H1=>∃c,x=.bl c/\Q (.bl (!c)) H1
theorem jz {op}(h:PE X a t):PE X (.BoolOp op [a] pos) t:=λac s c H Q I b=>BoolOp_one (h ac s c H Q I b)
theorem iJ (ha:PE X a ta)(hb:PE X (.BoolOp .And (b::rest) pos) tb):PE X (.BoolOp .And (a::b::rest) pos) (KC ta tb):=by
 intro ac s f H Q I h;refine BoolOp_and (PY (ha ac s f H _ I h) λv s1 j=>QK j λx g e r1 d=>?_);obtain⟨c,rfl,d⟩:=d;cases r1;refine UA ?_;cases c with
 | true=>exact hb ac s1 f g Q e d
 | false=>exact⟨.bl false,g,e,rfl,d⟩
theorem DY (ha:PE X a ta)(hb:PE X (.BoolOp .Or (b::rest) pos) tb):PE X (.BoolOp .Or (a::b::rest) pos) (LQ ta tb):=by
 intro ac s f H Q I h;refine BoolOp_or (PY (ha ac s f H _ I h) λv s1 j=>QK j λx g e r1 d=>?_);obtain⟨c,rfl,d⟩:=d;cases r1;refine UA ?_;cases c with
 | false=>exact hb ac s1 f g Q e d
 | true=>exact⟨.bl true,g,e,rfl,d⟩
theorem Ge (ha:PE X a ta):PE X (.UnaryOp .Not a pos) (KD ta):=by
 intro ac s e H Q I h;refine UnaryOp_ (PY (ha ac s e H _ I h) λv s1 g=>QK g λx f d r1 b=>?_);obtain⟨c,rfl,b⟩:=b;cases r1;exact not_of (UA ⟨.bl (!c),f,d,rfl,b⟩)
def tIf (t:TT)(ta tb:TE):TE:=λσ H Q=>t σ H λc H1=>if c=true then ta σ H1 Q else tb σ H1 Q
theorem fH (hc:PT X c tA)(ha:PE X a ta)(hb:PE X b tb):PE X (.IfExp c a b pos) (tIf tA ta tb):=by
 intro ac s e H Q I h;refine wpAny_IfExp (PY (hc ac s e H _ I h) λd s1 m=>?_);obtain⟨j,g,f⟩:=m;cases d with
 | true=>exact ha ac s1 e j Q g f
 | false=>exact hb ac s1 e j Q g f
def PX (K:Po)(H:Hp)(a:D')(xs:List V):Prop:=
 Rd H a (.lst xs)\/
  ∃(o:J') (Pp:Array G') (n:Nat),K.lookup a=some o/\o.cls=.type "list"/\o.dict=none/\o.data=.seq Pp n/\Pp.size<=PH/\aL xs Pp.toList
def PM (K:Po)(H:Hp)(a:D')(xs:List V):Prop:=
 Rd H a (.tup xs)\/
  ∃(o:J') (Pp:Array G') (n:Nat),K.lookup a=some o/\o.cls=.type "tuple"/\o.data=.seq Pp n/\Pp.size<=PH/\aL xs Pp.toList/\o.dict=none
noncomputable def LR:G'->Option V
 | .none=>some .Qb
 | .bool b=>some (.bl b)
 | .int i _=>some (.int i)
 | .str x _=>some (.str x)
 | .bytes b _=>some (.Zz b)
 | .float b _=>some (.Yw b)
 | .ref a=>some (.ref a)
 | .type n=>some (.ty n)
 | _=>none
theorem aI.abs (r:aI x u):LR u=some x:=by
 cases x with
 | Qb=>cases r;rfl
 | bl _=>cases r;rfl
 | int _=>obtain⟨t,rfl⟩:=r;rfl
 | str _=>obtain⟨t,rfl⟩:=r;rfl
 | Zz _=>obtain⟨t,rfl⟩:=r;rfl
 | Yw _=>obtain⟨t,rfl⟩:=r;rfl
 | ref _=>cases r;rfl
 | ty _=>cases r;rfl
theorem aI.inj (r:aI x u)(q:aI y u):x=y:=UW (r.abs.symm.trans q.abs)
theorem aL.inj:∀{xs ys:List V}{us:List G'},aL xs us->aL ys us->xs=ys
 | _,_,_,.nil,.nil=>rfl
 | _,_,_,.cons r t,.cons b t'=>by rw[r.inj b,aL.inj t t']
theorem PX.of {K:Po}(h:H a=some (.lst xs)):PX K H a xs:=.inl (.inl h)
theorem PM.of {K:Po}(h:H a=some (.tup xs)):PM K H a xs:=.inl (.inl h)
theorem Inv.list {σ:St}(I:Inv X ac σ H s)(h:PX X.K H a xs):∃Pp:List G',aL xs Pp/\PlainL s.heap a Pp.toArray/\xs.length<=PH:=by
 rcases h with h|⟨o,Pp,n,b,d,hd,c,hz,r⟩
 .obtain⟨z,Pp,n,r,e⟩:=h.ok I.PQ;exact⟨Pp,r,⟨_,n,e,rfl,rfl,rfl⟩,z⟩
 .refine⟨Pp.toList,r,⟨o,n,I.Re a o b,d,hd,by simpa using c⟩,?_⟩;have e:=r.length;simp only[RT] at e;lia
theorem Inv.tuple {σ:St}(I:Inv X ac σ H s)(h:PM X.K H a xs):∃Pp:List G',aL xs Pp/\IsTup s.heap a Pp.toArray/\xs.length<=PH:=by
 rcases h with h|⟨o,Pp,n,b,d,c,hz,r,_⟩
 .obtain⟨z,Pp,r,p⟩:=h.ok I.PQ;exact⟨Pp,r,p.tup,z⟩
 .refine⟨Pp.toList,r,⟨o,I.Re a o b,d,n,by simpa using c⟩,?_⟩;have e:=r.length;simp only[RT] at e;lia
theorem Inv.acK {σ:St}(I:Inv X ac σ H s)(h:PX X.K H a xs)(h':PX X.K H a ys):xs=ys:=by
 obtain⟨f,r,⟨o,n,e,_,_,d⟩,_⟩:=I.list h;obtain⟨its',c,⟨j,g,b,_,_,d'⟩,_⟩:=I.list h';rw[e] at b;cases b;rw[d] at d';injection d' with d1 _
 have:f=its':=by simpa using congrArg Array.toList d1
 subst this;exact r.inj c
theorem Inv.acI {σ:St}(I:Inv X ac σ H s)(h:PM X.K H a xs)(h':PM X.K H a ys):xs=ys:=by
 obtain⟨f,r,⟨o,e,_,n,d⟩,_⟩:=I.tuple h;obtain⟨its',c,⟨j,b,_,g,d'⟩,_⟩:=I.tuple h';rw[e] at b;cases b;rw[d] at d';injection d' with d1 _
 have:f=its':=by simpa using congrArg Array.toList d1
 subst this;exact r.inj c
noncomputable abbrev Cx.Vo (X:Cx)(E:G'->N'->Prop):Cx:={ X with xe:=E }
noncomputable abbrev Cx.Tz (X:Cx):Cx:=X.Vo λ_ _=>False
theorem Cx.Ok.Vo {X:Cx}(ok:X.Ok)(E:G'->N'->Prop):(X.Vo E).Ok:=
 ⟨ok.mod,ok.kind,ok.glob,ok.blt,ok.above,ok.inj,ok.has,ok.XF,ok.hd,ok.frames,ok.ZB,ok.exf,ok.bs,ok.Vt,ok.Up,ok.Zw,ok.Tk,ok.Vu⟩
theorem Cx.Ok.Wp {X:Cx}(ok:(X.Vo E).Ok):X.Ok:=
 ⟨ok.mod,ok.kind,ok.glob,ok.blt,ok.above,ok.inj,ok.has,ok.XF,ok.hd,ok.frames,ok.ZB,ok.exf,ok.bs,ok.Vt,ok.Up,ok.Zw,ok.Tk,ok.Vu⟩
theorem Inv.Vo {σ:St}(I:Inv X ac σ H s)(E:G'->N'->Prop):Inv (X.Vo E) ac σ H s:=⟨I.ok.Vo E,I.os,I.bare,I.base,I.loc,I.cell,I.free,I.Tx,I.pin,I.PQ,I.len⟩
theorem Inv.Wp {σ:St}(I:Inv (X.Vo E) ac σ H s):Inv X ac σ H s:=⟨I.ok.Wp,I.os,I.bare,I.base,I.loc,I.cell,I.free,I.Tx,I.pin,I.PQ,I.len⟩
theorem SP.Wp (h:SP (X.Vo E) ac D f s'):SP X ac D f s':=by
 cases f with
 | next=>obtain⟨b,c,I,q⟩:=h;exact⟨b,c,I.Wp,q⟩
 | brk=>obtain⟨b,c,I,q⟩:=h;exact⟨b,c,I.Wp,q⟩
 | cont=>obtain⟨b,c,I,q⟩:=h;exact⟨b,c,I.Wp,q⟩
 | ret u=>obtain⟨v,b,c,I,r,q⟩:=h;exact⟨v,b,c,I.Wp,r,q⟩
theorem SC.Tz {st:List PD}(h:SC X.Tz st t):SC X st t:=λac s c H D I b=>
 UY (h ac s c H D (I.Vo _) b) (λ_ _ q=>q.Wp) λ_ _ z=>SH z
def sV:TS:=λD σ H=>D.nx σ H
def kT (t u:TS):TS:=λD σ H=>t { D with nx:=u D } σ H
theorem au:SC X [] sV:=λ_ _ b H _ I h=>ý ⟨b,H,I,h⟩
theorem af {st:PD}(h1:PS X st t)(h2:SC X rest u):SC X (st::rest) (kT t u):=by
 intro ac s d H D I h;refine wpAny_execs_cons (PY (h1 ac s d H { D with nx:=u D } I h) λf s1 q=>?_);cases f with
 | next=>
  obtain⟨b,e,c,q⟩:=q;exact h2 ac s1 b e D c q
 | ret v=>exact q
 | brk=>exact q
 | cont=>exact q
theorem ai {st:PD}(h1:PS X st t):SC X [st] t:=by
 intro ac s b H D I h;refine wpAny_execs_cons (PY (h1 ac s b H D I h) λf s1 q=>?_);cases f with
 | next=>exact ý q
 | ret v=>exact q
 | brk=>exact q
 | cont=>exact q
theorem Inv.quiet {σ:St}(I:Inv X ac σ H s):interactive X.env=false:=by simp[interactive,I.ok.kind]
def KF (te:TE):TS:=λD σ H=>te σ H λ_ H1=>D.nx σ H1
theorem bv (he:PE X e te)(hs:swapsWith e none pos.line X.env=pure false:=by rfl):PS X (.Expr e pos) (KF te):=by
 intro ac s b H D I h;exact wpAny_Expr_any (PY (he ac s b H _ I h) λv s1 g=>QK g λx f d r1 c=>⟨b,f,d,c⟩) I.quiet hs
def nz (te:TE):TS:=λD σ H=>te σ H D.rt
theorem aD (he:PE X e te):PS X (.Return (some e) pos) (nz te):=by
 intro ac s b H D I h;exact wpAny_Return_some (PY (he ac s b H _ I h) λv s1 g=>QK g λx f d r1 c=>⟨x,b,f,d,r1,c⟩)
def KG:TS:=λD _ H=>D.rt .Qb H
theorem pQ:PS X (.Return none pos) KG:=λ_ _ b H _ I h=>wpAny_Return_none ⟨.Qb,b,H,I,rfl,h⟩
def yf (c:TT)(t u:TS):TS:=λD σ H=>c σ H λb H1=>if b=true then t D σ H1 else u D σ H1
theorem aH (hc:PT X c tc)(ha:SC X a t)(hb:SC X b u):PS X (.If c a b pos) (yf tc t u):=by
 intro ac s e H D I h;refine wpAny_If (PY (hc ac s e H _ I h) λd s1 m=>?_);obtain⟨j,g,f⟩:=m;cases d with
 | true=>exact ha ac s1 e j D g f
 | false=>exact hb ac s1 e j D g f
def zL:TS:=λ_ _ _=>False
theorem aK {st:PD}:PS X st zL:=λ_ _ _ _ _ _ h=>h.elim
theorem i9:SC X sts zL:=λ_ _ _ _ _ _ h=>h.elim
abbrev TG:=V->St->Hp->(St->Hp->Prop)->Prop
abbrev YA:=List V->St->Hp->(St->Hp->Prop)->Prop
def PG (X:Cx)(target:PZ)(t:TG):Prop:=
 ∀(ac:List (D'×J')) (s:N') (σ:St) (H:Hp) (v:V) (u:G') (Q:St->Hp->Prop),Inv X ac σ H s->aI v u->t v σ H Q->
  Pq (Px X.prog X.w) X.A (assign target X.env u) (λ_ s'=>∃Ql H',Inv X ac Ql H' s'/\Q Ql H') X.xe s
def PGs (X:Cx)(ts:List PZ)(t:YA):Prop:=
 ∀(ac:List (D'×J')) (s:N') (σ:St) (H:Hp) (vs:List V) (us:List G') (Q:St->Hp->Prop),Inv X ac σ H s->aL vs us->t vs σ H Q->
  Pq (Px X.prog X.w) X.A (assignInOrder ((assignEach ts X.env).map (·.2)) us) (λ_ s'=>∃Ql H',Inv X ac Ql H' s'/\Q Ql H') X.xe s
def yg (i:Nat):TG:=λv σ H Q=>Q (σ.set i (some v)) H
theorem cD (hN:X.N.Nodup)(hi:X.N[i]?=some x)(hx:Loc X.env.scope x)(hf:X.fn x=true\/X.env.scope.names.lookup x=some .local :=by first|exact .inl rfl|exact .inr rfl|assumption):PG X (.Name x pos) (yg i):=by
 intro ac s d H v u Q I r h;exact ü (iI I hN hi hx r (λc b=>⟨_,H,b,h⟩) hf)
def LS:YA:=λvs σ H Q=>vs=[]/\Q σ H
def KH (t:TG)(u:YA):YA:=λvs σ H Q=>∃v r,vs=v::r/\t v σ H λQl H'=>u r Ql H' Q
theorem EJ:PGs X [] LS:=by
 intro ac s b H vs us Q I r h;obtain⟨e,h⟩:=h;subst e;cases r;exact assignInOrder_nil ⟨b,H,I,h⟩
theorem tP (h1:PG X e t)(h2:PGs X es u)(hs:(assignEach (e::es) X.env).map (·.2)=assign e X.env::(assignEach es X.env).map (·.2):=by rfl):PGs X (e::es) (KH t u):=by
 intro ac s j H vs us Q I r h;obtain⟨v,o,d,h⟩:=h;subst d;cases r with
 | cons r b=>
  rw[hs];refine assignInOrder_cons (PY (h1 ac s j H _ _ _ I r h) λ_ s1 f=>?_);obtain⟨n,m,g,c⟩:=f;exact h2 ac s1 n m _ _ Q g b c
def LU (K:Po)(n:Nat)(t:YA):TG:=λv σ H Q=>∃a xs,v=.ref a/\PM K H a xs/\xs.length=n/\t xs σ H Q
theorem Gf (hc:X.calm=true)(h:PGs X es t)(hn:(assignEach es X.env).length=n:=by rfl)(VX:(assignEach es X.env).findIdx? (·.1)=none:=by rfl):PG X (.Tuple es k pos) (LU X.K n t):=by
 intro ac s f H v u Q I r c;obtain⟨a,xs,m,w,g,c⟩:=c;subst m;cases r;obtain⟨y,d,x,hz⟩:=I.tuple w;refine assign_Tuple_tuple (I.ok.hd hc) x (by simp[hn,<-g,d.length]) VX λh' j=>?_;have p:Inv X ac f H { s with heap:=h' }:=I.kept (t':=s.toks) λb o e=>j b o (Qw (Qf e)) e;exact h ac _ f H xs _ Q p (by simpa using d) c
def tQ (te:TE)(g:TG):TS:=λD σ H=>te σ H λx H1=>g x σ H1 D.nx
theorem aQ (hN:X.N.Nodup)(hi:X.N[i]?=some x)(hx:Loc X.env.scope x)(he:PE X e te)(hs:swapsWith e (some (.Name x pos')) pos.line X.env=pure false:=by rfl)(hf:X.fn x=true\/X.env.scope.names.lookup x=some .local :=by first|exact .inl rfl|exact .inr rfl|assumption):
  PS X (.Assign [.Name x pos'] e pos) (tQ te (yg i)):=by
 intro ac s f H D I h;refine wpAny_Assign_Name (PY (he ac s f H _ I h) λv s1 j=>QK j λy g c r1 b=>?_) hs;exact iI c hN hi hx r1 (λs2 d=>⟨_,g,d,b⟩) hf
structure It where
 go:Nat->Hp->Prop
 ZC:Nat->Hp->V->Hp->Prop
 stop:Nat->Hp->Prop
def jn (X:Cx)(ac:List (D'×J'))(H:Hp)(b:D'):Prop:=
 H b=none/\b≠X.env.locals/\b∉X.fs/\(b∈X.ex\/X.QY.heap.objs.size<=b)/\(∀x c,X.env.cells.lookup x=some c->c≠b)/\∀p∈X.pn++ac,p.1≠b
theorem Inv.aaw {X:Cx}{ac:List (D'×J')}{σ:St}{H H':Hp}{s:N'}{b:D'}(I:Inv X ac σ H s)(hb:s.heap.objs.size<=b)(hn:H' b=none):jn X ac H' b:=by
 refine⟨hn,Wj (Rs I.lt hb),I.afa hb,.inr (RX I.sz hb),λx c e z=>?_,λp d z=>?_⟩
 .obtain⟨v,q⟩:=I.cell x c e;exact Py (Rs q.lt (by rw[z];exact hb)) (Wh _)
 .exact Py (Rs (Qf (I.pin p d).1) (by rw[z];exact hb)) (Wh _)
structure Turn (P:PU)(w:Pz)(K:Po)(tg:PZ)(J:It)(fp:List D')(it:D')(tn:Nat->Ps->Prop):Prop where
 mem:it∈fp
 obj:∀i h,tn i h->∀b∈fp,∃o,h.get? b=some o/\∀v,o.data≠.cell v
 keep:∀i h h',tn i h->(∀b∈fp,∀o,h.get? b=some o->h'.get? b=some o)->tn i h'
 item:∀(X:Cx),X.prog=P->X.w=w->X.K=K->X.calm=true->∀(i:Nat) (ac:List (D'×J')) (s:N') (σ:St) (H:Hp) (E:G'->N'->Prop),Inv X ac σ H s->(∀b∈fp,jn X ac H b)->tn i s.heap->J.go i H->
  Pq (Px P w) X.A (pyNext (.ref it)) (λr s1=>∃u,r=some u/\
   Pq (Px P w) X.A (letOwnedTupleGo tg (.ref it) u) (λ_ s2=>∃x H',Inv X ac σ H' s2/\aI x u/\J.ZC i H x H'/\tn (i+1) s2.heap/\∀b∈fp,H' b=none) E s1) E s
 done:∀(X:Cx),X.prog=P->X.w=w->X.K=K->X.calm=true->∀(i:Nat) (ac:List (D'×J')) (s:N') (σ:St) (H:Hp) (E:G'->N'->Prop),Inv X ac σ H s->(∀b∈fp,jn X ac H b)->tn i s.heap->J.stop i H->
  Pq (Px P w) X.A (pyNext (.ref it)) (λr s1=>r=none/\Inv X ac σ H s1) E s
 self:∀(A:P7) (i:Nat) (s:N') (Q:G'->N'->Prop) (E:G'->N'->Prop),tn i s.heap->Q (.ref it) s->Pq (Px P w) A (pyIter (.ref it)) Q E s
abbrev TI:=St->Hp->(It->Hp->Prop)->Prop
def PIE (X:Cx)(ac:List (D'×J'))(σ:St)(tg:PZ)(R:It->Hp->Prop)(itv:G')(s2:N'):Prop:=
 ∃(it:D') (fp:List D') (tn:Nat->Ps->Prop) (J:It) (H':Hp),itv=.ref it/\Inv X ac σ H' s2/\Turn X.prog X.w X.K tg J fp it tn/\tn 0 s2.heap/\(∀b∈fp,jn X ac H' b)/\R J H'
def PI (X:Cx)(tg iter:PZ)(wi:TI):Prop:=
 ∀(ac:List (D'×J')) (s:N') (σ:St) (H:Hp) (R:It->Hp->Prop),Inv X ac σ H s->wi σ H R->
  Pq (Px X.prog X.w) X.A (eval iter X.env) (λv s1=>Pq (Px X.prog X.w) X.A (pyIter v) (PIE X ac σ tg R) X.xe s1) X.xe s
theorem sW (ho:s.heap.get? it=some o)(hc:o.cls=.type n)(hd:o.data=.fields vs)(hn:["enumerate","zip","dict_itemiterator","dict_reverseitemiterator","odict_iterator","itertools.zip_longest","itertools.pairwise"].contains n=false)(hQ:Q () s):Pq M A (letOwnedTupleGo tg (.ref it) u) Q E s:=by
 unfold letOwnedTupleGo;cases tg <;> first
  | exact Pu hQ
  | (cases u <;> first
    | exact Pu hQ
    | (refine Pm (wpAny_load ho ?_);rw[hc,hd];show Pq M A (if (["enumerate","zip","dict_itemiterator","dict_reverseitemiterator","odict_iterator","itertools.zip_longest","itertools.pairwise"].contains n&&vs[0]?==some (rawInt _))=true then _ else _) Q E s;rw[Pr (by intro h;rw[hn,Ý] at h;cases h)];exact Pu hQ))
noncomputable def ZD (K:Po)(a:D'):It:=
 ⟨λi H=>∃xs x,PX K H a xs/\xs[i]?=some x,λi H x H'=>H'=H/\∀xs,PX K H a xs->xs[i]?=some x,λi H=>∃xs,PX K H a xs/\xs.length<=i⟩
noncomputable def ZE (K:Po)(a:D'):It:=
 ⟨λi H=>∃xs x,PM K H a xs/\xs[i]?=some x,λi H x H'=>H'=H/\∀xs,PM K H a xs->xs[i]?=some x,λi H=>∃xs,PM K H a xs/\xs.length<=i⟩
noncomputable def XI (lo:Int)(n:Nat):It:=⟨λi _=>i<n,λi H x H'=>H'=H/\x=.int (lo+i),λi _=>n<=i⟩
theorem zM {K:Po}(a it:D'):Turn P w K tg (ZD K a) [it] it (λi h=>h.IsListIter it a i) where
 mem:=by simp
 obj:=λi h st b f=>by
  have e:b=it:=by simpa using f
  subst e;obtain⟨o,e,c,d⟩:=st;exact⟨o,e,λv z=>by rw[d] at z;cases z⟩
 keep:=λi h h' st k=>st.at λo e=>k it (by simp) o e
 item:=by
  intro X J F L N i ac s O H E I j st C;subst J F L;obtain⟨xs,x,g,y⟩:=C;obtain⟨T,D,p,hz⟩:=I.list g;obtain⟨u,Y,S⟩:=D.get y;obtain⟨n,A,W,G,t,m⟩:=j it (by simp);refine wpAny_pyNext_list_item st p.isList (x:=u) (by simpa using Y) λh' M R=>?_;have Z:Inv X ac O H { s with heap:=h' }:=I.turned (t':=s.toks) (λb o f e=>(R.2 b f).trans e) n A G t m;obtain⟨o,e,c,d⟩:=id M;exact⟨u,rfl,sW (s:={ s with heap:=h' }) e c d (by decide) ⟨x,H,Z,S,⟨rfl,λys Q=>by rw[I.acK Q g];exact y⟩,M,λb f=>(j b f).1⟩⟩
 done:=by
  intro X J F L N i ac s O H E I j st C;subst J F L;obtain⟨xs,g,y⟩:=C;obtain⟨T,D,p,hz⟩:=I.list g;obtain⟨n,A,W,G,t,m⟩:=j it (by simp);have hl:=D.length;exact wpAny_pyNext_list_end (I.ok.hd N) st p.isList (by simp;lia) λh' U=>⟨rfl,I.turned (t':=s.toks) (λb o f e=>U b o f e) n A G t m⟩
 self:=λ_ _ _ _ _ st h=>wpAny_pyIter_listiter st h
theorem yh {K:Po}(a it:D'):Turn P w K tg (ZE K a) [it] it (λi h=>h.IsTupleIter it a i) where
 mem:=by simp
 obj:=λi h st b f=>by
  have e:b=it:=by simpa using f
  subst e;obtain⟨o,e,c,d⟩:=st;exact⟨o,e,λv z=>by rw[d] at z;cases z⟩
 keep:=λi h h' st k=>st.at λo e=>k it (by simp) o e
 item:=by
  intro X L G M O i ac s Q H E I j st D;subst L G M;obtain⟨xs,x,g,A⟩:=D;obtain⟨y,F,p,hz⟩:=I.tuple g;obtain⟨u,Y,T⟩:=F.get A;obtain⟨n,C,W,J,t,m⟩:=j it (by simp);refine wpAny_pyNext_tuple_item st (show s.heap.IsTuple a y.toArray from p) (x:=u) (by simpa using Y) λh' N S=>?_;have Z:Inv X ac Q H { s with heap:=h' }:=I.turned (t':=s.toks) (λb o f e=>(S.2 b f).trans e) n C J t m;obtain⟨o,e,c,d⟩:=id N;exact⟨u,rfl,sW (s:={ s with heap:=h' }) e c d (by decide) ⟨x,H,Z,T,⟨rfl,λys R=>by rw[I.acI R g];exact A⟩,N,λb f=>(j b f).1⟩⟩
 done:=by
  intro X L G M O i ac s Q H E I j st D;subst L G M;obtain⟨xs,g,A⟩:=D;obtain⟨y,F,p,hz⟩:=I.tuple g;obtain⟨n,C,W,J,t,m⟩:=j it (by simp);have hl:=F.length;exact wpAny_pyNext_tuple_end (I.ok.hd O) st (show s.heap.IsTuple a y.toArray from p) (by simp;lia) λh' U=>⟨rfl,I.turned (t':=s.toks) (λb o f e=>U b o f e) n C J t m⟩
 self:=λ_ _ _ _ _ st h=>wpAny_pyIter_tupleiter st h
theorem yi {K:Po}(it:D')(lo:Int)(n:Nat):Turn P w K tg (XI lo n) [it] it (λi h=>IsRangeIter h it (lo+(i:Nat)*1) ((n:Int)-(i:Nat)) 1) where
 mem:=by simp
 obj:=λi h st b c=>by
  have e:b=it:=by simpa using c
  subst e;exact⟨_,st,λv z=>by
   have J:Data.fields _=Data.cell v:=z;cases J⟩
 keep:=λi h h' st k=>k it (by simp) _ st
 item:=by
  intro X y u C A i ac s G H E I d st p;subst y u C;obtain⟨g,m,O,x,j,f⟩:=d it (by simp);have W:=Walks.range (prog:=X.prog) (w:=X.w) (I.ok.hd A) it lo 1 n;refine W.item i s _ _ p st λv h' D N F M=>?_;obtain⟨t,rfl⟩:=N;have Q:Inv X ac G H { s with heap:=h',toks:=D }:=I.turned (λb o c e=>M b o (by simpa using c) e) g m x j f;refine⟨_,rfl,sW (s:={ s with heap:=h',toks:=D }) (n:="range_iterator") F rfl rfl (by decide) ⟨.int (lo+i),H,Q,⟨t,?_⟩,⟨rfl,rfl⟩,F,λb c=>(d b c).1⟩⟩;rw[Int.mul_one]
 done:=by
  intro X y u C A i ac s G H E I d st p;subst y u C;obtain⟨g,m,O,x,j,f⟩:=d it (by simp);exact wpAny_pyNext_range_end (I.ok.hd A) st (by have:n<=i:=p;lia) λh' L=>⟨rfl,I.turned (t':=s.toks) (λb o c e=>L b o c e) g m x j f⟩
 self:=λ_ _ _ _ _ st h=>wpAny_pyIter_rangeiter st h
def KI (K:Po)(tl:TE):TI:=λσ H R=>tl σ H λx H1=>∃a,x=.ref a/\(∃xs,PX K H1 a xs)/\R (ZD K a) H1
def LV (K:Po)(tl:TE):TI:=λσ H R=>tl σ H λx H1=>∃a,x=.ref a/\(∃xs,PM K H1 a xs)/\R (ZE K a) H1
theorem fR (hl:PE X l tl):PI X tg l (KI X.K tl):=by
 intro ac s j H R I h;refine PY (hl ac s j H _ I h) λv s1 n=>QK n λx m c r1 f=>?_;obtain⟨a,e,⟨xs,g⟩,q⟩:=f;subst e;cases r1;obtain⟨t,u,p,hz⟩:=c.list g;refine ń p.isList ?_;refine⟨s1.heap.objs.size,[s1.heap.objs.size],_,_,m,rfl,c.kept (t':=s1.toks) λb o e=>Qn _ e,zM a _,⟨_,Rb _ rfl,rfl,rfl⟩,λb d=>?_,q⟩;have e:b=s1.heap.objs.size:=by simpa using d
 subst e;exact c.aaw (P1 _) (c.PQ.fresh (P1 _))
theorem iK (hl:PE X l tl):PI X tg l (LV X.K tl):=by
 intro ac s m H R I h;refine PY (hl ac s m H _ I h) λv s1 t=>QK t λx n c r1 g=>?_;obtain⟨a,e,⟨xs,j⟩,q⟩:=g;subst e;cases r1;obtain⟨d,u,p,hz⟩:=c.tuple j;refine ÿ (show s1.heap.IsTuple a d.toArray from p) ?_;refine⟨s1.heap.objs.size,[s1.heap.objs.size],_,_,n,rfl,c.kept (t':=s1.toks) λb o e=>Qn _ e,yh a _,⟨_,Rb _ rfl,rfl,rfl⟩,λb f=>?_,q⟩;have e:b=s1.heap.objs.size:=by simpa using f
 subst e;exact c.aaw (P1 _) (c.PQ.fresh (P1 _))
theorem tR {X:Cx}{tg:PZ}{ac:List (D'×J')}{σ:St}{H:Hp}{s:N'}{R:It->Hp->Prop}{E:G'->N'->Prop}{lo hi:Int}{t u v:Sh}{tk:Nat}(I:Inv X ac σ H s)(h1:-(2 ^ 62)<=lo)(h2:lo<2 ^ 62)(h3:-(2 ^ 62)<=hi)(h4:hi<2 ^ 62)(q:R (XI lo (hi-lo).toNat) H):Pq (Px X.prog X.w) X.A (pyIter (.ref s.heap.objs.size)) (PIE X ac σ tg R) E { s with heap:=s.heap.push { cls:=.type "range",data:=.fields #[.int lo t,.int hi u,.int 1 v] },toks:=tk }:=by
 refine wpAny_pyIter_range (IsRange.new ..) (small_one h1 h2 h3 h4) ?_;have c:Inv X ac σ H { s with heap:=s.heap.push { cls:=.type "range",data:=.fields #[.int lo t,.int hi u,.int 1 v] },toks:=tk }:=I.kept λb o e=>Qn _ e;refine⟨(s.heap.push { cls:=.type "range",data:=.fields #[.int lo t,.int hi u,.int 1 v] }).objs.size,[(s.heap.push { cls:=.type "range",data:=.fields #[.int lo t,.int hi u,.int 1 v] }).objs.size],_,_,H,rfl,
  c.kept (t':=tk) λb o e=>Qn _ e,yi _ lo (hi-lo).toNat,?_,λb g=>?_,q⟩
 .have f:lo+((0:Nat):Int)*1=lo:=by simp
  have d:(((hi-lo).toNat:Nat):Int)-((0:Nat):Int)=S7.Range.rangeSize lo hi 1:=by rw[rangeSize_one];split <;> lia
  show IsRangeIter _ _ (lo+((0:Nat):Int)*1) ((((hi-lo).toNat:Nat):Int)-((0:Nat):Int)) 1;rw[f,d];exact Rb _ rfl
 .have e:b=(s.heap.push { cls:=.type "range",data:=.fields #[.int lo t,.int hi u,.int 1 v] }).objs.size:=by simpa using g
  subst e;exact c.aaw (P1 _) (c.PQ.fresh (P1 _))
def KJ (ta:TA):TI:=λσ H R=>ta σ H λvs H1=>∃j:Int,vs=[.int j]/\-(2 ^ 62)<=j/\j<2 ^ 62/\R (XI 0 j.toNat) H1
def KM (ta:TA):TI:=λσ H R=>ta σ H λvs H1=>∃i j:Int,vs=[.int i,.int j]/\(-(2 ^ 62)<=i/\i<2 ^ 62/\-(2 ^ 62)<=j/\j<2 ^ 62)/\R (XI i (j-i).toNat) H1
theorem eQ (hg:Gl X "range")(hm:X.mg "range"=none)(ha:PA X [a] ta)(hs:QX [a] X.env=[(false,eval a X.env)]:=by rfl):PI X tg (.Call (.Name "range" p) [a] [] pos) (KJ ta):=by
 intro ac s g H R I h;refine Call_ (kS I hg hm boot_range (Ŋ (PY (ha pos ac s g H _ I h) λus s1 m=>QK m λvs n f r1 b=>?_) hs rfl));obtain⟨j,e,b,d,q⟩:=b;subst e;cases r1 with
 | cons r c=>
  cases c;obtain⟨t,rfl⟩:=r;exact call_range_1 (tR f (by (first|trivial|lia)) (by (first|trivial|lia)) b d (by simpa using q))
theorem zN (hg:Gl X "range")(hm:X.mg "range"=none)(ha:PA X [a,b] ta)(hs:QX [a,b] X.env=[(false,eval a X.env),(false,eval b X.env)]:=by rfl)(hs2:QX [b] X.env=[(false,eval b X.env)]:=by rfl):
  PI X tg (.Call (.Name "range" p) [a,b] [] pos) (KM ta):=by
 intro ac s o H R I h;refine Call_ (kS I hg hm boot_range (Ŋ (PY (ha pos ac s o H _ I h) λus s1 u=>QK u λvs v n r1 d=>?_) (by rw[hs,hs2]) (by rw[hs2];rfl)));obtain⟨i,j,e,⟨d,g,f,m⟩,q⟩:=d;subst e;cases r1 with
 | cons r c=>
  cases c with
  | cons r' c=>
   cases c;obtain⟨t,rfl⟩:=r;obtain⟨t',rfl⟩:=r';exact call_range_2 (tR n d g f m q)
def LW (wi:TI)(g:TG)(tb:TS):TS:=λD σ H=>wi σ H λJ H1=>∃W:Nat->Nat->St->Hp->Prop,(∃m,W 0 m σ H1)/\∀i m σ H,W i m σ H->
 (J.stop i H/\D.nx σ H)\/(J.go i H/\∃N:St->Hp->Prop,(∀Ql H',N Ql H'->∃m',m' < m/\W (i+1) m' Ql H')/\∀x H',J.ZC i H x H'->g x σ H' λTm H2=>tb { D with nx:=N,ct:=N,bk:=D.nx } Tm H2)
noncomputable def jA (fp:List D')(h:Ps):List (D'×J'):=fp.filterMap λb=>(h.get? b).map λo=>(b,o)
theorem e8 (hb:b∈fp)(e:h.get? b=some o):(b,o)∈jA fp h:=Ug.mpr ⟨b,hb,by rw[e];rfl⟩
theorem zO (hp:p∈jA fp h):p.1∈fp/\h.get? p.1=some p.2:=by
 obtain⟨b,d,e⟩:=Ug.mp hp;cases q:h.get? b with
 | none=>rw[q] at e;cases e
 | some o=>
  rw[q] at e;have c:(b,o)=p:=UW e;subst c;exact⟨d,q⟩
theorem Inv.pinned {σ:St}(I:Inv X ac σ H s)(hf:∀b∈fp,jn X ac H b)(ho:∀b∈fp,∃o,s.heap.get? b=some o/\∀v,o.data≠.cell v):Inv X (ac++jA fp s.heap) σ H s:=
 I.Zu λp m=>(QW.mp m).elim (λz=>I.pin p (Sc _ z)) λz=>by
  obtain⟨f,e⟩:=zO z;obtain⟨h,j,g,_⟩:=hf p.1 f;obtain⟨o,c,d⟩:=ho p.1 f;rw[e] at c;cases c;exact⟨e,h,j,g,d⟩
theorem Inv.Ym {σ:St}(I:Inv X (ac++pl) σ H s):Inv X ac σ H s:=I.Zu λp b=>I.pin p (Sc _ (Ue _ b))
theorem dM (hp:ö (Px X.prog X.w) X.A X.env X.xe)(hc:X.calm=true)(hi:PI X tg iter wi)(hg:PG X tg g)(hb:SC X body tb)(hs:∀x,foldedSetIterable iter X.env x=pure x:=by intro _;rfl):PS X (.For tg iter body [] pos) (LW wi g tb):=by
 intro ac s σ H D I h;refine wpAny_For (PY (hi ac s σ H _ I h) λv s1 h1=>PY h1 λitv s2 h2=>?_) hs;obtain⟨it,L,tn,J,H2,e,I2,T,RN,f2,W,⟨m0,w0⟩,turn⟩:=h2;subst e;have P:∀{y:Hp},(∀b∈L,y b=none)->∀b∈L,jn X ac y b:=λhn b hb=>⟨hn b hb,(f2 b hb).2⟩
 refine codeAny_forLoop_any (λn Z=>∃i M y,Inv X ac M y Z/\tn i Z.heap/\(∀b∈L,y b=none)/\W i n M y) ?_ m0 ⟨0,σ,H2,I2,RN,λb hb=>(f2 b hb).1,w0⟩;rintro n s3 ⟨i,t,O,I3,Y,XJ,w3⟩;rcases turn i n t O w3 with⟨stop,qn⟩|⟨go,N,hN,step⟩
 .refine Ö hp (PY (T.done X rfl rfl rfl hc i ac s3 t O X.xe I3 (P XJ) Y stop) λr s4 F=>?_);obtain⟨S,I4⟩:=F;subst S;exact ý ⟨t,O,I4,qn⟩
 .refine Ö hp (PY (T.item X rfl rfl rfl hc i ac s3 t O X.xe I3 (P XJ) Y go) λr s4 F=>?_);obtain⟨u,S,h4⟩:=F;subst S;refine Ö hp (PY h4 λ_ s5 F=>?_);obtain⟨x,H5,I5,r5,y5,E,R⟩:=F;have Q:=I5.pinned (P R) (T.obj _ _ E);refine Ö hp (PY (hg _ s5 t H5 x u _ Q r5 (step x H5 y5)) λ_ s6 F=>?_);obtain⟨U,H6,I6,q6⟩:=F;refine Ö hp (PY (hb _ s6 U H6 _ I6 q6) λf s7 C=>?_);have again:∀{j:St}{p:Hp},Inv X (ac++jA L s5.heap) j p s7->N j p->∃m,m<n/\∃i M y,Inv X ac M y s7/\tn i s7.heap/\(∀b∈L,y b=none)/\W i m M y:=λ{j p} c G=>by
   obtain⟨m',hm,w7⟩:=hN j p G;refine⟨m',hm,i+1,j,p,c.Ym,T.keep _ _ _ E λb hb o e=>(c.pin (b,o) (Sc _ (Sc _ (e8 hb e)))).1,λb hb=>?_,w7⟩;obtain⟨o,e,d⟩:=T.obj _ _ E b hb;exact(c.pin (b,o) (Sc _ (Sc _ (e8 hb e)))).2.1
  cases f with
  | next=>obtain⟨j,p,c,G⟩:=C;exact again c G
  | cont=>obtain⟨j,p,c,G⟩:=C;exact again c G
  | brk=>obtain⟨j,p,c,C⟩:=C;exact⟨j,p,c.Ym,C⟩
  | ret v=>obtain⟨x7,j,p,c,r7,C⟩:=C;exact⟨x7,j,p,c.Ym,r7,C⟩
theorem gu {K:Po}{a:D'}{xs:List V}{g:TG}{tb:TS}{D:Ends}{σ:St}{H:Hp}(Pv:Nat->St->Hp->Prop)(h0:Pv 0 σ H)(hl:∀i σ H,i<=xs.length->Pv i σ H->PX K H a xs)(hs:∀i x σ H,xs[i]?=some x->Pv i σ H->g x σ H λTm H2=>tb { D with nx:=Pv (i+1),ct:=Pv (i+1),bk:=D.nx } Tm H2)(hd:∀σ H,Pv xs.length σ H->D.nx σ H):
  ∃W:Nat->Nat->St->Hp->Prop,(∃m,W 0 m σ H)/\∀i m σ H,W i m σ H->
   ((ZD K a).stop i H/\D.nx σ H)\/((ZD K a).go i H/\∃N:St->Hp->Prop,(∀Ql H',N Ql H'->∃m',m' < m/\W (i+1) m' Ql H')/\∀x H',(ZD K a).ZC i H x H'->g x σ H' λTm H2=>tb { D with nx:=N,ct:=N,bk:=D.nx } Tm H2):=by
 refine⟨λi m σ H=>m=xs.length-i/\i<=xs.length/\Pv i σ H,⟨xs.length,by simp,RA _,h0⟩,?_⟩;rintro i m σ H ⟨rfl,d,p⟩;have q:=hl i σ H d p
 by_cases b:i<xs.length
 .refine .inr ⟨⟨xs,xs[i],q,by simp[b]⟩,Pv (i+1),λQl H' c=>⟨xs.length-(i+1),by lia,rfl,b,c⟩,λx H' y=>?_⟩;obtain⟨e,y⟩:=y;subst e;exact hs i x σ _ (y xs q) p
 .have e:i=xs.length:=by lia
  subst e;exact .inl ⟨⟨xs,q,P1 _⟩,hd σ H p⟩
theorem lV {K:Po}{a:D'}{xs:List V}{g:TG}{tb:TS}{D:Ends}{σ:St}{H:Hp}(Pv:Nat->St->Hp->Prop)(h0:Pv 0 σ H)(hl:∀i σ H,i<=xs.length->Pv i σ H->PM K H a xs)(hs:∀i x σ H,xs[i]?=some x->Pv i σ H->g x σ H λTm H2=>tb { D with nx:=Pv (i+1),ct:=Pv (i+1),bk:=D.nx } Tm H2)(hd:∀σ H,Pv xs.length σ H->D.nx σ H):
  ∃W:Nat->Nat->St->Hp->Prop,(∃m,W 0 m σ H)/\∀i m σ H,W i m σ H->
   ((ZE K a).stop i H/\D.nx σ H)\/((ZE K a).go i H/\∃N:St->Hp->Prop,(∀Ql H',N Ql H'->∃m',m' < m/\W (i+1) m' Ql H')/\∀x H',(ZE K a).ZC i H x H'->g x σ H' λTm H2=>tb { D with nx:=N,ct:=N,bk:=D.nx } Tm H2):=by
 refine⟨λi m σ H=>m=xs.length-i/\i<=xs.length/\Pv i σ H,⟨xs.length,by simp,RA _,h0⟩,?_⟩;rintro i m σ H ⟨rfl,d,p⟩;have q:=hl i σ H d p
 by_cases b:i<xs.length
 .refine .inr ⟨⟨xs,xs[i],q,by simp[b]⟩,Pv (i+1),λQl H' c=>⟨xs.length-(i+1),by lia,rfl,b,c⟩,λx H' y=>?_⟩;obtain⟨e,y⟩:=y;subst e;exact hs i x σ _ (y xs q) p
 .have e:i=xs.length:=by lia
  subst e;exact .inl ⟨⟨xs,q,P1 _⟩,hd σ H p⟩
theorem kU {lo:Int}{n:Nat}{g:TG}{tb:TS}{D:Ends}{σ:St}{H:Hp}(Pv:Nat->St->Hp->Prop)(h0:Pv 0 σ H)(hs:∀i σ H,i<n->Pv i σ H->g (.int (lo+i)) σ H λTm H2=>tb { D with nx:=Pv (i+1),ct:=Pv (i+1),bk:=D.nx } Tm H2)(hd:∀σ H,Pv n σ H->D.nx σ H):
  ∃W:Nat->Nat->St->Hp->Prop,(∃m,W 0 m σ H)/\∀i m σ H,W i m σ H->
   ((XI lo n).stop i H/\D.nx σ H)\/((XI lo n).go i H/\∃N:St->Hp->Prop,(∀Ql H',N Ql H'->∃m',m' < m/\W (i+1) m' Ql H')/\∀x H',(XI lo n).ZC i H x H'->g x σ H' λTm H2=>tb { D with nx:=N,ct:=N,bk:=D.nx } Tm H2):=by
 refine⟨λi m σ H=>m=n-i/\i<=n/\Pv i σ H,⟨n,by simp,RA _,h0⟩,?_⟩;rintro i m σ H ⟨rfl,d,p⟩
 by_cases b:i<n
 .refine .inr ⟨b,Pv (i+1),λQl H' c=>⟨n-(i+1),by lia,rfl,b,c⟩,λx H' y=>?_⟩;obtain⟨e,y⟩:=y;subst e y;exact hs i σ _ b p
 .have e:i=n:=by lia
  subst e;exact .inl ⟨P1 _,hd σ H p⟩
abbrev R2:=V->V->Hp->VK->Prop
def QG (X:Cx)(f:G'->G'->Sem G')(r:R2):Prop:=
 ∀(ac:List (D'×J')) (s:N') (σ:St) (H:Hp) (x y:V) (v u:G') (Q:VK),Inv X ac σ H s->aI x v->aI y u->r x y H Q->
  Pq (Px X.prog X.w) X.A (f v u) (EP X ac σ Q) X.xe s
def UnR (X:Cx)(f:G'->Sem G')(r:V->Hp->VK->Prop):Prop:=
 ∀(ac:List (D'×J')) (s:N') (σ:St) (H:Hp) (x:V) (v:G') (Q:VK),Inv X ac σ H s->aI x v->r x H Q->
  Pq (Px X.prog X.w) X.A (f v) (EP X ac σ Q) X.xe s
def cF (X:Cx)(f:G')(r:List V->Hp->VK->Prop):Prop:=
 ∀(ac:List (D'×J')) (s:N') (σ:St) (H:Hp) (xs:List V) (us:List G') (Q:VK),Inv X ac σ H s->aL xs us->r xs H Q->
  Pq (Px X.prog X.w) X.A (call f us) (EP X ac σ Q) X.xe s
def LX (X:Cx)(r:V->Hp->(Bool->Hp->Prop)->Prop):Prop:=
 ∀(ac:List (D'×J')) (s:N') (σ:St) (H:Hp) (x:V) (v:G') (Q:Bool->Hp->Prop),Inv X ac σ H s->aI x v->r x H Q->
  Pq (Px X.prog X.w) X.A (truthy v) (TP X ac σ Q) X.xe s
def VY (r:R2)(ta tb:TE):TE:=λσ H Q=>ta σ H λx H1=>tb σ H1 λy H2=>r x y H2 Q
def tUn (r:V->Hp->VK->Prop)(ta:TE):TE:=λσ H Q=>ta σ H λx H1=>r x H1 Q
def rI (C:Int->Int->Prop)(g:Int->Int->V):R2:=λx y H Q=>∃i j,x=.int i/\y=.int j/\C i j/\Q (g i j) H
def UM (g:Int->Int->V):R2:=λx y H Q=>∃i j,x=.int i/\y=.int j/\Q (g i j) H
def rU (g:Int->V):V->Hp->VK->Prop:=λx H Q=>∃i,x=.int i/\Q (g i) H
theorem B8 {X:Cx}{a:PZ}{b:PZ}{ta:TE}{tb:TE}(ha:PE X a ta)(hb:PE X b tb){ac:List (D'×J')}{s:N'}{σ:St}{H:Hp}{R:V->V->Hp->Prop}(I:Inv X ac σ H s)(h:ta σ H λx H1=>tb σ H1 λy H2=>R x y H2){Q:G'->N'->Prop}{f:G'->G'->Sem G'}(hf:∀v u s2 x y H2,Inv X ac σ H2 s2->aI x v->aI y u->R x y H2->Pq (Px X.prog X.w) X.A (f v u) Q X.xe s2):
  Pq (Px X.prog X.w) X.A (eval a X.env) (λv P8=>Pq (Px X.prog X.w) X.A (eval b X.env) (λu Qy=>Pq (Px X.prog X.w) X.A (f v u) Q X.xe Qy) X.xe P8) X.xe s:=by
 refine PY (ha ac s σ H _ I h) λv s1 c=>QK c λx H1 e r1 d=>?_;refine PY (hb ac s1 σ H1 _ e d) λu s2 c=>QK c λy H2 j r2 g=>?_;exact hf v u s2 x y H2 j r1 r2 g
theorem ay (ho:QG X (binaryOp op) r)(ha:PE X a ta)(hb:PE X b tb):PE X (.BinOp a op b pos) (VY r ta tb):=by
 intro ac s f H Q I h;exact wpAny_BinOp (B8 ha hb I h λv u s2 x y d e c g q=>ho ac s2 f d x y v u Q e c g q)
theorem lW (ho:UnR X (unaryOp op) r)(ha:PE X a ta):PE X (.UnaryOp op a pos) (tUn r ta):=by
 intro ac s b H Q I h;exact UnaryOp_ (PY (ha ac s b H _ I h) λv s1 f=>QK f λx e d r1 c=>ho ac s1 b e x v Q d r1 c)
theorem opI {g:Int->Int->Int}(rule:∀(i j:Int) (t u:Sh) (s:N') (Q:G'->N'->Prop) (E:G'->N'->Prop),C i j->Q (.int (g i j) s.toks) { s with toks:=s.toks+1 }->Pq (Px X.prog X.w) X.A (f (.int i t) (.int j u)) Q E s):
  QG X f (rI C λi j=>.int (g i j)):=by
 intro ac s e H x y v u Q I d b h;obtain⟨i,j,rfl,rfl,c,q⟩:=h;obtain⟨t,rfl⟩:=d;obtain⟨t',rfl⟩:=b;exact rule i j t t' s _ _ c ⟨.int (g i j),H,I.tok _,⟨_,rfl⟩,q⟩
theorem yj {g:Int->Int->Int}(rule:∀(i j:Int) (t u:Sh) (s:N') (Q:G'->N'->Prop) (E:G'->N'->Prop),Q (.int (g i j) s.toks) { s with toks:=s.toks+1 }->Pq (Px X.prog X.w) X.A (f (.int i t) (.int j u)) Q E s):
  QG X f (UM λi j=>.int (g i j)):=by
 intro ac s d H x y v u Q I c b h;obtain⟨i,j,rfl,rfl,q⟩:=h;obtain⟨t,rfl⟩:=c;obtain⟨t',rfl⟩:=b;exact rule i j t t' s _ _ ⟨.int (g i j),H,I.tok _,⟨_,rfl⟩,q⟩
theorem B9 {g:Int->Int->Bool}(rule:∀(i j:Int) (t u:Sh) (s:N') (Q:G'->N'->Prop) (E:G'->N'->Prop),Q (.bool (g i j)) s->Pq (Px X.prog X.w) X.A (f (.int i t) (.int j u)) Q E s):
  QG X f (UM λi j=>.bl (g i j)):=by
 intro ac s d H x y v u Q I c b h;obtain⟨i,j,rfl,rfl,q⟩:=h;obtain⟨t,rfl⟩:=c;obtain⟨t',rfl⟩:=b;exact rule i j t t' s _ _ ⟨.bl (g i j),H,I,rfl,q⟩
def LY (i j:Int):Prop:=0<j/\j<1073741824
def LZ (i j:Int):Prop:=0<=j/\j<=1000000/\i.natAbs<2 ^ 64
def Ca (i j:Int):Prop:=(-(2 ^ 64)<i/\i<2 ^ 64)\/(-(2 ^ 64)<j/\j<2 ^ 64)
theorem Ca.ok (h:Ca i j):IntMulOk i j:=by
 rcases h with⟨c,b⟩|⟨c,b⟩
 .exact .of_left (intBits_le_64 c b)
 .exact .of_right (intBits_le_64 c b)
theorem yk (k:Nat):(0:Int)<=2 ^ k:=by
 rw[two_pow_cast];exact Int.natCast_nonneg _
theorem bT:QG X (binaryOp .Add) (UM λi j=>.int (i+j)):=yj λ_ _ _ _ _ _ _ q=>add_int q
theorem oo:QG X (binaryOp .Sub) (UM λi j=>.int (i-j)):=yj λ_ _ _ _ _ _ _ q=>sub_int q
theorem ou:QG X (binaryOp .Mult) (rI Ca λi j=>.int (i*j)):=opI λ_ _ _ _ _ _ _ b q=>mul_int q b.ok
theorem cS:QG X (binaryOp .FloorDiv) (rI LY λi j=>.int (i / j)):=opI λi j _ _ _ _ _ b q=>by
 have c:(0:Int)<j:=b.1;have d:j<1073741824:=b.2;exact floordiv_int (by lia) (by rw[afM i (by lia)];exact q) (.inl (PyProof.noPylong_small (by lia)))
theorem bD:QG X (binaryOp .Mod) (rI (λ_ j=>0<j) λi j=>.int (i % j)):=opI λi j _ _ _ _ _ b q=>by
 have c:(0:Int)<j:=b;exact mod_int' (by lia) (by rw[Int.fmod_eq_emod_of_nonneg i (by lia)];exact q)
theorem tS:QG X (binaryOp .LShift) (rI LZ λi j=>.int (i*2 ^ j.toNat)):=opI λ_ _ _ _ _ _ _ b q=>lshift_int_small b.1 b.2.1 b.2.2 q
theorem Gg:QG X (binaryOp .RShift) (rI (λ_ j=>0<=j) λi j=>.int (i / 2 ^ j.toNat)):=opI λi j _ _ _ _ _ b q=>
 rshift_int b (by rw[afM i (yk _)];exact q)
theorem zP:QG X (binaryOp .BitAnd) (UM λi j=>.int (Č i j)):=yj λ_ _ _ _ _ _ _ q=>and_int q
theorem DZ:QG X (binaryOp .BitOr) (UM λi j=>.int (č i j)):=yj λ_ _ _ _ _ _ _ q=>or_int q
theorem unI {g:Int->Int}(rule:∀(i:Int) (t:Sh) (s:N') (Q:G'->N'->Prop) (E:G'->N'->Prop),Q (.int (g i) s.toks) { s with toks:=s.toks+1 }->Pq (Px X.prog X.w) X.A (f (.int i t)) Q E s):
  UnR X f (rU λi=>.int (g i)):=by
 intro ac s c H x v Q I b h;obtain⟨i,rfl,q⟩:=h;obtain⟨t,rfl⟩:=b;exact rule i t s _ _ ⟨.int (g i),H,I.tok _,⟨_,rfl⟩,q⟩
theorem jB:UnR X (unaryOp .USub) (rU λi=>.int (-i)):=unI λ_ _ _ _ _ q=>neg_int q
noncomputable def Gh:V->V->Bool
 | .int _,.int _=>true | .bl _,.bl _=>true | .str _,.str _=>true
 | _,_=>false
def rEq:R2:=λx y H Q=>Gh x y=true/\Q (.bl (decide (x=y))) H
def rNe:R2:=λx y H Q=>Gh x y=true/\Q (.bl (!decide (x=y))) H
theorem cT:decide (V.int i=V.int j)=(i==j):=by
 rw[Yg];simp
theorem kW:decide (V.bl i=V.bl j)=(i==j):=by
 rw[Yg];simp
theorem wN:decide (V.str i=V.str j)=(i==j):=by
 rw[Yg];simp
theorem iL {σ:St}(I:Inv X ac σ H s)(q:Q (.bl k) H)(e:k=k'):EP X ac σ Q (.bool k') s:=by
 subst e;exact⟨.bl k,H,I,rfl,q⟩
theorem bu:QG X (R9 .Eq) rEq:=by
 intro ac s e H x y v u Q I b c h;obtain⟨d,q⟩:=h;cases x <;> cases y <;> first|exact Py (show false=true from d) TQ|skip
 .cases b;cases c;exact eq_bool (iL I q kW)
 .obtain⟨t,rfl⟩:=b;obtain⟨t',rfl⟩:=c;exact eq_int (iL I q cT)
 .obtain⟨t,rfl⟩:=b;obtain⟨t',rfl⟩:=c;exact eq_str (iL I q wN)
theorem dY:QG X (R9 .NotEq) rNe:=by
 intro ac s e H x y v u Q I b c h;obtain⟨d,q⟩:=h;cases x <;> cases y <;> first|exact Py (show false=true from d) TQ|skip
 .cases b;cases c;exact ne_bool (iL I q (congrArg not kW))
 .obtain⟨t,rfl⟩:=b;obtain⟨t',rfl⟩:=c;exact ne_int (iL I q (congrArg not cT))
 .obtain⟨t,rfl⟩:=b;obtain⟨t',rfl⟩:=c;exact ne_str (iL I q (congrArg not wN))
theorem hV:QG X (R9 .Lt) (UM λi j=>.bl (decide (i<j))):=B9 λ_ _ _ _ _ _ _ q=>lt_int q
theorem hW:QG X (R9 .LtE) (UM λi j=>.bl (decide (i<=j))):=B9 λ_ _ _ _ _ _ _ q=>le_int q
theorem hZ:QG X (R9 .Gt) (UM λi j=>.bl (decide (j<i))):=B9 λ_ _ _ _ _ _ _ q=>gt_int q
theorem zQ:QG X (R9 .Is) (λx y H Q=>y=.Qb/\Q (.bl (decide (x=.Qb))) H):=by
 intro ac s d H x y v u Q I b c h;obtain⟨rfl,q⟩:=h;cases c;refine is_none_gen (iL I q ?_);cases x <;> first
  | (cases b;rfl)
  | (obtain⟨t,rfl⟩:=b;rfl)
theorem aw (b)(h:op≠.In:=by decide)(h2:op≠.NotIn:=by decide):behindInMarks op b=false:=by
 have c:(op==CmpOp.In)=false:=by cases op <;> first|rfl|exact Py rfl h
 have d:(op==CmpOp.NotIn)=false:=by cases op <;> first|rfl|exact Py rfl h2
 cases b <;> simp[behindInMarks,c,d]
theorem cG (ho:QG X (R9 op) r)(ha:PE X a ta)(hb:PE X b tb)(hm:behindInMarks op b=false):PE X (.Compare a [op] [b] pos) (VY r ta tb):=by
 intro ac s f H Q I h;exact wpAny_Compare1 (B8 ha hb I h λv u s2 x y d e c g q=>ho ac s2 f d x y v u Q e c g q) hm
def jW (t:TE):TT:=λσ H Q=>t σ H λx H'=>∃k,x=.bl k/\Q k H'
theorem aq (ho:QG X (R9 op) r)(ha:PE X a ta)(hb:PE X b tb)(hm:behindInMarks op b=false):PT X (.Compare a [op] [b] pos) (jW (VY r ta tb)):=by
 intro ac s d H Q I h;refine wpAny_isTrue_Compare1 (PY (ha ac s d H _ I h) λv s1 f=>QK f λx C A r1 p=>PY (hb ac s1 d C _ A p) λu s2 f=>QK f λy t g r2 o=>
  PY (ho ac s2 d t x y v u _ g r1 r2 o) λc s3 ⟨z,w,m,n,k,e,j⟩=>?_) hm
 subst e;cases n;exact UA ⟨w,m,j⟩
def zR (r r':R2)(ta tb tc:TE):TE:=λσ H Q=>ta σ H λx H1=>tb σ H1 λy H2=>r x y H2 λz H3=>∃k,z=.bl k/\
 (if k=true then tc σ H3 λw' H4=>r' y w' H4 Q else Q (.bl false) H3)
theorem Cb (ho:QG X (R9 op) r)(R4:QG X (R9 YB) r')(ha:PE X a ta)(hb:PE X b tb)(hc:PE X c tc)(hm:lastMarks [op,YB] [b,c]=false:=by with_unfolding_all rfl):PE X (.Compare a [op,YB] [b,c] pos) (zR r r' ta tb tc):=by
 intro ac s f H Q I h;refine Compare_chain (PY (ha ac s f H _ I h) λv s1 g=>QK g λx J G r1 A=>chain_link (PY (hb ac s1 f J _ G A) λu s2 g=>QK g λy C p r2 w=>
  PY (ho ac s2 f C x y v u _ p r1 r2 w) λd s3 ⟨z,n,m,t,k,e,j⟩=>?_)) hm
 subst e;cases t;refine UA ?_;cases k with
 | false=>exact ite_ff ⟨.bl false,n,m,rfl,j⟩
 | true=>exact ite_tt (chain_last (PY (hc ac s3 f n _ m j) λL s4 ⟨o,F,E,M,D⟩=>R4 ac s4 f F y o u L Q E r2 M D))
theorem jX (ho:QG X (R9 op) r)(R4:QG X (R9 YB) r')(ha:PE X a ta)(hb:PE X b tb)(hc:PE X c tc)(hm:lastMarks [op,YB] [b,c]=false:=by with_unfolding_all rfl):PT X (.Compare a [op,YB] [b,c] pos) (jW (zR r r' ta tb tc)):=by
 intro ac s f H Q I h;refine isTrue_chain (PY (ha ac s f H _ I h) λv s1 g=>QK g λx S R r1 J=>test_link (PY (hb ac s1 f S _ R J) λu s2 g=>QK g λy L t r2 F=>
  PY (ho ac s2 f L x y v u _ t r1 r2 F) λd s3 ⟨z,n,m,C,k,e,j⟩=>?_)) hm
 subst e;cases C;refine UA ?_;cases k with
 | false=>
  obtain⟨Y,G,A⟩:=j;cases G;exact ite_ff ⟨n,m,A⟩
 | true=>
  refine ite_tt (test_last (PY (hc ac s3 f n _ m j) λT s4 ⟨p,O,N,U,M⟩=>PY (R4 ac s4 f O y p u T _ N r2 U M) λd' s5 ⟨W,w,D,P,k2,o,E⟩=>?_));subst o;cases P;exact UA ⟨w,D,E⟩
def Cc (K:Po)(x:V)(H:Hp)(k:Bool):Prop:=
 match x with
 | .Qb=>k=false
 | .bl b=>k=b
 | .int i=>k=(i != 0)
 | .str y=>y.length<=PH/\k=((y.length:Int) != 0)
 | .Zz y=>y.size<=PH/\k=((y.size:Int) != 0)
 | .ref p=>(∃xs,PX K H p xs/\k=!xs.isEmpty)\/(∃xs,PM K H p xs/\k=!xs.isEmpty)\/∃kvs,H p=some (.dK kvs)/\k=!kvs.isEmpty
 | _=>False
theorem ym {κ:Type}{kvs:List (κ×V)}{vs:List (κ×G')}(r:KV kvs vs):(!vs.isEmpty)=!kvs.isEmpty:=by
 cases r <;> rfl
theorem ow (r:aL xs Pp):(!Pp.toArray.isEmpty)=!xs.isEmpty:=by
 cases r <;> simp
theorem ox:(PH:Nat)<2 ^ 63:=by rw[QA];decide
theorem Gi:LX X (λx H Q=>∃k,Cc X.K x H k/\Q k H):=by
 intro ac s o H x v Q I d h;obtain⟨k,e,q⟩:=h;have j:=ox;have n:PH=16777216:=QA;cases x with
 | Qb=>
  cases d;have c:k=false:=e;subst c;exact truthy_none ⟨H,I,q⟩
 | bl b=>
  cases d;have c:k=b:=e;subst c;exact UA ⟨H,I,q⟩
 | int i=>
  obtain⟨t,rfl⟩:=d;have c:k=(i != 0):=e;subst c;exact PySem.P.truthy_int ⟨H,I,q⟩
 | str y=>
  obtain⟨t,rfl⟩:=d;obtain⟨hy,c⟩:y.length<=PH/\k=((y.length:Int) != 0):=e;subst c;exact PySem.P.truthy_str (by lia) ⟨H,I.tok _,q⟩
 | Zz y=>
  obtain⟨t,rfl⟩:=d;obtain⟨hy,c⟩:y.size<=PH/\k=((y.size:Int) != 0):=e;subst c;exact W.truthy_bytes (by lia) ⟨H,I.tok _,q⟩
 | ref p=>
  cases d;have c:(∃xs,PX X.K H p xs/\k=!xs.isEmpty)\/(∃xs,PM X.K H p xs/\k=!xs.isEmpty)\/∃kvs,H p=some (.dK kvs)/\k=!kvs.isEmpty:=e;rcases c with⟨xs,f,c⟩|⟨xs,f,c⟩|⟨kvs,f,c⟩
  .subst c;obtain⟨g,r,pl,hz⟩:=I.list f;have hlen:=r.length;exact wpAny_truthy_list pl.isList (by simp only[QI];lia) ⟨H,I.tok _,by rw[ow r];exact q⟩
  .subst c;obtain⟨g,r,pl,hz⟩:=I.tuple f;have hlen:=r.length;exact truthy_tuple pl (by simp only[QI];lia) ⟨H,I.tok _,by rw[ow r];exact q⟩
  .subst c;obtain⟨hz,hS,vs,r,m⟩:kvs.length<=PH/\(p==R8)=false/\∃vs,KV kvs vs/\s.heap.DictOf (aY X.prog X.w) p vs:=I.PQ p _ f;have hlen:kvs.length=vs.length:=Zi r;exact wpAny_truthy_dict hS m (by lia) ⟨H,I.tok _,by rw[ym r];exact q⟩
 | _=>exact(show False from e).elim
theorem nA (ha:PE X a ta)(he:∀whole,isTrue a X.env whole=(do let v <-whole;standAt a.pos;holding [v] (truthy v))):
  PT X a (λσ H Q=>ta σ H λx H'=>∃k,Cc X.K x H' k/\Q k H'):=by
 intro ac s σ H Q I h;exact isTrue_plain (PY (ha ac s σ H _ I h) λv s1 e=>QK e λx d c r1 b=>Gi ac s1 σ d x v Q c r1 b) (he _)
theorem dc (r:aL [x] us):∃u,us=[u]/\aI x u:=by
 cases r with
 | cons r1 r2=>cases r2;exact⟨_,rfl,r1⟩
theorem KN (r:aL [x,y] us):∃u w',us=[u,w']/\aI x u/\aI y w':=by
 cases r with
 | cons r1 r2=>
  cases r2 with
  | cons r3 r4=>cases r4;exact⟨_,_,rfl,r1,r3⟩
theorem qM (hc:X.calm=true):cF X (.builtin "min") (λxs H Q=>∃i j,xs=[.int i,.int j]/\Q (.int (if j<i then j else i)) H):=by
 intro ac s d H xs us Q I r h;obtain⟨i,j,rfl,q⟩:=h;obtain⟨u,e,rfl,⟨t,rfl⟩,⟨t',rfl⟩⟩:=KN r;refine min_two_ints (I.ok.hd hc) λh' c k=>⟨_,H,I.kept k,?_,q⟩
 by_cases b:j<i
 .rw[PK b,PK b];exact⟨_,rfl⟩
 .rw[Pr b,Pr b];exact⟨_,rfl⟩
theorem zS:cF X (.type "int") (λxs H Q=>(∃i,xs=[.int i]/\Q (.int i) H)\/∃k,xs=[.bl k]/\Q (.int (if k then 1 else 0)) H):=by
 intro ac s b H xs us Q I r h;rcases h with⟨i,rfl,q⟩|⟨k,rfl,q⟩
 .obtain⟨u,rfl,t,rfl⟩:=dc r;exact call_int_int ⟨.int i,H,I,⟨_,rfl⟩,q⟩
 .obtain⟨u,rfl,r1⟩:=dc r;cases r1;exact call_int_bool ⟨.int (if k then 1 else 0),H,I.tok _,⟨_,rfl⟩,q⟩
structure Ys (h:Ps)(x dx C:D')(mA:M'->Option G'):Prop where
 obj:h.get? x=some (Yk C dx)
 ns:h.Ns1 dx mA
 ne:dx≠x
theorem zT {h:Ps}(n:h.Ns1 dx mA):∃od,h.get? dx=some od/\∀name,W.lookIn name od=some (mA name):=by
 obtain⟨o,es,ep,f,hd,c,_,j⟩:=n;refine⟨o,f,λname=>?_⟩;have e:=j name;unfold nsFind findBy at e;rw[<-Array.find?_toList] at e;unfold W.lookIn;rw[hd];dsimp only
 split
 .rename_i y q;rw[q] at e;exact congrArg some e
 .rename_i q;rw[q] at e;have a:es.toList.any (·.refKey)=false:=by
   rw[List.any_eq_false];intro y d;obtain⟨z,t,b⟩:=c y (ć.mp d);simp[Ro.refKey,b]
  have g:¬es.toList.any (·.refKey)=true:=by rw[a];exact TQ
  rw[Pr g];exact congrArg some e
theorem Ys.look (I:Ys h x dx C mA):∃od,W.InstAt h x (Yk C dx) C (some od)/\∀name,W.lookIn name od=some (mA name):=
 let ⟨od,ho,hl⟩:=zT I.ns
 ⟨od,⟨I.obj,rfl,rfl,ho⟩,hl⟩
theorem EK {K:Po}(X:K.In s.heap)(I:Ys s.heap x dx C mA)(hg:ñ K C name=true)(hh:į K C=true)(ha:RY K (.ref C) name=some none)(hv:mA name=some v)(hv':W.handedIn v=true)(h:Q v { s with toks:=s.toks+1 }):
  Pq (Px prog w) A (getAttr (.ref x) name expr) Q E s:=by
 obtain⟨od,J,b⟩:=I.look;exact W.get_value X J (DO hg).1 (W.findObj_own hh ha rfl (by rw[b,hv])) hv' h
theorem Cd {K:Po}(X:K.In s.heap)(I:Ys s.heap x dx C mA)(hg:ñ K C name=true)(hf:RY K (.ref C) name=some (some (.ref f)))(ht:W.isFn K (.ref f)=true)(hv:mA name=none)(h:Q (.ref f,[.ref x]) s):
  Pq (Px prog w) A (getMethod (.ref x) name pl) Q E s:=by
 obtain⟨od,J,b⟩:=I.look;exact W.method_fn X J (DO hg).1 (DO hg).2 hf (beq_iff_eq.mp ht) (by show(W.lookIn name od).map (·.isSome)=some false;rw[b,hv];rfl) h
theorem EL {K:Po}(X:K.In s.heap)(I:Ys s.heap x dx C mA)(hs:RY K (.ref C) "__setattr__"=some (some (.builtin "object.__setattr__")))(hp:W.plainOver K C=true)(ht:W.takerIn K C name=some none)(hh:į K C=true)(hw:ø mA ns)(hsz:ns.length<=PH)(h:∀h',Ys h' x dx C (λy=>if y=name then some v else mA y)->UX dx s.heap h'->Q () { s with heap:=h',toks:=s.toks+2 }):
  Pq (Px prog w) A (setAttr (.ref x) name v) Q E s:=by
 obtain⟨od,J,t⟩:=I.look;refine W.set_plain X J hs (W.osa_open (s:={ s with toks:=s.toks+1 }) (r:=none) X J hp ht λb=>?_);obtain⟨u,n,m⟩:=W.any_some hh;have j:s.heap.get? x=some ⟨.ref C,some dx,.plain,#[]⟩:=I.obj;refine Pm (Pu (Pm (Pm (wpAny_loadPart j (Pm (W.Looks.here (s:={ s with toks:=s.toks+1 }) (W.looks_clsIn X n) ?_))))));rw[m];refine Pu (a:=some dx) (Pm (Pu (Pm ?_)));refine wpAny_nsSet1 (s:={ s with toks:=s.toks+1 }) I.ns λh' d c=>?_;obtain⟨D,o,p,f,g,e⟩:=d.count (ø.cons name v hw);refine Pm (wpAny_lookBehind f (by rw[g];exact pastItsLine_dict (RX e (by rw[QU];lia))) ?_);exact Pu (h _ ⟨(c.2 _ (QC I.ne)).trans I.obj,d,I.ne⟩ c)
theorem Ce {K:Po}(X:K.In s.heap)(hm:W.makesIn K C=true)(hi:RY K (.ref C) "__init__"=some (some (.ref f)))(hf:VN K (.ref f)=some (.type "function"))(h:codeAny (Px prog w) (A.under (.builtin "type.__call__" ⟨.ref C::vs,kw⟩)) (.call (.ref f) ⟨.ref (s.heap.objs.size+1)::vs,kw⟩) (W.InitBack (s.heap.objs.size+1) R)
   { s with heap:=(s.heap.push Xr).push (Yk C s.heap.objs.size) }):
  codeAny (Px prog w) A (.call (.ref C) ⟨vs,kw⟩) R s:=by
 obtain⟨b,g,d,t,os⟩:=s;exact W.make_core (W.makes_of X hm) (ı X hi) (λself=>W.bind_fn X self hf) (.inl rfl) h
noncomputable def fm (f:M')(v:V):List (M'×V)->List (M'×V)
 | []=>[(f,v)]
 | (g,x)::r=>if g=f then (g,v)::r else (g,x)::fm f v r
theorem mV (f g)(v):∀fs:List (M'×V),(fm f v fs).lookup g=if g=f then some v else fs.lookup g
 | []=>by
  show Yj g [(f,v)]=_
  by_cases h:g=f
  .have b:(g==f)=true:=beq_iff_eq.mpr h;simp only[Yj,b,PK h]
  .have b:(g==f)=false:=beq_eq_false_iff_ne.mpr h;simp only[Yj,b,Pr h]
 | (k,x)::r=>by
  have d:=mV f g v r;rw[show fm f v ((k,x)::r)=(if k=f then (k,v)::r else (k,x)::fm f v r) from rfl]
  by_cases c:k=f
  .rw[PK c]
   by_cases h:g=k
   .have b:(g==k)=true:=beq_iff_eq.mpr h;simp only[Yj,b,PK (h.trans c)]
   .have b:(g==k)=false:=beq_eq_false_iff_ne.mpr h;simp only[Yj,b,Pr (λe:g=f=>h (e.trans c.symm))]
  .rw[Pr c]
   by_cases h:g=k
   .have b:(g==k)=true:=beq_iff_eq.mpr h;simp only[Yj,b,Pr (λe:g=f=>c (h.symm.trans e))]
   .have b:(g==k)=false:=beq_eq_false_iff_ne.mpr h;simp only[Yj,b];exact d
theorem kX (f)(v):∀fs:List (M'×V),f∈(fm f v fs).map (·.1)/\∀g,g∈fs.map (·.1)->g∈(fm f v fs).map (·.1)
 | []=>⟨by simp[fm],λg h=>by simp at h⟩
 | (k,x)::r=>by
  obtain⟨d,c⟩:=kX f v r;rw[show fm f v ((k,x)::r)=(if k=f then (k,v)::r else (k,x)::fm f v r) from rfl]
  by_cases b:k=f
  .rw[PK b];subst b;exact⟨by simp,λg h=>by simpa using h⟩
  .rw[Pr b];refine⟨?_,λg h=>?_⟩
   .rw[QJ];exact Qr _ d
   .rw[QJ] at h ⊢;rcases Qe.mp h with e|e
    .exact Qe.mpr (.inl e)
    .exact Qr _ (c g e)
theorem mW (f)(v):∀fs:List (M'×V),(fm f v fs).length<=fs.length+1
 | []=>by simp[fm]
 | (k,x)::r=>by
  have c:=mW f v r;rw[show fm f v ((k,x)::r)=(if k=f then (k,v)::r else (k,x)::fm f v r) from rfl]
  by_cases b:k=f
  .rw[PK b,QU,QU];lia
  .rw[Pr b,QU,QU];lia
theorem eK.some_of (r:eK (some v) o):∃u,o=some u/\aI v u:=by
 cases o with
 | none=>exact(show False from r).elim
 | some u=>exact⟨u,rfl,r⟩
theorem eK.none_of (r:eK none o):o=none:=by
 cases o with
 | none=>rfl
 | some u=>exact(show False from r).elim
theorem zU (r:aI v u):W.handedIn u=true:=by
 cases v with
 | Qb=>cases (show u=Xu from r);rfl
 | bl b=>cases (show u=UE b from r);rfl
 | int i=>obtain⟨t,e⟩:=(show ∃t,u=Ru i t from r);cases e;rfl
 | str x=>obtain⟨t,e⟩:=(show ∃t,u=í x t from r);cases e;rfl
 | Zz b=>obtain⟨t,e⟩:=(show ∃t,u=G'.bytes b t from r);cases e;rfl
 | Yw b=>obtain⟨t,e⟩:=(show ∃t,u=By b t from r);cases e;rfl
 | ref a=>cases (show u=Qu a from r);rfl
 | ty n=>cases (show u=TV n from r);rfl
theorem lX (PQ:Rq P w H h)(e:H a=some (.ins C dx fs)):∃mA,Ys h a dx C mA/\(∀f,eK (fs.lookup f) (mA f))/\ø mA (fs.map (·.1))/\fs.length<=1000/\H dx=some (.own a):=by
 obtain⟨d,z,ne,ob,mA,n,r,q⟩:=(show bt P w H h a (.ins C dx fs) from PQ a _ e)
 exact⟨mA,⟨ob,n,ne⟩,r,q,z,d⟩
structure VZ (K)(C):Prop where
 pg:ñ K C M'.empty=true
 hd:į K C=true
 po:W.plainOver K C=true
 sa:RY K (.ref C) "__setattr__"=some (some (.builtin "object.__setattr__"))
theorem VZ.get {K:Po}(c:VZ K C)(f:M'):ñ K C f=true:=c.pg
def gN (K:Po)(C:D')(f:M'):Prop:=RY K (.ref C) f=some none
theorem gN.agN {K:Po}(n:gN K C f):W.takerIn K C f=some none:=by
 unfold W.takerIn;rw[show RY K (.ref C) f=some none from n];rfl
structure XB (K)(C)(m)(f):Prop where
 at_:RY K (.ref C) m=some (some (.ref f))
 fn:W.isFn K (.ref f)=true
 kp:Vj K (.ref f)=true
theorem yn {σ:St}(I:Inv X ac σ H s)(e:H a=some (.ins C dx fs))(c:VZ X.K C)(n:gN X.K C f)(l:fs.lookup f=some v)(h:∀u s',Inv X ac σ H s'->aI v u->Q u s'):Pq (Px X.prog X.w) A (getAttr (.ref a) f b) Q E s:=by
 obtain⟨j,O,r,_,_,_⟩:=lX I.PQ e;obtain⟨u,g,d⟩:=eK.some_of (v:=v) (o:=j f) (by rw[<-l];exact r f);exact EK I.Re O (c.get f) c.hd n g (zU d) (h u _ (I.tok _) d)
theorem yo {σ:St}(I:Inv X ac σ H s)(e:H a=some (.ins C dx fs))(c:VZ X.K C)(k:XB X.K C m g)(l:fs.lookup m=none)(h:Q (.ref g,[.ref a]) s):Pq (Px X.prog X.w) A (getMethod (.ref a) m pl) Q E s:=by
 obtain⟨b,O,r,_,_,_⟩:=lX I.PQ e;have d:b m=none:=eK.none_of (by rw[<-l];exact r m);exact Cd I.Re O (c.get m) k.at_ k.fn d h
theorem yp {σ:St}(I:Inv X ac σ H s)(e:H a=some (.ins C dx fs))(c:VZ X.K C)(n:gN X.K C f)(hl:fs.length<1000)(ry:aI y u)(h:∀s',Inv X ac σ (upd H a (.ins C dx (fm f y fs))) s'->Q () s'):Pq (Px X.prog X.w) A (setAttr (.ref a) f u) Q E s:=by
 obtain⟨m,O,r,p,_,j⟩:=lX I.PQ e;have hz:(fs.map (·.1)).length<=PH:=by rw[Qx,QA];lia
 refine EL I.Re O c.sa c.po n.agN c.hd p hz λh' d v=>h _ ?_;have hd:∃o,h'.get? dx=some o:=let ⟨o,_,_,e',_⟩:=d.ns;⟨o,e'⟩;refine I.write (x:=a) (e:=dx) (by rw[e];exact Ti) (.inr j) (λb q t z=>(v.2 b t).trans z) hd ?_;refine⟨by rw[al O.ne];exact j,?_,O.ne,d.obj,_,d.ns,λg=>?_,λg D=>?_⟩
 .have:=mW f y fs;lia
 .show eK ((fm f y fs).lookup g) (if g=f then some u else m g);rw[mV]
  by_cases q:g=f
  .rw[PK q,PK q];exact ry
  .rw[Pr q,Pr q];exact r g
 .by_cases q:g=f
  .rw[q];exact(kX f y fs).1
  .refine(kX f y fs).2 g (p g λz=>D ?_);show(if g=f then some u else m g)=none;rw[Pr q];exact z
theorem Inv.made {σ:St}(I:Inv X ac σ H s):Inv X ac σ (upd (upd H s.heap.objs.size (.own (s.heap.objs.size+1))) (s.heap.objs.size+1) (.ins C s.heap.objs.size []))
  { s with heap:=(s.heap.push Xr).push (Yk C s.heap.objs.size) }:=by
 have c:(s.heap.push Xr).get? s.heap.objs.size=some Xr:=Rb s.heap rfl;have d:((s.heap.push Xr).push (Yk C s.heap.objs.size)).get? (s.heap.objs.size+1)=some (Yk C s.heap.objs.size):=by
  have:=Rb (s.heap.push Xr) (o:=Yk C s.heap.objs.size) rfl;rwa[Zg] at this
 have h:(s.heap.push Xr).Ns s.heap.objs.size (λ_=>none):=⟨Xr,#[],_,c,rfl,(λe j=>Py j (by simp)),λ_=>rfl⟩
 have f:=I.laid (a:=s.heap.objs.size) (o:=.own (s.heap.objs.size+1)) (h':=s.heap.push Xr) (t':=s.toks) (λb u q=>Qn _ q) (P1 _) ⟨_,c⟩;refine f.laid (a:=s.heap.objs.size+1) (o:=.ins C s.heap.objs.size []) (t':=s.toks) (λb u q=>Qn _ q) (Zo (Zg _ _)) ?_;have ne:s.heap.objs.size≠s.heap.objs.size+1:=Qw (Yd _);refine⟨by rw[al ne,ak],RA _,ne,d,λ_=>none,(Ps.Ns1.of_empty h).at λo q=>Qn _ q,λ_=>Ti,λy g=>Py rfl g⟩
theorem EM (hb:attributeBase e f env (eval e env)=eval e env)(h:Pq (Px prog w) A (eval e env) (λo P8=>Pq (Px prog w) A (getAttr o f true) Q E P8) E s):Pq (Px prog w) A (eval (.Attribute e f pos) env) Q E s:=
 Attribute_any_ h (by rw[arm_eval_Attribute,hb])
def L4 (K:Po)(ta:TE)(f:M'):TE:=λσ H Q=>ta σ H λx H1=>∃a C dx fs v,x=.ref a/\H1 a=some (.ins C dx fs)/\VZ K C/\gN K C f/\fs.lookup f=some v/\Q v H1
def L7 (K:Po)(ta tv:TE)(f:M'):TS:=λD σ H=>tv σ H λy H1=>ta σ H1 λx H2=>∃a C dx fs,x=.ref a/\H2 a=some (.ins C dx fs)/\VZ K C/\gN K C f/\fs.length<1000/\
 D.nx σ (upd H2 a (.ins C dx (fm f y fs)))
theorem iM (he:PE X e ta)(hb:attributeBase e f X.env (eval e X.env)=eval e X.env):PE X (.Attribute e f pos) (L4 X.K ta f):=by
 intro ac s p H Q I h;refine EM hb (PY (he ac s p H _ I h) λu s1 j=>?_);obtain⟨x,t,o,m,a,C,y,fs,v,ex,d,c,n,l,q⟩:=j;subst ex;obtain rfl:u=Qu a:=m;exact yn o d c n l λw s2 b g=>⟨v,t,b,g,q⟩
theorem zV (ha:PE X o ta)(hv:PE X value tv)(hs:swapsWith value (some (.Attribute o f pos')) pos.line X.env=pure false):PS X (.Assign [.Attribute o f pos'] value pos) (L7 X.K ta tv f):=by
 intro ac s b H D I h;refine plainObj_wpAny_Assign_Attribute (PY (hv ac s b H _ I h) λu s1 E=>QK E λy A w e q=>PY (ha ac s1 b A _ w q) λm s2 t=>?_) hs;obtain⟨x,F,d,v,a,C,G,fs,ex,j,c,n,l,p⟩:=t;subst ex;obtain rfl:m=Qu a:=v;exact yp d j c n l e λs3 g=>⟨b,_,g,p⟩
inductive UI (K:Po)(H:Hp):V->G'->Prop where
 | Qb:UI K H .Qb (.type "NoneType")
 | bl (x:Bool):UI K H (.bl x) (.type "bool")
 | int (i:Int):UI K H (.int i) (.type "int")
 | str (x:M'):UI K H (.str x) (.type "str")
 | Yw (x:UInt64):UI K H (.Yw x) (.type "float")
 | lst {a:D'}{xs:List V}(e:H a=some (.lst xs)):UI K H (.ref a) (.type "list")
 | Q2 {a:D'}{o:J'}{xs:List V}(e:H a=some (.Q2 o (.lst xs))):UI K H (.ref a) (.type "list")
 | tup {a:D'}{xs:List V}(e:H a=some (.tup xs)):UI K H (.ref a) (.type "tuple")
 | dK {a:D'}{kvs:List (Key×V)}(e:H a=some (.dK kvs)):UI K H (.ref a) (.type "dict")
 | dT {a:D'}{kvs:List (List Key×V)}(e:H a=some (.dT kvs)):UI K H (.ref a) (.type "dict")
 | ins {a C dx:D'}{fs:List (M'×V)}(e:H a=some (.ins C dx fs)) (cl:VZ K C) (ha:RY K (.ref C) "__class__"=some (some (.builtin "object.__class__")))
   (hn:W.specialIn K (.builtin "object.__class__") "__get__"=some (some (.builtin "getset_descriptor.__get__"))) (htk:W.takesIn K (.builtin "object.__class__")=some true)
   (hm:QF K C (.type "object")=some true):UI K H (.ref a) (.ref C)
theorem zW {σ:St}(I:Inv X ac σ H s)(rx:aI x u)(ty:UI X.K H x t)(e:UG X.K t c=some b)(h:∀tk,Q (.bool b) { s with toks:=tk }):
  Pq (Px X.prog X.w) A (call (.builtin "isinstance") [u,c]) Q E s:=by
 cases ty with
 | Qb=>cases (show u=Xu from rx);exact UF W.kitx_none I.Re Ti e (λz=>nomatch z) h
 | bl y=>cases (show u=UE y from rx);exact UF W.kitx_bool I.Re Ti e (λz=>nomatch z) h
 | int i=>obtain⟨t,q⟩:=(show ∃t,u=Ru i t from rx);cases q;exact UF W.kitx_int I.Re Ti e (λz=>nomatch z) h
 | str y=>obtain⟨t,q⟩:=(show ∃t,u=í y t from rx);cases q;exact UF W.kitx_str I.Re Ti e (λz=>nomatch z) h
 | Yw y=>obtain⟨t,q⟩:=(show ∃t,u=By y t from rx);cases q;exact UF W.kitx_float I.Re Ti e (λz=>nomatch z) h
 | @lst a xs d=>
  cases (show u=Qu a from rx);obtain⟨_,_,n,_,f⟩:=(show bt X.prog X.w H s.heap a (.lst xs) from I.PQ a _ d)
  exact UF W.kitx_list I.Re ⟨_,f,rfl⟩ e (λz=>nomatch z) h
 | @Q2 a ob xs d=>
  cases (show u=Qu a from rx);obtain⟨_,_,_,n,_,f⟩:=(show bt X.prog X.w H s.heap a (.Q2 ob (.lst xs)) from I.PQ a _ d)
  exact UF W.kitx_list I.Re ⟨_,f,rfl⟩ e (λz=>nomatch z) h
 | @tup a xs d=>
  cases (show u=Qu a from rx);obtain⟨_,_,_,p⟩:=(show bt X.prog X.w H s.heap a (.tup xs) from I.PQ a _ d)
  obtain⟨o,f,g,_⟩:=p;exact UF W.kitx_tuple I.Re ⟨o,f,g⟩ e (λz=>nomatch z) h
 | @dK a kvs d=>
  cases (show u=Qu a from rx);obtain⟨_,_,vs,_,p⟩:=(show bt X.prog X.w H s.heap a (.dK kvs) from I.PQ a _ d)
  obtain⟨o,es,ep,f,g,_⟩:=p;exact UF W.kitx_dict I.Re ⟨o,f,g.1⟩ e (λz=>nomatch z) h
 | @dT a kvs d=>
  cases (show u=Qu a from rx);obtain⟨_,_,xs,_,o,es,ep,f,g,_⟩:=(show bt X.prog X.w H s.heap a (.dT kvs) from I.PQ a _ d)
  exact UF W.kitx_dict I.Re ⟨o,f,g.1⟩ e (λz=>nomatch z) h
 | @ins a C G fs d cl D v j m=>
  cases (show u=Qu a from rx);obtain⟨F,O,_⟩:=lX I.PQ d;obtain⟨od,J,_⟩:=O.look;exact UF (W.kitx_own (cl.get _) cl.hd D v j m) I.Re J e (λz=>nomatch z) h
structure Pn (k:Nat)(A:P7):Prop where
 hd:A.handled=none
 dp:A.depth+3*k+5<recursionLimit
 un:A.units+16*k+200<Qv
 gd:A.guards=some []
theorem Pn.mono (r:Pn k A)(h:j<=k):Pn j A:=⟨r.hd,by have:=r.dp;lia,by have:=r.un;lia,r.gd⟩
theorem Pn.deeper (r:Pn (k+1) A)(env):Pn k (A.deeper env):=
 ⟨r.hd,by have:=r.dp;show A.depth+1+3*k+5<_;lia,by have:=r.un;show A.units+3+16*k+200<_;lia,r.gd⟩
theorem yq {A:P7}:(A.under (.builtin "type.__call__" ⟨.ref C::us,kw⟩)).depth=A.depth+1:=by
 first|rfl|simp[Ć,Code.weight,Code.isCreation,Code.isGuard,Code.isCaller,Code.frames,ş,guardIds]
theorem yr {A:P7}:(A.under (.builtin "type.__call__" ⟨.ref C::us,kw⟩)).units=A.units+1:=by
 first|rfl|simp[Ć,Code.cUnits,Code.frames,ş]
theorem Pn.make (r:Pn (k+1) A)(C)(us)(kw):Pn k (A.under (.builtin "type.__call__" ⟨.ref C::us,kw⟩)):=
 ⟨r.hd,by have:=r.dp;rw[yq];lia,by have:=r.un;rw[yr];lia,by
  first|exact r.gd|(have g:=r.gd;simp[Ć,Code.guards,Code.isGuard,guardIds,pushGuards,g])⟩
theorem Pn.depth (r:Pn k A):A.depth<recursionLimit:=by have:=r.dp;lia
theorem Pn.units (r:Pn k A):A.units+64<Qv:=by have:=r.un;lia
theorem Pn.Yp (r:Pn k A):A.units<Qv:=by have:=r.un;lia
def kY:TA:=λ_ H Q=>Q [] H
def e9 (ta:TE)(tr:TA):TA:=λσ H Q=>ta σ H λx H1=>tr σ H1 λxs H2=>Q (x::xs) H2
theorem ad:PA X [] kY:=λ_ _ _ _ H Q I h=>Ş ⟨[],H,I,.nil,h⟩
theorem aa (ha:PE X e te)(hr:PA X es t)(hs:QX (e::es) X.env=(false,eval e X.env)::QX es X.env:=by rfl):PA X (e::es) (e9 te t):=by
 intro pos ac s c H Q I h;rw[hs];show Pq _ _ (spliced ((false,eval e X.env)::backTo pos (QX es X.env))) _ _ s;refine ρ (PY (ha ac s c H _ I h) λu s1 b=>QK b λx n m r1 g=>?_);exact PY (hr pos ac s1 c n _ m g) λus s2 b=>QK b λxs j d r2 f=>⟨x::xs,j,d,.cons r1 r2,f⟩
def tT (t:TA):TE:=λσ H Q=>t σ H λxs H1=>xs.length<=PH/\∀p,H1 p=none->Q (.ref p) (upd H1 p (.tup xs))
def L8 (t:TA):TE:=λσ H Q=>t σ H λxs H1=>xs.length<=PH/\∀p,H1 p=none->Q (.ref p) (upd H1 p (.lst xs))
theorem aZ {x1}(h:PA X es t):PE X (.Tuple es x1 pos) (tT t):=by
 intro ac s g H Q I f;refine wpAny_Tuple_spliced (PY (h pos ac s g H _ I f) λus s1 ⟨xs,d,c,r,z,q⟩=>⟨by rw[<-r.length];exact z,?_⟩);have j:d s1.heap.objs.size=none:=c.PQ.fresh (P1 _);refine⟨.ref s1.heap.objs.size,upd d s1.heap.objs.size (.tup xs),c.laid (t':=s1.toks) (λb u e=>Qn _ e) (P1 _) ?_,rfl,q _ j⟩;exact⟨z,us,r,⟨_,Rb _ rfl,rfl,_,rfl,rfl⟩⟩
theorem bC (h:PA X es t):PE X (.List es pos) (L8 t):=by
 intro ac s g H Q I f;refine wpAny_List_spliced (PY (h pos ac s g H _ I f) λus s1 ⟨xs,d,c,r,z,q⟩=>⟨by rw[<-r.length];exact z,?_⟩);have j:d s1.heap.objs.size=none:=c.PQ.fresh (P1 _);refine⟨.ref s1.heap.objs.size,upd d s1.heap.objs.size (.lst xs),c.laid (t':=s1.toks) (λb u e=>Qn _ e) (P1 _) ?_,rfl,q _ j⟩;exact⟨z,us,0,r,Rb _ rfl⟩
abbrev Sp:=List V->Hp->VK->XK->Prop
abbrev Si:=List RD->Hp->N'->XK->G'->N'->Prop
structure VR (P:PU)(w:Pz)(K:Po)(mg:M'->Option G')(base:Ps)(A:P7)(outer:List RD)(s:N')(H:Hp):Prop where
 frames:A.frames=some outer
 mod:Mod K mg base
 bs:∀b o,base.get? b=some o->s.heap.get? b=some o/\H b=none
 Vt:base.objs.size<=s.heap.objs.size
 Tk:s.heap.FunFrames base outer
 Vu:∀b∈QS outer,H b=none
 PQ:Rq P w H s.heap
 bare:VO s.gens
def CE (outer:List RD)(P:PU)(w:Pz)(H:Hp)(s:N')(Q:VK)(u:G')(s':N'):Prop:=
 ∃v H',s'.os=s.os/\VO s'.gens/\Un (QS outer) [] H H' s.heap s'.heap/\Rq P w H' s'.heap/\aI v u/\Q v H'
def CR (CX:Si)(outer:List RD)(P:PU)(w:Pz)(H:Hp)(s:N')(Q:VK)(E:XK)(r:Result)(s':N'):Prop:=
 match r with
 | .ok (.ret u)=>CE outer P w H s Q u s'
 | .ok _=>False
 | .error e=>CX outer H s E e s'
structure P4 (P:PU)(w:Pz)(K:Po)(mg:M'->Option G')(base:Ps)(CX:Si)(k:Nat)(f:D')(fd:P5)(ps:List M')(sp:Sp):Prop where
 len:∀vs H Q E,sp vs H Q E->vs.length=ps.length
 run:∀(A:P7) (outer:List RD) (s:N') (H:Hp) (args:Args) (us:List G') (vs:List V) (Q:VK) (E:XK),Pn k A->VR P w K mg base A outer s H->Á s fd args (ps.zip us)->aL vs us->sp vs H Q E->
  codeAny (Px P w) A (.call (.ref f) args) (CR CX outer P w H s Q E) s
theorem VR.make {K:Po}(e:VR P w K mg base A outer s H)(C:D')(us:List G')(kw:List (M'×G')):
  VR P w K mg base (A.under (.builtin "type.__call__" ⟨.ref C::us,kw⟩)) outer s H:=⟨by first|exact e.frames|(simpa [Ć,Code.envs,ş,pushEnvs] using e.frames),e.mod,e.bs,e.Vt,e.Tk,e.Vu,e.PQ,e.bare⟩
theorem Inv.abu {σ:St}(I:Inv X ac σ H s):VR X.prog X.w X.K X.mg X.base X.A X.stack s H:=
 ⟨I.ok.frames,I.ok.mod,I.bs,RX I.ok.Vt I.sz,I.stack,I.abk,I.PQ,I.bare⟩
theorem Inv.after {σ:St}(I:Inv X ac σ H s)(h:CE X.stack X.prog X.w H s Q u s'):EP X ac σ Q u s':=by
 obtain⟨v,e,os,bare,un,c,r,q⟩:=h;obtain⟨f,g,d,t,os'⟩:=s';obtain rfl:os'=s.os:=os;exact⟨v,e,I.call (h':=f) (g':=g) (d':=d) (t':=t) (ch:=[]) un c bare (λb z=>Py z (by simp)),r,q⟩
def KO (C:D')(m:M')(sp:Sp)(RV:List V)(E:XK)(ta:TE)(t:TA):TE:=λσ H Q=>ta σ H λx H1=>∃a dx fs,x=.ref a/\H1 a=some (.ins C dx fs)/\fs.lookup m=none/\
 t σ H1 λvs H2=>sp (x::(vs++RV)) H2 Q E
def KP (C:D')(sp:Sp)(RV:List V)(E:XK)(t:TA):TE:=λσ H Q=>t σ H λvs H1=>∀x dx,H1 x=none->H1 dx=none->dx≠x->
 sp (.ref x::(vs++RV)) (upd (upd H1 dx (.own x)) x (.ins C dx [])) (λv H2=>v=.Qb/\Q (.ref x) H2) E
def bA (K:Po)(fd:P5)(ps:List M')(ds:List G'):Prop:=
 ∀(s:N') (us:List G'),K.In s.heap->(us++ds).length=ps.length->Á s fd ⟨us,[]⟩ (ps.zip (us++ds))
theorem bA.all {K:Po}(h:∀us:List G',us.length=ps.length->bindArgs fd ⟨us,[]⟩=pure (ps.zip us)):bA K fd ps []:=λs us _ b=>by
 rw[Vg] at b ⊢;exact .of_eq (h us b)
def jC (CX:Si)(X:Cx)(E:XK):Prop:=∀(ac:List (D'×J')) (σ:St) (H:Hp) (s:N') (e:G') (s':N'),Inv X ac σ H s->CX X.stack H s E e s'->X.xe e s'
theorem Gj {X:Cx}{CX:Si}{k:Nat}{f:D'}{fd:P5}{ps:List M'}{sp:Sp}{RV:List V}{ds:List G'}{E:XK}{ac:List (D'×J')}{σ:St}{H:Hp}{s:N'}{Q:VK}{us:List G'}{vs:List V}(F:P4 X.prog X.w X.K X.mg X.base CX k f fd ps sp)(hr:Pn k X.A)(hb:bA X.K fd ps ds)(hd:aL RV ds)(hx:jC CX X E)(I:Inv X ac σ H s)(r:aL vs us)(h:sp (vs++RV) H Q E):Pq (Px X.prog X.w) X.A (call (.ref f) us) (EP X ac σ Q) X.xe s:=by
 have r2:aL (vs++RV) (us++ds):=r.append hd;have c:(us++ds).length=ps.length:=by rw[<-r2.length];exact F.len _ _ _ _ h
 refine Ò (Xq (F.run X.A X.stack s H ⟨us,[]⟩ (us++ds) (vs++RV) Q E hr I.abu (hb s us I.Re c) r2 h) λr d b=>?_);cases r with
 | error e=>exact hx ac σ H s e d I b
 | ok g=>
  cases g with
  | ret u=>exact I.after b
  | next=>exact SH b
  | brk=>exact SH b
  | cont=>exact SH b
theorem wO (he:PE X o ta)(c:VZ X.K C)(hm:XB X.K C m f)(F:P4 X.prog X.w X.K X.mg X.base CX k f fd ps sp)(hr:Pn k X.A)(hb:bA X.K fd ps ds)(hd:aL RV ds)(hx:jC CX X E)(ha:PA X (e::es) t)(VX:QX (e::es) X.env=(false,eval e X.env)::QX es X.env:=by rfl)(S8:(backTo pos (QX es X.env)).any (·.1)=false:=by rfl)(ht:eval (.Call (.Attribute o m apos) (e::es) [] pos) X.env=(do
   let ov <-eval o X.env
   standAt apos.atName
   let (f,first) <-holding [ov] (getMethod ov m pl)
   callWith pos f first (backTo pos (QX (e::es) X.env)) (backToKw pos (keywordEach [] X.env))):=by rfl):
  PE X (.Call (.Attribute o m apos) (e::es) [] pos) (KO C m sp RV E ta t):=by
 intro ac s g H Q I h;refine W.methodCall_KW (pl:=pl) (PY (he ac s g H _ I h) λu s1 p=>?_) ht;obtain⟨x,y,d,v,a,J,fs,ex,j,l,q⟩:=p;subst ex;obtain rfl:u=Qu a:=v;refine yo d j c hm l ?_;refine W.callWith_K (first:=[.ref a]) (h₀:=X.base) I.ok.mod.XE hm.kp (PY (ha pos ac s1 g y _ d q) λus s2 D=>QK D λvs G b r n=>⟨b.Re,?_⟩) VX S8;exact Gj (us:=.ref a::us) (vs:=.ref a::vs) F hr hb hd hx b (.cons rfl r) n
structure Mk (K)(C f):Prop where
 makes:W.makesIn K C=true
 init:RY K (.ref C) "__init__"=some (some (.ref f))
 fn:W.isFn K (.ref f)=true
 kp:Vj K (.ref C)=true
variable {X:Cx}{CX:Si}{k:Nat}{f:D'}{C:D'}{fd:P5}{ps:List M'}{sp:Sp}{RV:List V}{ds:List G'}{E:XK}{x:M'} in
theorem Cf {ac:List (D'×J')}{σ:St}{H:Hp}{s:N'}{Q:VK}{us:List G'}{vs:List V}(M:Mk X.K C f)(F:P4 X.prog X.w X.K X.mg X.base CX k f fd ps sp)(hr:Pn (k+1) X.A)(hb:bA X.K fd ps ds)(hd:aL RV ds)(hx:jC CX X E)(I:Inv X ac σ H s)(r:aL vs us)(h:∀x dx,H x=none->H dx=none->dx≠x->sp (.ref x::(vs++RV)) (upd (upd H dx (.own x)) x (.ins C dx [])) (λv H2=>v=.Qb/\Q (.ref x) H2) E):
  Pq (Px X.prog X.w) X.A (call (.ref C) us) (EP X ac σ Q) X.xe s:=by
 have d:=h (s.heap.objs.size+1) s.heap.objs.size (I.PQ.fresh (Zq _)) (I.PQ.fresh (P1 _)) (Qw (Yd _));have c:=Inv.made (C:=C) I;have r2:aL (V.ref (s.heap.objs.size+1)::(vs++RV)) (Qu (s.heap.objs.size+1)::(us++ds)):=.cons rfl (r.append hd);have j:(Qu (s.heap.objs.size+1)::us++ds).length=ps.length:=by
  have e:=r2.length;rw[F.len _ _ _ _ d] at e;exact e.symm
 refine Ò (Ce (f:=f) I.Re M.makes M.init (beq_iff_eq.mp M.fn) (Xq (F.run _ X.stack _ _ ⟨Qu (s.heap.objs.size+1)::us,[]⟩ (Qu (s.heap.objs.size+1)::(us++ds)) _ _ E (hr.make C us [])
  (c.abu.make C us []) (hb _ (Qu (s.heap.objs.size+1)::us) c.Re j) r2 d) λr m b=>?_))
 cases r with
 | error e=>exact hx ac σ _ _ e m c b
 | ok o=>
  cases o with
  | ret u=>
   obtain⟨v,t,p,g,ev,n⟩:=c.after b;subst ev;exact⟨g,⟨V.ref (s.heap.objs.size+1),t,p,rfl,n⟩⟩
  | next=>exact SH b
  | brk=>exact SH b
  | cont=>exact SH b
theorem tU (M:Mk X.K C f)(F:P4 X.prog X.w X.K X.mg X.base CX k f fd ps sp)(hr:Pn (k+1) X.A)(hg:Gl X x)(hm:X.mg x=some (.ref C))(hb:bA X.K fd ps ds)(hd:aL RV ds)(hx:jC CX X E)(T4:(x==("__debug__":M'))=false:=by decide):PE X (.Call (.Name x p) [] [] pos) (KP C sp RV E kY):=by
 intro ac s b H Q I h;refine τ (iw I hg hm ?_ T4);exact W.callWith_K0 I.Re M.kp (Cf (us:=[]) M F hr hb hd hx I .nil h)
structure QE (N P:List M')(sc:Su):Prop where
 kind:sc.kind=.function:=by rfl
 co:sc.isCoroutine=false:=by rfl
 gen:sc.isGenerator=false:=by rfl
 nd:N.Nodup:=by decide +kernel
 pre:N.take P.length=P:=by rfl
 par:∀x∈P,sc.names.lookup x=some .local \/sc.names.lookup x=some .cell:=by decide +kernel
 agH:∀y∈sc.names,y.2≠.free:=by decide +kernel
theorem qN {kindOf:M'->Option Wn}:∀{binds:List (M'×G')}{m:M'->Option G'},(∀v,(x,v)∉binds)->bindL kindOf binds m x=m x
 | [],_,_=>rfl
 | (n,v)::r,m,h=>by
  unfold bindL;rw[qN λw b=>h w (Qr _ b)]
  split
  .have:x≠n:=by rintro rfl;exact h v Qa
   simp[this]
  .rfl
theorem qO {kindOf:M'->Option Wn}:∀{binds:List (M'×G')}{m:M'->Option G'},(∀v,(x,v)∉binds)->bindC kindOf binds m x=m x
 | [],_,_=>rfl
 | (n,v)::r,m,h=>by
  unfold bindC;rw[qO λw b=>h w (Qr _ b)]
  split
  .rfl
  .have:x≠n:=by rintro rfl;exact h v Qa
   simp[this]
theorem qP {kindOf:M'->Option Wn}:∀{P:List M'}{vs:List G'}{i:Nat}{m:M'->Option G'},P.Nodup->P[i]?=some x->vs[i]?=some v->kindOf x=some .local ->
  bindL kindOf (P.zip vs) m x=some v
 | [],_,_,_,_,h,_,_=>by simp at h
 | _::_,[],_,_,_,_,h,_=>by simp at h
 | p::P,w::vs,0,m,nd,b,c,d=>by
  simp at b c;subst b;subst c;show bindL kindOf ((p,w)::P.zip vs) m p=_;unfold bindL;rw[qN λv e=>(Tw.mp nd).1 (ź e).1,PK d];simp
 | p::P,w::vs,i+1,m,nd,b,c,d=>by
  show bindL kindOf ((p,w)::P.zip vs) m x=_;unfold bindL;exact qP (i:=i) (Tw.mp nd).2 (by simpa using b) (by simpa using c) d
theorem qQ {kindOf:M'->Option Wn}:∀{P:List M'}{vs:List G'}{i:Nat}{m:M'->Option G'},P.Nodup->P[i]?=some x->vs[i]?=some v->kindOf x≠some .local ->
  bindC kindOf (P.zip vs) m x=some v
 | [],_,_,_,_,h,_,_=>by simp at h
 | _::_,[],_,_,_,_,h,_=>by simp at h
 | p::P,w::vs,0,m,nd,b,c,d=>by
  simp at b c;subst b;subst c;show bindC kindOf ((p,w)::P.zip vs) m p=_;unfold bindC;rw[qO λv e=>(Tw.mp nd).1 (ź e).1,Pr d];simp
 | p::P,w::vs,i+1,m,nd,b,c,d=>by
  show bindC kindOf ((p,w)::P.zip vs) m x=_;unfold bindC;exact qQ (i:=i) (Tw.mp nd).2 (by simpa using b) (by simpa using c) d
noncomputable def gG (N:List M')(vs:List V):St:=vs.map some++Rj (N.length-vs.length) none
noncomputable def eS (CX:Si)(P:PU)(w:Pz)(K:Po)(mg:M'->Option G')(base:Ps)(N:List M')(qual:M')(scope:Su)(f:D')(cd:G')(A:P7)(outer:List RD)(s:N')(H:Hp)(E:XK):Cx where
 prog:=P
 w:=w
 K:=K
 mg:=mg
 base:=base
 A:=A.deeper (envOfC qual scope s.heap.objs.size f cd)
 N:=N
 QY:=s
 Yr:=H
 env:=envOfC qual scope s.heap.objs.size f cd
 outer:=outer
 stack:=envOfC qual scope s.heap.objs.size f cd::outer
 ex:=[]
 calm:=true
 fn:=λ_=>true
 pn:=[]
 xe:=λe s'=>Pq (Px P w) (A.deeper (envOfC qual scope s.heap.objs.size f cd)) (leaving (envOfC qual scope s.heap.objs.size f cd) e) (λ_ RE=>CX outer H s E e RE) (λe' RE=>CX outer H s E e' RE) s'
theorem tV {sc:Su}(h:sc.names.lookup x=some .cell):∃c,(cellsFrom n sc.names []).lookup x=some c:=by
 have q:=W.cellsFrom_some sc.names n [] (.inl h);exact V9.mp q
theorem zX {K:Po}(S:QE N ps scope)(hd:A.handled=none)(e0:VR P w K mg base A outer s H)(hl:vs.length=ps.length)(r:aL vs us)(x:InCallC s s.heap.objs.size (bindL (envOfC qual scope s.heap.objs.size f cd).kindOf (ps.zip us) λ_=>none) (cellsFrom (s.heap.objs.size+1) scope.names []) (bindC (envOfC qual scope s.heap.objs.size f cd).kindOf (ps.zip us) λ_=>none) s1):
  Inv (eS CX P w K mg base N qual scope f cd A outer s H E) [] (gG N vs) H s1:=by
 have J:ps.length<=N.length:=by have:=congrArg Xs S.pre;rw[SO] at this;lia
 obtain⟨m,L,rfl,t⟩:=x.done;have o:∀b:D',b∉(eS CX P w K mg base N qual scope f cd A outer s H E).ex:=λb z=>Py (show b∈([]:List D') from z) (by simp);refine⟨⟨e0.mod,S.kind,rfl,rfl,P1 _,λy z c m d=>?_,λy hy=>?_,λy c _ h=>?_,λ_=>hd,agg e0.frames,.inr ⟨rfl,rfl⟩,λb z=>Py z (o b),e0.bs,e0.Vt,λb _ _=>o b,λb z=>Py z (o b),e0.Tk,e0.Vu⟩,
  rfl,e0.bare,Un.kept t,⟨_,x.toInCall.ns,λi y v m d I=>?_⟩,λy c h=>⟨_,x.cell y c h⟩,e0.PQ.fresh (P1 _),λy c h=>?_,λp g=>Py (show p∈([]:List (D'×J')) from g) (by simp),e0.PQ.kept t,?_⟩
 .exact name_of_addr x.apart (Uf m) (Uf d)
 .have hy:scope.names.lookup y=some .cell\/scope.names.lookup y=some .free:=hy;rcases hy with hy|hy
  .exact tV hy
  .exact Py rfl (S.agH _ (Uf hy))
 .exact Yh (x.above y c (Uf h))
 .have j:i<vs.length:=by
   unfold gG at d
   by_cases j:i<vs.length
   .exact j
   .rw[YZ (by simpa using j)] at d;rw[afX] at d
    split at d <;> cases d
  have G:vs[i]?=some v:=by
   unfold gG at d;rw[Xh (by simpa using j),So] at d;cases e:vs[i]? with
   | none=>rw[e] at d;cases d
   | some a=>rw[e] at d;cases d;rfl
  obtain⟨u,C,F⟩:=r.get G;have g:ps[i]?=some y:=by
   rw[<-S.pre,Ų (by lia)];exact m
  have D:ps.Nodup:=by rw[<-S.pre];exact S.nd.sublist (ğ _ _)
  refine⟨u,F,?_⟩;rcases S.par y (Q6 g) with k|k
  .exact .inl ⟨k,qP D g C k⟩
  .obtain⟨c,e⟩:=tV (n:=s.heap.objs.size+1) k;refine .inr ⟨.inl k,c,e,?_⟩;have q:=x.cell y c e;rw[qQ D g C (by show scope.names.lookup y≠_;rw[k];decide)] at q;exact q
 .exact e0.PQ.fresh (Yh (x.above y c (Uf h)))
 .unfold gG;show _=N.length;rw[Rt,Qx,agb];lia
theorem yt {CX:Si}{P:PU}{w:Pz}{K:Po}{mg:M'->Option G'}{base:Ps}{k:Nat}{f:D'}{name qual:M'}{params:Zt}{body:List PD}{scope:Su}{dV kV doc pm P3 ct oc:G'}{an od:Option D'}{SV:Array (Option G')}{N ps:List M'}{sp:Sp}(lk:K.lookup f=some ⟨oc,od,.func (Wo name qual params body scope dV kV doc pm an P3 ct),SV⟩)(R5:î K P3 qual=true)(S:QE N ps scope)(len:∀vs H Q E,sp vs H Q E->vs.length=ps.length)(Ws:∀(A:P7) (outer:List RD) (s:N') (H:Hp) (vs:List V) (Q:VK) (E:XK),Pn k (A.deeper (envOfC qual scope s.heap.objs.size f P3))->sp vs H Q E->
   ∃t,SC (eS CX P w K mg base N qual scope f P3 A outer s H E) body t/\t { nx:=λ_ H'=>Q .Qb H',rt:=Q } (gG N vs) H):
  P4 P w K mg base CX (k+1) f (Wo name qual params body scope dV kV doc pm an P3 ct) ps sp:=by
 refine⟨len,λA outer s H args us vs Q E h d O r C=>?_⟩;have F:=len _ _ _ _ C;have D:K.In s.heap:=d.mod.XE.keeps λb o e=>(d.bs b o e).1;have lim:s.heap.NoLimit:=d.mod.nolimit.keeps λb o e=>(d.bs b o e).1;have j:∀y∈ps.zip us,scope.names.lookup y.1=some .local \/(scope.names.lookup y.1=some .cell/\((cellsFrom (s.heap.objs.size+1) scope.names []).lookup y.1).isSome=true):=λ⟨n,v⟩ G=>by
  rcases S.par n (ź G).1 with q|q
  .exact .inl q
  .exact .inr ⟨q,W.cellsFrom_some _ _ _ (.inl q)⟩
 refine codeAny_call_function h.depth (D _ _ lk) rfl S.co S.gen rfl (W.codeRec_of D R5) (O _ _ _ _ ?_);refine wpAny_newFunctionEnv_cells S.kind j λenv M s1 x=>?_;subst M;refine⟨lim.keeps x.toInCall.keep,codeAny_func ?_⟩;obtain⟨t,T,R⟩:=Ws A outer s H vs Q E (h.deeper _) C;have I:Inv (eS CX P w K mg base N qual scope f P3 A outer s H E) [] (gG N vs) H s1:=zX S h.hd d F r x;refine UY (T [] s1 (gG N vs) H _ I R) (λL p c=>?_) λe p c=>c;have fin:∀{g:St}{H':Hp}{v:V}{u:G'},Inv (eS CX P w K mg base N qual scope f P3 A outer s H E) [] g H' p->aI v u->Q v H'->CE outer P w H s Q u p:=
  λ{g H' v u} J m q=>⟨v,H',J.os,J.bare,J.base,J.PQ,m,q⟩
 cases L with
 | ret u=>
  obtain⟨v,g,H',J,m,q⟩:=c;exact fin J m q
 | next=>
  obtain⟨g,H',J,q⟩:=c;exact fin (v:=V.Qb) (u:=Xu) J rfl q
 | brk=>
  obtain⟨_,_,_,q⟩:=c;exact SH q
 | cont=>
  obtain⟨_,_,_,q⟩:=c;exact SH q
def tCB (r:List V->Hp->VK->Prop)(t:TA):TE:=λσ H Q=>t σ H λvs H1=>r vs H1 Q
theorem aG {id:String}(hc:cF X (.builtin id) r)(hg:Gl X x)(hm:X.mg x=none)(hv:SF x=some (.builtin id))(ha:PA X (e::es) t)(hn:x≠"__name__":=by decide)(T4:(x==("__debug__":M'))=false:=by decide)(he:QX (e::es) X.env=(false,eval e X.env)::QX es X.env:=by rfl)(S8:(backTo pos (QX es X.env)).any (·.1)=false:=by rfl):PE X (.Call (.Name x p) (e::es) [] pos) (tCB r t):=by
 intro ac s b H Q I h;refine τ (kS I hg hm hv ?_ hn T4);exact PyProof.Rows.callWith_builtin1 (PY (ha pos ac s b H _ I h) λus s1 g=>QK g λvs f d r1 c=>hc ac s1 b f vs us Q d r1 c) he S8
theorem bX (hc:cF X (.type T) r)(hg:Gl X x)(hm:X.mg x=none)(hv:SF x=some (.type T))(ha:PA X (e::es) t)(hn:x≠"__name__":=by decide)(T4:(x==("__debug__":M'))=false:=by decide)(he:QX (e::es) X.env=(false,eval e X.env)::QX es X.env:=by rfl)(S8:(backTo pos (QX es X.env)).any (·.1)=false:=by rfl):PE X (.Call (.Name x p) (e::es) [] pos) (tCB r t):=by
 intro ac s b H Q I h;refine τ (kS I hg hm hv ?_ hn T4);exact Ŋ (PY (ha pos ac s b H _ I h) λus s1 g=>QK g λvs f d r1 c=>hc ac s1 b f vs us Q d r1 c) he S8
end L2
namespace HT
open PySem PyProof.Rows
noncomputable def bW:List Int->List Int->Bool
 | [],[]=>false
 | [],_::_=>true
 | _::_,[]=>false
 | x::xs,y::ys=>if x=y then bW xs ys else decide (x<y)
theorem fb (x y:Int)(xs ys):bW (x::xs) (y::ys)=if x=y then bW xs ys else decide (x<y):=rfl
theorem F7:bW [] []=false:=rfl
theorem pR (y:Int)(ys):bW [] (y::ys)=true:=rfl
theorem pT (x:Int)(xs):bW (x::xs) []=false:=rfl
section
open PySem.SeqAt
open PySem.AutoSeq1 (wpAny_loadPart')
open PySem.MeetsSeq PySem.MeetsSeq2 PySem.MeetsSeq3
end
theorem EN (ht:IsTup s.heap t vs.toArray)(hb:IsTup s.heap b ws.toArray)(hv:vs≠[])(h1:ws=[]->Q (.ref t) s)(h2:ws≠[]->Q (.ref s.heap.objs.size) { s with heap:=s.heap.push { cls:=.type "tuple",data:=.seq (vs++ws).toArray } })(hsz:vs.length+ws.length<=PH):Pq (Px prog w) A (binaryOp .Add (.ref t) (.ref b)) Q E s:=by
 obtain⟨⟨cls,dd,data,o⟩,g,m,n,hd⟩:=id ht;obtain⟨⟨u,c,data2,d⟩,h,j,p,hd2⟩:=id hb;simp only at m hd j hd2;subst m hd j hd2;have e:vs.toArray++ws.toArray=(vs++ws).toArray:=by simp
 by_cases f:ws=[]
 .exact concat_meets ⟨_,g,rfl⟩ ⟨_,h,rfl⟩ ļ Ľ Ŧ Ť (ţ _ _)
   (tuple_addW1 t b vs.toArray ws.toArray n p dd c o d (by simpa using hv) (by simp[f])) ⟨g,h,h1 f⟩
 .refine concat_meets ⟨_,g,rfl⟩ ⟨_,h,rfl⟩ ļ Ľ Ŧ Ť (ţ _ _)
   (tuple_addW2 t b vs.toArray ws.toArray n p dd c o d (by simpa using hv) (by simpa using f) (by rw[QI,QI];exact hsz)) ⟨g,h,?_⟩
  rw[e];exact h2 f
noncomputable def Qg (n d:Nat):Option Int->Nat
 | none=>d
 | some v=>if v<0 then (v+(n:Int)).toNat else min v.toNat n
theorem tW (n d:Nat):Qg n d none=d:=rfl
theorem EO (n d k:Nat):Qg n d (some (k:Int))=min k n:=by
 show(if (k:Int)<0 then ((k:Int)+(n:Int)).toNat else min (k:Int).toNat n)=min k n;rw[Pr (by lia),UT]
theorem Gk (n d:Nat)(hd:d<=n)(o):Qg n d o<=n:=by
 cases o with
 | none=>exact hd
 | some v=>
  show(if v<0 then (v+(n:Int)).toNat else min v.toNat n)<=n
  by_cases b:v<0
  .rw[PK b];lia
  .rw[Pr b];exact Nat.min_le_right _ _
theorem wP (v:Int)(n d:Nat):(if v<0 then max (v+(n:Int)) 0 else min v (n:Int))=((Qg n d (some v):Nat):Int):=by
 show(if v<0 then max (v+(n:Int)) 0 else min v (n:Int))=(((if v<0 then (v+(n:Int)).toNat else min v.toNat n):Nat):Int)
 by_cases b:v<0
 .simp only[PK b];lia
 .simp only[Pr b];lia
theorem yu (lo hi)(n:Nat):ś lo hi 1 (n:Int)=(((Qg n 0 lo:Nat):Int),((Qg n n hi:Nat):Int)):=by
 have b:¬((1:Int)<0):=by (first|trivial|lia)
 unfold ś;simp only[b,if_false];refine Prod.ext ?_ ?_
 .cases lo with
  | none=>rfl
  | some v=>exact wP v n 0
 .cases hi with
  | none=>rfl
  | some v=>exact wP v n n
theorem yw (i j:Nat):Ċ (i:Int) (j:Int) 1=j-i:=by
 unfold Ċ;have b:(1:Int) > 0:=by (first|trivial|lia)
 simp only[b,if_true,Int.ediv_one]
 split <;> lia
theorem oy (p:Yn v o)(h:Q o s):Pq (Px prog w) A (S7.Slice.slicePartIndex v) Q E s:=by
 cases p with
 | none=>exact slicePart_none h
 | int i t=>exact slicePart_int h
theorem nB {prog:PU}{w:Pz}{A:P7}{E:G'->N'->Prop}{s:N'}{sl:D'}{vl vu:G'}{lo hi:Option Int}{n:Nat}{Q:Int×Int×Nat->N'->Prop}(hs:s.heap.IsSliceOf sl vl vu .none)(pl:Yn vl lo)(pu:Yn vu hi)(h:Q (((Qg n 0 lo:Nat):Int),1,Qg n n hi-Qg n 0 lo) s):Pq (Px prog w) A (afN (.ref sl) (pure (n:Int))) Q E s:=by
 obtain⟨os,c,d,b⟩:=id hs;unfold afN S7.Slice.sliceFields;refine Pm (Pm (wpAny_field c b (x:=vl) rfl (Pm (wpAny_field c b (x:=vu) rfl (Pm (wpAny_field c b (x:=.none) rfl (Pu ?_)))))));refine Pm (slicePart_none ?_);show Pq _ _ (if ((1:Int)==0)=true then _ else _) _ _ s;rw[Pr (by decide)];refine Pm (oy pl (Pm (oy pu (Pm (Pu ?_)))));show Pq _ _ (match ś lo hi 1 (n:Int) with|(lo,hi)=>pure (lo,(1:Int),Ċ lo hi 1)) _ _ s;rw[yu lo hi n];show Pq _ _ (pure (((Qg n 0 lo:Nat):Int),(1:Int),Ċ ((Qg n 0 lo:Nat):Int) ((Qg n n hi:Nat):Int) 1)) _ _ s;rw[yw];exact Pu h
theorem Cg (xs:Array G')(i k:Nat):((Q3 k).filterMap λ(m:Nat)=>xs[((i:Int)+(m:Int)*1).toNat]?).toArray=((xs.toList.drop i).take k).toArray:=by
 have e:(λ(m:Nat)=>xs[((i:Int)+(m:Int)*1).toNat]?)=λm=>xs[i+m]?:=by
  funext m
  have:((i:Int)+(m:Int)*1).toNat=i+m:=by lia
  rw[this]
 rw[e];have:=pick_run xs i k;rw[List.filterMap_map] at this;have b:((λx=>xs[x]?)∘λx=>i+x)=λm=>xs[i+m]?:=rfl;rw[b] at this;rw[this]
theorem mU {lo hi:Option Int}(ht:IsTup s.heap t items)(hs:s.heap.IsSliceOf sl vl vu .none)(pl:Yn vl lo)(pu:Yn vu hi)(hw:¬(Qg items.size 0 lo=0/\Qg items.size items.size hi=items.size))(h:Q (.ref s.heap.objs.size) { s with heap:=s.heap.push { cls:=.type "tuple",data:=.seq ((items.toList.drop (Qg items.size 0 lo)).take (Qg items.size items.size hi-Qg items.size 0 lo)).toArray } })(hsz:items.size<=PH):Pq (Px prog w) A (getItem (.ref t) (.ref sl)) Q E s:=by
 have b:sizeOk (.seq ((items.toList.drop (Qg items.size 0 lo)).take (Qg items.size items.size hi-Qg items.size 0 lo)).toArray):=by
  show((items.toList.drop (Qg items.size 0 lo)).take (Qg items.size items.size hi-Qg items.size 0 lo)).toArray.size<=PH;rw[QI,SO,â,RT];lia
 have o:Qg items.size items.size hi<=items.size:=Gk _ _ (P1 _) hi;obtain⟨os,f,e,d⟩:=id hs;have c:s.TypeIs (.ref sl) "slice":=⟨os,f,e⟩
 unfold getItem
 try with_reducible refine Sq ?_
 first|refine Pm (Pu ?_)|skip
 refine Pm (ņ ht.typeIs (by decide) ?_);refine Pm (Ó (name:=Vi "__getitem__") ht.typeIs Ŏ
  (UU Ŏ ht.typeIs entry_tuple_getitem ?_ (args_tuple_getitem _ _)))
 show Pq _ _ (afO (.ref t) >>= _) _ _ s;refine Pm (tupleItemsOf_ ht ?_);refine Pm (Zp c ?_);rw[PK (by decide)];refine Pm (nB hs pl pu ?_);have g:¬((((Qg items.size 0 lo:Nat):Int)==0&&(1:Int)==1&&(Qg items.size items.size hi-Qg items.size 0 lo)==items.size)=true):=by
  intro q;rw[Tv,Tv] at q;have j:((Qg items.size 0 lo:Nat):Int)=0:=eq_of_beq q.1.1;have n:Qg items.size items.size hi-Qg items.size 0 lo=items.size:=eq_of_beq q.2;exact hw ⟨by lia,by lia⟩
 show Pq _ _ (if (((Qg items.size 0 lo:Nat):Int)==0&&(1:Int)==1&&(Qg items.size items.size hi-Qg items.size 0 lo)==items.size)=true then _ else _) _ _ s;rw[Pr g,Cg]
 first
  | exact Pm (m:=ċ _) (Xl (Pu ⟨_,rfl,Pu h⟩) b)
  | exact Pm (m:=ċ _) (Xl (Pm (Pu (Pu ⟨_,rfl,Pu h⟩))) b)
  | exact Pm (Pm (m:=ċ _) (Xl (Pu (Pu ⟨_,rfl,Pu h⟩)) b))
  | exact Pm (Pm (m:=ċ _) (Xl (Pu ⟨_,rfl,Pu h⟩) b))
end HT
namespace L2
open PySem PySem.Spec PyProof.Rows
abbrev TO:=St->Hp->(Option Int->Hp->Prop)->Prop
def PO (X:Cx)(e:Option PZ)(t:TO):Prop:=
 ∀(ac:List (D'×J')) (s:N') (σ:St) (H:Hp) (Q:Option Int->Hp->Prop),Inv X ac σ H s->t σ H Q->
  Pq (Px X.prog X.w) X.A (evalPart e X.env) (λu s'=>∃o H',Inv X ac σ H' s'/\Yn u o/\Q o H') X.xe s
def EQ:TO:=λ_ H Q=>Q none H
def KQ (t:TE):TO:=λσ H Q=>t σ H λx H1=>∃i,x=.int i/\Q (some i) H1
theorem yx:∀{us:List G'},aL (ns.map V.int) us->U1 us ns:=by
 induction ns with
 | nil=>intro us r;rw[å] at r;cases r;exact .nil
 | cons n ns b=>
  intro us r;rw[QJ] at r;cases r with
  | cons r1 r2=>
   obtain⟨t,e⟩:=r1;subst e;exact .cons n t (b r2)
theorem dv:PO X none EQ:=by
 intro ac s b H Q I h;rw[evalPart_none];exact Pu ⟨none,H,I,.none,h⟩
theorem dy (h:PE X e te):PO X (some e) (KQ te):=by
 intro ac s f H Q I b;rw[evalPart_some];refine PY (h ac s f H _ I b) λu s1 j=>QK j λx g d r1 c=>?_;obtain⟨i,rfl,q⟩:=c;obtain⟨t,rfl⟩:=r1;exact⟨some i,g,d,.int i t,q⟩
def SlR (X:Cx)(r:V->Option Int->Option Int->Hp->VK->Prop):Prop:=
 ∀(ac:List (D'×J')) (s:N') (σ:St) (H:Hp) (x:V) (v vl vu:G') (lo hi:Option Int) (sl:D') (Q:VK),Inv X ac σ H s->aI x v->s.heap.IsSliceOf sl vl vu .none->Yn vl lo->Yn vu hi->r x lo hi H Q->
  ∃T id,typeLookup (.type T) "__getitem__"=pure (some (.builtin id))/\s.TypeIs v T/\Pq (Px X.prog X.w) X.A (getItem v (.ref sl)) (EP X ac σ Q) X.xe s
def tSl (r:V->Option Int->Option Int->Hp->VK->Prop)(te:TE)(tl th:TO):TE:=λσ H Q=>te σ H λx H1=>tl σ H1 λl H2=>th σ H2 λu H3=>r x l u H3 Q
theorem cM {lo:Option PZ}(hr:SlR X r)(he:PE X e te)(hl:PO X lo tl)(hu:PO X hi th):PE X (.Subscript e (.Slice lo hi none p2) pos) (tSl r te tl th):=by
 intro ac s c H Q I h;refine Subscript_ (PY (he ac s c H _ I h) λv s1 d=>QK d λx J G r1 D=>?_);refine wpAny_Slice (PY (hl ac s1 c J _ G D) λg s2 d=>QK d λl E m pl t=>PY (hu ac s2 c E _ m t) λf s3 d=>QK d λu j o p n=>?_);rw[evalPart_none];refine Pu ?_;have F:Inv X ac c j { s3 with heap:=s3.heap.push { cls:=.type "slice",data:=.fields #[g,f,.none] } }:=o.kept (t':=s3.toks) λb ob q=>Qn _ q;obtain⟨T,id,C,L,y⟩:=hr ac { s3 with heap:=s3.heap.push { cls:=.type "slice",data:=.fields #[g,f,.none] } } c j x v g f l u s3.heap.objs.size Q F r1 (Ps.IsSliceOf.new ..) pl p n;show Pq (Px X.prog X.w) X.A (subscriptTail e (.Slice lo hi none p2) v (.ref s3.heap.objs.size)) (EP X ac c Q) X.xe { s3 with heap:=s3.heap.push { cls:=.type "slice",data:=.fields #[g,f,.none] } };exact tail_any (ops:=[.ref s3.heap.objs.size,v]) L C y (by with_unfolding_all rfl)
noncomputable def cq (xs:List V)(lo hi:Option Int):List V:=(xs.drop (HT.Qg xs.length 0 lo)).take (HT.Qg xs.length xs.length hi-HT.Qg xs.length 0 lo)
theorem mX (xs)(lo hi):(cq xs lo hi).length<=xs.length:=by
 unfold cq;rw[SO,â];lia
def L9 (K:Po):V->Option Int->Option Int->Hp->VK->Prop:=λx lo hi H Q=>∃a xs,x=.ref a/\PM K H a xs/\
 ¬(HT.Qg xs.length 0 lo=0/\HT.Qg xs.length xs.length hi=xs.length)/\∀p,H p=none->Q (.ref p) (upd H p (.tup (cq xs lo hi)))
theorem fD:SlR X (L9 X.K):=by
 intro ac s w H x v u p lo c t Q I n e pl g h;obtain⟨a,xs,rfl,j,m,q⟩:=h;cases n;obtain⟨f,r,d,hz⟩:=I.tuple j;have hlen:f.toArray.size=xs.length:=by rw[QI];exact r.length.symm
 refine⟨"tuple",_,Ŏ.lookup,d.typeIs,?_⟩;refine HT.mU d e pl g (by rw[hlen];exact m) ?_ (by rw[hlen];exact hz);rw[hlen];refine⟨.ref s.heap.objs.size,_,I.laid (t':=s.toks) (o:=.tup (cq xs lo c)) (λb ob q=>Qn _ q) (P1 _) ?_,rfl,q _ (I.PQ.fresh (P1 _))⟩;exact⟨RX (mX xs lo c) hz,_,(r.drop (HT.Qg xs.length 0 lo)).take (HT.Qg xs.length xs.length c-HT.Qg xs.length 0 lo),fA.new _ _⟩
def KR (K:Po):R2:=λx y H Q=>∃a b xs ys,x=.ref a/\y=.ref b/\PM K H a xs/\PM K H b ys/\xs≠[]/\xs.length+ys.length<=PH/\
 (ys=[]->Q (.ref a) H)/\(ys≠[]->∀p,H p=none->Q (.ref p) (upd H p (.tup (xs++ys))))
theorem aL.acL (r:aL xs us):us=[]↔xs=[]:=by
 cases r with
 | nil=>simp
 | cons _ _=>simp
theorem gv:QG X (binaryOp .Add) (KR X.K):=by
 intro ac s C H x y v u Q I p c h;obtain⟨a,b,xs,ys,rfl,rfl,m,f,d,hz,j,e⟩:=h;cases p;cases c;obtain⟨t,r1,g,_⟩:=I.tuple m;obtain⟨A,r2,n,_⟩:=I.tuple f;refine HT.EN g n (λz=>d (r1.acL.mp z)) (λz=>⟨.ref a,H,I,rfl,j (r2.acL.mp z)⟩) (λz=>?_) (by rw[<-r1.length,<-r2.length];exact hz);refine⟨.ref s.heap.objs.size,_,I.laid (t':=s.toks) (o:=.tup (xs++ys)) (λb ob q=>Qn _ q) (P1 _) ?_,rfl,e (λw=>z (r2.acL.mpr w)) _ (I.PQ.fresh (P1 _))⟩;exact⟨by rw[Rt];exact hz,_,r1.append r2,fA.new _ _⟩
noncomputable def ZG (n:Nat)(i:Int):Option Nat:=if 0<=i then (if i<n then some i.toNat else none) else if -(n:Int)<=i then some (i+n).toNat else none
noncomputable def SJ {α:Type}(xs:List α)(i:Int):Option α:=(ZG xs.length i).bind λj=>xs[j]?
theorem ER (h:ZG n i=some j):seqIndex? i n=some j/\j<n/\-(n:Int)<=i/\i<n:=by
 unfold ZG at h
 by_cases h0:0<=i
 .rw[PK h0] at h
  by_cases b:i<n
  .rw[PK b] at h;have e:i.toNat=j:=UW h;exact⟨by rw[seqIndex_of h0 b,e],by lia,by lia,b⟩
  .rw[Pr b] at h;cases h
 .rw[Pr h0] at h
  by_cases b:-(n:Int)<=i
  .rw[PK b] at h;have e:(i+n).toNat=j:=UW h;exact⟨by rw[seqIndex_neg (by lia) b,e],by lia,b,by lia⟩
  .rw[Pr b] at h;cases h
theorem wQ {α:Type}{xs:List α}{i:Int}{v:α}(h:SJ xs i=some v):∃j,seqIndex? i xs.length=some j/\xs[j]?=some v/\j<xs.length/\-(xs.length:Int)<=i/\i<xs.length:=by
 unfold SJ at h;cases e:ZG xs.length i with
 | none=>rw[e] at h;cases h
 | some j=>
  rw[e] at h;obtain⟨d,f,b,c⟩:=ER e;exact⟨j,d,h,f,b,c⟩
theorem cH {α:Type}{xs:List α}{j:Nat}{v:α}(h:xs[j]?=some v):SJ xs (j:Int)=some v:=by
 have b:j<xs.length:=(Rh.mp h).1;have e:ZG xs.length (j:Int)=some j:=by
  unfold ZG;rw[PK (by lia),PK (by lia)];simp
 unfold SJ;rw[e];exact h
def wR (b:PZ):Prop:=∀o i,subscripted b false o i=operate [o,i] (getItem o i)
def U4 (X:Cx)(r:R2):Prop:=
 ∀(value slice:PZ) (ac:List (D'×J')) (s:N') (σ:St) (H:Hp) (x y:V) (v u:G') (Q:VK),Inv X ac σ H s->aI x v->aI y u->r x y H Q->
  subscripted slice false v u=operate [v,u] (getItem v u)->Pq (Px X.prog X.w) X.A (subscriptTail value slice v u) (EP X ac σ Q) X.xe s
def MtR (X:Cx)(id:String)(r:V->List V->Hp->VK->Prop):Prop:=
 ∀(ac:List (D'×J')) (s:N') (σ:St) (H:Hp) (x:V) (xs:List V) (v:G') (us:List G') (Q:VK),Inv X ac σ H s->aI x v->aL xs us->r x xs H Q->
  Pq (Px X.prog X.w) X.A (call (.builtin id) (v::us)) (EP X ac σ Q) X.xe s
theorem cI (hr:U4 X r)(ha:PE X a ta)(hb:PE X b tb)(hs:wR b):PE X (.Subscript a b pos) (VY r ta tb):=by
 intro ac s f H Q I h;exact Subscript_ (B8 ha hb I h λv u s2 x y d e c g q=>hr a b ac s2 f d x y v u Q e c g q (hs _ _))
def fI (K:Po):R2:=λx y H Q=>∃p xs i v,x=.ref p/\y=.int i/\PX K H p xs/\SJ xs i=some v/\Q v H
def Gm (K:Po):R2:=λx y H Q=>∃p xs i v,x=.ref p/\y=.int i/\PM K H p xs/\SJ xs i=some v/\Q v H
theorem bL:U4 X (fI X.K):=by
 intro value slice ac s f H x y v u Q I E n h d;obtain⟨p,xs,i,z,rfl,rfl,F,o,q⟩:=h;cases E;obtain⟨t,rfl⟩:=n;obtain⟨C,r,pl,hz⟩:=I.list F;obtain⟨j,b,J,L,m,G⟩:=wQ o;obtain⟨w,e,A⟩:=r.get J;have g:=r.length;have M:=ox;have fin:EP X ac f Q w s:=⟨z,H,I,A,q⟩
 by_cases h0:0<=i
 .have c:i.toNat=j:=by
   rw[seqIndex_of h0 G] at b;exact UW b
  exact item_listR pl.isList h0 (by lia) (by rw[c];simpa using e) fin d
 .have c:(i+(C.toArray.size:Int)).toNat=j:=by
   rw[seqIndex_neg (by lia) m] at b;rw[QI,<-g];exact UW b
  exact subscriptTail_builtinR (x:=w) pl.isList.typeIs slot_list_getitem.lookup
   (wpAny_getItem_list_neg (Q:=λr D=>r=w/\EP X ac f Q r D) pl.isList (by lia) (by rw[QI] <;> lia) (by lia) (by rw[c];simpa using e) ⟨rfl,fin⟩) d
theorem Gn:U4 X (Gm X.K):=by
 intro value slice ac s b H x y v u Q I A d h e;obtain⟨p,xs,i,z,rfl,rfl,C,f,q⟩:=h;cases A;obtain⟨t,rfl⟩:=d;obtain⟨J,r,pl,hz⟩:=I.tuple C;obtain⟨j,m,D,E,F,L⟩:=wQ f;obtain⟨w,o,g⟩:=r.get D;have c:=r.length;have G:=ox;have fin:EP X ac b Q w s:=⟨z,H,I,g,q⟩
 exact subscriptTail_builtinR (x:=w) pl.typeIs slot_tuple_getitem.lookup
  (getItem_tuple (j:=j) (Q:=λr n=>r=w/\EP X ac b Q r n) pl (by lia) (by lia) (by rw[QI,<-c];exact m) (by simpa using o) ⟨rfl,fin⟩) e
theorem tX (lo hi)(n:Nat):(sliceBounds lo hi none n).1=((HT.Qg n 0 lo:Nat):Int)/\(sliceBounds lo hi none n).2.1=((HT.Qg n n hi:Nat):Int)/\(sliceBounds lo hi none n).2.2=1:=by
 refine⟨?_,?_,rfl⟩
 .cases lo with
  | none=>simp[sliceBounds,HT.Qg]
  | some i=>
   simp only[sliceBounds,HT.Qg,agy,show(1:Int) > 0 by decide,if_true]
   by_cases h:i<0
   .simp only[h,if_true] <;> lia
   .simp only[h,if_false] <;> lia
 .cases hi with
  | none=>simp[sliceBounds,HT.Qg]
  | some i=>
   simp only[sliceBounds,HT.Qg,agy,show(1:Int) > 0 by decide,if_true]
   by_cases h:i<0
   .simp only[h,if_true] <;> lia
   .simp only[h,if_false] <;> lia
theorem sQ (Pp:List G')(lo hi:Option Int):slicePick Pp.toArray lo hi none=((Pp.drop (HT.Qg Pp.length 0 lo)).take (HT.Qg Pp.length Pp.length hi-HT.Qg Pp.length 0 lo)).toArray:=by
 obtain⟨d,c,b⟩:=tX lo hi Pp.toArray.size;unfold slicePick;rw[d,c,b];simp only[sliceRange_one,pick_run,QI] <;> rfl
def Ma (K:Po):V->Option Int->Option Int->Hp->VK->Prop:=λx lo hi H Q=>∃a xs,x=.ref a/\PX K H a xs/\∀p,H p=none->Q (.ref p) (upd H p (.lst (cq xs lo hi)))
theorem wS:SlR X (Ma X.K):=by
 intro ac s u H x v t n lo c p Q I j e pl f h;obtain⟨a,xs,rfl,g,q⟩:=h;cases j;obtain⟨m,r,d,hz⟩:=I.list g;have hlen:=r.length;refine⟨"list",_,slot_list_getitem.lookup,d.isList.typeIs,?_⟩;refine wpAny_getItem_list_slice d.isList e pl f .none (by simp) ?_ (by rw[QI] <;> lia);rw[sQ,<-hlen];refine⟨.ref s.heap.objs.size,_,I.laid (t':=s.toks) (o:=.lst (cq xs lo c)) (λb ob q=>Qn _ q) (P1 _) ?_,rfl,q _ (I.PQ.fresh (P1 _))⟩;exact⟨RX (mX xs lo c) hz,_,0,(r.drop (HT.Qg xs.length 0 lo)).take (HT.Qg xs.length xs.length c-HT.Qg xs.length 0 lo),Rb _ rfl⟩
noncomputable def ce:V->Bool
 | .Qb=>true
 | .bl _=>true
 | .int _=>true
 | .str _=>true
 | _=>false
noncomputable def R6:V->V->Bool
 | .Qb,.Qb=>true
 | .bl a,.bl b=>a==b
 | .bl a,.int b=>(if a then 1 else 0)==b
 | .int a,.bl b=>a==(if b then 1 else 0)
 | .int a,.int b=>a==b
 | .str a,.str b=>a==b
 | _,_=>false
theorem zY (ry:aI y u)(rx:aI x v)(fy:ce y=true)(fx:ce x=true):VM A s u v (R6 y x):=by
 cases y with
 | Qb=>
  cases ry;cases x with
  | Qb=>cases rx;exact ë _
  | bl b=>cases rx;exact VM.none_bool b
  | int b=>obtain⟨t,rfl⟩:=rx;exact VM.none_int b t
  | str b=>obtain⟨t,rfl⟩:=rx;exact VM.none_str b t
  | _=>exact Py (show false=true from fx) TQ
 | bl a=>
  cases ry;cases x with
  | Qb=>cases rx;exact VM.bool_none a
  | bl b=>cases rx;exact VM.bool_bool a b
  | int b=>obtain⟨t,rfl⟩:=rx;exact VM.bool_int a b t
  | str b=>obtain⟨t,rfl⟩:=rx;exact VM.bool_str a b t
  | _=>exact Py (show false=true from fx) TQ
 | int a=>
  obtain⟨t',rfl⟩:=ry;cases x with
  | Qb=>cases rx;exact VM.int_none a t'
  | bl b=>cases rx;exact VM.int_bool a t' b
  | int b=>obtain⟨t,rfl⟩:=rx;exact ī a t' b t
  | str b=>obtain⟨t,rfl⟩:=rx;exact agt a t' b t
  | _=>exact Py (show false=true from fx) TQ
 | str a=>
  obtain⟨t',rfl⟩:=ry;cases x with
  | Qb=>cases rx;exact VM.str_none a t'
  | bl b=>cases rx;exact VM.str_bool a t' b
  | int b=>obtain⟨t,rfl⟩:=rx;exact agu a t' b t
  | str b=>obtain⟨t,rfl⟩:=rx;exact VM.str_str a t' b t
  | _=>exact Py (show false=true from fx) TQ
 | _=>exact Py (show false=true from fy) TQ
noncomputable def SW (x:V)(u:G'):Bool:=match u with
 | .none=>R6 .Qb x
 | .bool b=>R6 (.bl b) x
 | .int i _=>R6 (.int i) x
 | .str z _=>R6 (.str z) x
 | _=>false
theorem oz (r:aI y u)(f:ce y=true):SW x u=R6 y x:=by
 cases y with
 | Qb=>cases r;rfl
 | bl b=>cases r;rfl
 | int i=>obtain⟨t,rfl⟩:=r;rfl
 | str z=>obtain⟨t,rfl⟩:=r;rfl
 | _=>exact Py (show false=true from f) TQ
theorem jD:∀{xs:List V}{us:List G'},aL xs us->xs.all ce=true->us.any (SW x)=xs.any λy=>R6 y x
 | _,_,.nil,_=>rfl
 | y::xs,u::us,.cons r t,f=>by
  rw[Zk,Tv] at f;rw[Wi,Wi,oz r f.1,jD t f.2]
theorem fJ (rx:aI x v)(fx:ce x=true):∀{xs:List V}{us:List G'},aL xs us->xs.all ce=true->∀u∈us,VM A s u v (SW x u)
 | _,_,.nil,_=>λu hu=>by cases hu
 | y::xs,u::us,.cons r t,f=>λb hu=>by
  rw[Zk,Tv] at f;rcases Qe.mp hu with rfl|hu
  .rw[oz r f.1];exact zY r rx f.1 fx
  .exact fJ rx fx t f.2 b hu
noncomputable def UN (x:V)(xs:List V):Bool:=xs.any λy=>R6 y x
def Wx (K:Po)(neg:Bool):R2:=λx y H Q=>∃p xs,y=.ref p/\(PX K H p xs\/PM K H p xs)/\ce x=true/\xs.all ce=true/\Q (.bl (if neg then !UN x xs else UN x xs)) H
theorem fS:QG X (R9 .In) (Wx X.K false):=by
 intro ac s g H x y v u Q I e f h;obtain⟨p,xs,rfl,hq,d,fs,q⟩:=h;cases f;rcases hq with hq|hq
 .obtain⟨b,r,pl,hz⟩:=I.list hq;refine SeqAt.in_listAt (SW x) pl.isList (λw c=>fJ e d r fs w (by simpa using c)) ⟨.bl _,H,I,rfl,?_⟩;rw[show b.toArray.any (SW x)=b.any (SW x) by simp,jD r fs];exact q
 .obtain⟨b,r,pl,hz⟩:=I.tuple hq;refine SeqAt.in_tupleAt (SW x) pl (λw c=>fJ e d r fs w (by simpa using c)) ⟨.bl _,H,I,rfl,?_⟩;rw[show b.toArray.any (SW x)=b.any (SW x) by simp,jD r fs];exact q
theorem tY:QG X (R9 .NotIn) (Wx X.K true):=by
 intro ac s g H x y v u Q I e f h;obtain⟨p,xs,rfl,hq,d,fs,q⟩:=h;cases f;rcases hq with hq|hq
 .obtain⟨b,r,pl,hz⟩:=I.list hq;refine SeqAt.notIn_listAt (SW x) pl.isList (λw c=>fJ e d r fs w (by simpa using c)) ⟨.bl _,H,I,rfl,?_⟩;rw[show b.toArray.any (SW x)=b.any (SW x) by simp,jD r fs];exact q
 .obtain⟨b,r,pl,hz⟩:=I.tuple hq;refine agl (SW x) pl (λw c=>fJ e d r fs w (by simpa using c)) ⟨.bl _,H,I,rfl,?_⟩;rw[show b.toArray.any (SW x)=b.any (SW x) by simp,jD r fs];exact q
theorem aX:cF X (.builtin "len") (λxs H Q=>∃p ys,xs=[.ref p]/\(PX X.K H p ys\/PM X.K H p ys)/\Q (.int ys.length) H):=by
 intro ac s f H xs us Q I r h;obtain⟨p,ys,rfl,hq,q⟩:=h;obtain⟨u,rfl,d⟩:=dc r;cases d;have e:=ox;rcases hq with hq|hq
 .obtain⟨c,b,pl,hz⟩:=I.list hq;have hlen:=b.length;exact Calls.call_len_list pl.isList (by simp only[QI] <;> lia) ⟨.int ys.length,H,I.tok _,⟨s.toks+1,by rw[QI,hlen]⟩,q⟩
 .obtain⟨c,b,pl,hz⟩:=I.tuple hq;have hlen:=b.length;exact len_tuple pl (by simp only[QI] <;> lia) ⟨.int ys.length,H,I.tok _,⟨s.toks+1,by rw[QI,hlen]⟩,q⟩
theorem gZ:cF X (.type "tuple") (λxs H Q=>∃p ys,xs=[.ref p]/\((PX X.K H p ys/\∀l,H l=none->Q (.ref l) (upd H l (.tup ys)))\/(PM X.K H p ys/\Q (.ref p) H))):=by
 intro ac s j H xs us Q I r h;obtain⟨p,ys,rfl,h⟩:=h;obtain⟨u,rfl,t⟩:=dc r;cases t;rcases h with⟨f,q⟩|⟨f,q⟩
 .obtain⟨d,c,pl,hz⟩:=I.list f;have hlen:=c.length;refine call_tuple_list pl.isList (λh' n=>?_) (by simp only[QI] <;> lia);have g:Inv X ac j H { s with heap:=h' }:=I.kept (t':=s.toks) n;have m:Inv X ac j (upd H h'.objs.size (.tup ys)) { s with heap:=h'.push { cls:=.type "tuple",data:=.seq d.toArray } }:=
   g.laid (t':=s.toks) (λb o e=>Qn _ e) (P1 _) (show bt X.prog X.w _ _ _ (.tup ys) from⟨hz,d,c,fA.new _ _⟩)
  exact⟨.ref h'.objs.size,_,m,rfl,q _ (g.PQ.fresh (P1 _))⟩
 .obtain⟨d,c,pl,hz⟩:=I.tuple f;exact call_tuple_same pl ⟨.ref p,H,I,rfl,q⟩
def tyV (K:Po)(T:String)(x:V)(H:Hp):Prop:=match x with
 | .str _=>T="str"
 | .int _=>T="int"
 | .ref p=>(T="list"/\∃xs,PX K H p xs)\/(T="tuple"/\∃o,K.lookup p=some o/\o.cls=.type "tuple"/\o.dict=none)\/
   (T="dict"/\((∃kvs,H p=some (.dK kvs))\/∃kvs,H p=some (.dT kvs)))\/(T="set"/\∃S n,H p=some (.set S n))
 | _=>False
theorem Go {σ:St}(I:Inv X ac σ H s)(r:aI x v)(ty:tyV X.K T x H):
  s.TypeIs v T/\∀a,v=.ref a->∃ob,s.heap.get? a=some ob/\ob.dict=none:=by
 cases x with
 | str z=>
  obtain⟨t,rfl⟩:=r;cases (show T="str" from ty);exact⟨typeIs_str s z t,λ_ e=>nomatch e⟩
 | int i=>
  obtain⟨t,rfl⟩:=r;cases (show T="int" from ty);exact⟨û s i t,λ_ e=>nomatch e⟩
 | ref p=>
  cases r;rcases ty with⟨rfl,xs,g⟩|⟨rfl,o,b,f,hd⟩|⟨rfl,b⟩|⟨rfl,S,n,b⟩
  .obtain⟨h,_,pl,_⟩:=I.list g;refine⟨pl.isList.typeIs,λa e=>?_⟩;cases e;obtain⟨o,n,e,c,hd,_⟩:=pl;exact⟨o,e,hd⟩
  .refine⟨⟨o,I.Re p o b,f⟩,λa e=>?_⟩;cases e;exact⟨o,I.Re _ o b,hd⟩
  .have z:∃o,s.heap.get? p=some o/\o.ExactDict:=by
    rcases b with⟨kvs,b⟩|⟨kvs,b⟩
    .obtain⟨_,_,_,_,o,_,_,e,ex,_⟩:=I.PQ p _ b;exact⟨o,e,ex⟩
    .obtain⟨_,_,_,_,o,_,_,e,ex,_⟩:=I.PQ p _ b;exact⟨o,e,ex⟩
   obtain⟨o,e,ex⟩:=z;refine⟨⟨o,e,ex.1⟩,λa d=>?_⟩;cases d;exact⟨o,e,ex.2.1⟩
  .obtain⟨o,_,_,_,e,ex,_⟩:=I.PQ p _ b;refine⟨⟨o,e,ex.1⟩,λa d=>?_⟩;cases d;exact⟨o,e,ex.2.1⟩
 | _=>exact SH ty
def tBM (K:Po)(T:String)(r:V->List V->Hp->VK->Prop)(to:TE)(t:TA):TE:=λσ H Q=>to σ H λx H1=>tyV K T x H1/\t σ H1 λxs H2=>r x xs H2 Q
theorem gI {X:Cx}{o:PZ}{e:PZ}{es:List PZ}{to:TE}{t:TA}{name:M'}{apos:Qp}{SB:Qp}{T:String}{id:String}{r:V->List V->Hp->VK->Prop}(pa:PlainAttrs T)(slot:Slot T name id)(hty:typeOf (.builtin id)=pure (.type "method_descriptor"))(hm:MtR X id r)(ho:PE X o to)(ha:PA X (e::es) t)(agP:attributeBase o name X.env (eval o X.env)=eval o X.env:=by rfl)(ahb:((backTo SB (QX (e::es) X.env)).all (λx=>!x.1)&&(backToKw SB (keywordEach [] X.env)).all (λx=>x.1.isSome)
   && decide ((e::es).length+([]:List Keyword).length+(if ([]:List Keyword).isEmpty then 0 else 1)<30))=true:=by rfl)(agQ:(apos.endLine==SB.line)=true:=by rfl)(hs:QX (e::es) X.env=(false,eval e X.env)::QX es X.env:=by rfl)(agI:(backTo SB (QX es X.env)).any (·.1)=false:=by rfl):
  PE X (.Call (.Attribute o name apos) (e::es) [] SB) (tBM X.K T r to t):=by
 intro ac s b H Q I h;refine wpAny_Call_method_late agP ahb agQ rfl (PY (ho ac s b H _ I h) λv s1 n=>?_);obtain⟨x,p,c,r1,ty,j⟩:=n;obtain⟨f,u⟩:=Go c r1 ty;refine⟨T,id,pa,slot,hty,f,u,?_⟩;have hA:=ha SB ac s1 b p _ c j;rw[hs] at hA ⊢;refine af6 (by show(false||(backTo SB (QX es X.env)).any (·.1))=false;rw[agI] <;> rfl) (ŝ ?_);exact PY hA λus s2 w=>QK w λvs m d r2 g=>hm ac s2 b m x vs v us Q d r1 r2 g
def MtM (X:Cx)(id:String)(r:V->List V->Hp->VK->Prop):Prop:=
 ∀(ac:List (D'×J')) (s:N') (σ:St) (H:Hp) (x:V) (xs:List V) (v:G') (us:List G') (Q:VK),Inv X ac σ H s->aI x v->aL xs us->r x xs H Q->
  Pq (Px X.prog X.w) X.A (call (.builtin id) (v::us)) (EP X ac σ Q) X.xe s
theorem aL.one:∀{x:V}{us:List G'},aL [x] us->∃u,us=[u]/\aI x u
 | _,_,.cons r .nil=>⟨_,rfl,r⟩
theorem aL.two:∀{x y:V}{us:List G'},aL [x,y] us->∃u v,us=[u,v]/\aI x u/\aI y v
 | _,_,_,.cons r (.cons q .nil)=>⟨_,_,rfl,r,q⟩
theorem aL.rep (h:aL xs us):∀k:Nat,aL (Rj k xs).flatten (Rj k us).flatten
 | 0=>.nil
 | k+1=>by
  rw[Y7,Y7,á,á];exact aL.append h (aL.rep h k)
theorem qR (Pp):∀(k:Nat) (acc:List G'),
  Ě (λx1 x2=>x1++x2) acc.toArray (Rj k Pp.toArray)=(acc++(Rj k Pp).flatten).toArray
 | 0,acc=>by simp
 | k+1,acc=>by
  have e:acc.toArray++Pp.toArray=(acc++Pp).toArray:=by simp
  have b:(acc++Pp)++(Rj k Pp).flatten=acc++(Rj (k+1) Pp).flatten:=by
   rw[Y7,á,Y']
  rw[<-b,<-qR Pp k (acc++Pp),<-e,Y7,Zd]
theorem Inv.ahc {X:Cx}{ac:List (D'×J')}{σ:St}{H:Hp}{s:N'}{l:D'}{xs:List V}{ys:List V}{Pp its':List G'}{n:Nat}{f:Array G'->Array G'}{t':Nat}(I:Inv X ac σ H s)(hH:H l=some (.lst xs))(e:s.heap.get? l=some { cls:=.type "list",data:=.seq Pp.toArray n })(hf:f Pp.toArray=its'.toArray)(hv:aL ys its')(hz:ys.length<=PH):
  Inv X ac σ (upd H l (.lst ys)) { s with heap:=s.heap.update l (Sr f),toks:=t' }:=by
 have q:=PySem.IsL.update e f;rw[hf] at q;refine I.write (x:=l) (e:=l) (by rw[hH];exact trivial) (.inl rfl) (λd u c b=>(ξ s.heap (Sr f) (QC c)).trans b) ⟨_,q⟩ ?_;exact⟨hz,its',_,hv,q⟩
theorem Inv.afb {σ:St}{t':Nat}(I:Inv X ac σ H s)(hv:aL ys Pp)(hz:ys.length<=PH):
  Inv X ac σ (upd H s.heap.objs.size (.lst ys)) { s with heap:=s.heap.push { cls:=.type "list",data:=.seq Pp.toArray },toks:=t' }:=
 I.laid (λ_ _ q=>Qn _ q) (P1 _) ⟨hz,Pp,0,hv,Rb _ rfl⟩
theorem Inv.fresh {σ:St}(I:Inv X ac σ H s):H s.heap.objs.size=none:=I.PQ.fresh (P1 _)
theorem Inv.abv {σ:St}(I:Inv X ac σ H s)(hH:H l=some (.lst xs)):xs.length<=PH/\∃(Pp:List G') (n:Nat),aL xs Pp/\xs.length=Pp.length/\s.heap.get? l=some { cls:=.type "list",data:=.seq Pp.toArray n }:=by
 obtain⟨z,Pp,n,r,e⟩:=I.PQ l _ hH;exact⟨z,Pp,n,r,r.length,e⟩
theorem Ch (h:n<=PH):Ś n=false:=by
 unfold Ś;exact Qd (by lia)
def ES:V->List V->Hp->VK->Prop:=λx vs H Q=>∃l xs y,x=.ref l/\vs=[y]/\H l=some (.lst xs)/\xs.length<PH/\Q .Qb (upd H l (.lst (xs++[y])))
theorem eT:MtM X "list.append" ES:=by
 intro ac s m H x vs v us Q I g f h;obtain⟨l,xs,y,rfl,rfl,c,hz,q⟩:=h;cases g;obtain⟨u,rfl,d⟩:=f.one;obtain⟨z,b,n,r,j,e⟩:=I.abv c;refine Â F.slot_list_append ⟨_,e,rfl⟩ F.entry_list_append (F.args_list_append_2 _ _) (PySem.list_append l b.toArray n u (by rw[QI];lia)) ⟨e,?_⟩;refine⟨.Qb,_,I.ahc (its':=b++[u]) c e (by simp) (r.append (.cons d .nil)) ?_,rfl,q⟩;rw[Rt,Ŷ];(first|trivial|lia)
def Mb:R2:=λx y H Q=>∃l b xs zs,x=.ref l/\y=.ref b/\H l=some (.lst xs)/\H b=some (.lst zs)/\xs.length+zs.length<=PH/\∀p,H p=none->Q (.ref p) (upd H p (.lst (xs++zs)))
theorem tZ:QG X (binaryOp .Add) Mb:=by
 intro ac s E H x y v u Q I o g h;obtain⟨l,b,xs,w,rfl,rfl,p,m,hz,q⟩:=h;cases o;cases g;obtain⟨z,c,n,r,t,e⟩:=I.abv p;obtain⟨A,d,C,r2,D,f⟩:=I.abv m;refine PySem.P.add_list e f ?_ (by rw[QI,QI];lia);have j:c.toArray++d.toArray=(c++d).toArray:=by simp
 rw[j];exact⟨.ref _,_,I.afb (t':=s.toks) (r.append r2) (by rw[Rt];(first|trivial|lia)),rfl,q _ I.fresh⟩
def Mc:R2:=λx y H Q=>∃l k xs,x=.ref l/\y=.int k/\H l=some (.lst xs)/\-(2 ^ 63)<=k/\k<2 ^ 63/\xs.length*k.toNat<=PH/\
 ∀p,H p=none->Q (.ref p) (upd H p (.lst (Rj k.toNat xs).flatten))
theorem ET {α:Type}(xs:List α)(k:Nat):(Rj k xs).flatten.length=k*xs.length:=by
 induction k with
 | zero=>simp
 | succ k b=>rw[Y7,á,Rt,b,oF,Nat.add_comm]
theorem zZ:QG X (binaryOp .Mult) Mc:=by
 intro ac s L H x y v u Q I E A h;obtain⟨l,k,xs,rfl,rfl,J,C,G,hz,q⟩:=h;cases E;obtain⟨t,rfl⟩:=A;obtain⟨z,b,n,r,p,e⟩:=I.abv J;have hlen:b.toArray.size*k.toNat<=PH:=by rw[QI,<-p];exact hz
 have j:¬b.toArray.size*k.toNat > (2 ^ 63-1) / 8:=by
  have:(PH:Nat)<=(2 ^ 63-1) / 8:=by decide
  lia
 have c:¬(!S7.List.listFitsIndex k)=true:=by
  rw[fitsIndex_both C G];exact TQ
 have g:¬Ś (b.toArray.size*k.toNat)=true:=by
  rw[Ch hlen];exact TQ
 have f:Ě (λo d=>o++d) #[] (Rj (if b.toArray.isEmpty=true then 0 else k.toNat) b.toArray)=(Rj k.toNat b).flatten.toArray:=by
  have w:∀m:Nat,Ě (λo d=>o++d) #[] (Rj m b.toArray)=(Rj m b).flatten.toArray:=λm=>by
   have:=qR b m [];rw[List.nil_append] at this;exact this
  rw[w];cases b with
  | nil=>simp
  | cons a r'=>rw[Pr (by simp)]
 refine wpAny_binaryOp_repeat_ref (T:="list") (U:="int") (by decide) ⟨_,e,rfl⟩ (λD=>û D k t) noFill_list_mul F.fills_int_mul F.slot_int_rmul repeat_list F.slot_int_index.lookup
  (Â F.slot_int_rmul (û s k t) F.entry_int_rmul (F.args_int_rmul_2 _ _) (int___rmul___int_list k t l b.toArray n)
   ⟨e,rfl,⟨_,e,rfl⟩,Â F.slot_list_mul ⟨_,e,rfl⟩ F.entry_list_mul (F.args_list_mul_2 _ _) (AutoListH.list___mul___list_int_3 l b.toArray n k t c j g) ⟨e,?_⟩⟩)
 rw[f];exact⟨.ref _,_,I.afb (t':=s.toks) (r.rep k.toNat) (by rw[ET,Nat.mul_comm];exact hz),rfl,q _ I.fresh⟩
end L2
namespace Att
open PySem PySem.W PySem.Calls PyProof.Rows
theorem oA:∀(ns:List Int) (vs:List G'),WellAll P h vs (ns.map WData.int)->U1 vs ns:=by
 intro ns
 induction ns with
 | nil=>
  intro vs w;rw[å] at w;cases w;exact .nil
 | cons n ns c=>
  intro vs w;rw[QJ] at w;cases w with
  | cons a b=>
   cases a;exact .cons _ _ (c _ b)
theorem Aa {l:OpenLaw}(hn:l.most=some n)(abw:l.row.toRowW.claim.pre args=true)(hwl:WellAll P h vals args):
  ∃a vs ns,vals=[Qu a]/\args=[WData.list (ns.map WData.int)]/\h.get? a=some { cls:=.type "list",data:=.seq vs.toArray }/\U1 vs ns/\ns.length<=n:=by
 have e:WShape.hasAll [] args [.list .int]=true:=(pre_splitW abw).1;have f:l.pre.holds [] { args:=args }=true:=(pre_splitW abw).2;obtain⟨d,r,rfl,j,o⟩:=hasAllW_cons e;obtain rfl:=hasAllW_nil o;obtain⟨xs,rfl,g⟩:=hasW_list j;obtain⟨ns,rfl⟩:=ĳ g;have hlen:ns.length<=n:=by
  unfold OpenLaw.pre at f;have b:(WTm.not (.lt (.lit (.int (n:Int))) (.len (.arg 0)))).holds [] { args:=[.list (ns.map .int)] }=true:=by
   have b:=(holds_andW f).1;rw[hn] at b;exact b
  have c:=condW_of b (w_not (w_lt w_lit (w_len_list (w_arg rfl))));rw[Qx] at c;refine gV λq=>?_;have m:(n:Int)<((ns.length:Nat):Int):=by lia
  first
   | (rw[Qk m] at c;exact Py c (by decide))
   | (simp at c;lia)
 cases hwl with
 | cons p s=>
  cases s;cases p with
  | list ho Tl=>exact⟨_,_,ns,rfl,rfl,ho,oA ns _ Tl,hlen⟩
theorem Ab (l:OpenLaw)(args:List WData):l.row.toRowW.claim.post args (.bool true) args=true:=
 postW_of (r:=l.row.toRowW) (X:=(true==true))
  (show WShape.has [] (.bool true) .bool=true by first|rfl|decide|simp[WShape.has,WShape.arms,WShape.armsAll])
  (show(WTm.eq .res (.lit (.bool true))).value [] { args:=args,res:=some (.bool true),after:=args }=some (.bool (true==true)) from w_eq_bool (w_res rfl) w_lit) rfl
theorem ww {l:OpenLaw}(hn:l.most=some n)(hdf:d.params.defaults=[])(call:∀(w:Pz) (QY P8:N') (mg mb:M'->Option G') (fa:D') (o:J') (pm cd doc:G') (a:D') (vs:List G') (ns:List Int),
   Ground q loose [] XP w QY mg mb P8.heap->YP w P8.heap->
   P8.heap.get? fa=some o->o.data=.func (docDef d.name d.params d.body d.scope pm cd doc)->P8.heap.CodeRec cd d.name->mg d.name=some (.ref fa)->
   P8.heap.get? a=some { cls:=.type "list",data:=.seq vs.toArray }->U1 vs ns->ns.length<=n->P8.gens=#[]->
   codeAny (Px l.prog w) callerA (.call (.ref fa) ⟨[.ref a],[]⟩) (λr s'=>r=.ok (.ret (.bool true))/\OldK P8.heap s'.heap/\s'.os=P8.os/\VO s'.gens) P8):
  WalkO q loose XP YP l.row.toRowW d [] (λf vs=>ĸ f vs):=by
 intro w QY P8 mg mb G Y fa o pm cd doc s kV A hd x h c u args vals as g y t b v;obtain rfl:s=.none:=Dflts.none h hdf;obtain rfl:kV=.none:=Dflts.noKw h;obtain⟨a,vs,ns,rfl,rfl,e,hints,hlen⟩:=Aa hn g b;refine enter_call (Xq (call w QY P8 mg mb fa o pm cd doc a vs ns G Y A (fd_plain hd) x c e hints hlen u) λr s' C=>?_);obtain⟨rfl,D,j,m⟩:=C;exact⟨.inl ⟨.bool true,.bool true,[],rfl,λ_=>rfl,.bool true,Ab l _,λ_=>⟨Yb,λ_ p=>(nomatch p)⟩⟩,D,j,m⟩
end Att
namespace L2
open PySem PySem.Spec PyProof.Rows
theorem ja:∀{vs:List G'}{ns:List Int},U1 vs ns->aL (ns.map V.int) vs
 | _,_,.nil=>.nil
 | _,_,.cons n t h=>.cons ⟨t,rfl⟩ (ja h)
noncomputable def dQ (s:PD):Zt:=match s with
 | .FunctionDef _ a _ _ _ _ _ _ _ _=>a
 | _=>{ posonlyargs:=[],args:=[],vararg:=none,kwonlyargs:=[],kw_defaults:=[],kwarg:=none,defaults:=[] }
noncomputable def bR (s:PD):List PD:=match s with
 | .FunctionDef _ _ b _ _ _ _ _ _ _=>b
 | _=>[]
noncomputable def ao (s:PD):Su:=match s with
 | .FunctionDef _ _ _ _ _ _ sc _ _ _=>sc
 | _=>{ kind:=.function,names:=[],isGenerator:=false,isCoroutine:=false }
abbrev PV:Si:=λ_ _ _ _ _ _=>False
abbrev E0:XK:=λ_ _ _=>False
theorem lY:jC PV X E0:=λ_ _ _ _ _ _ _ h=>h.elim
structure Qh (K)(x qual)(st)(f)(fd):Prop where
 ex:∃(oc:G') (od:Option D') (kV doc pm:G') (an:Option D') (P3 ct:G') (SV:Array (Option G')),
  fd=Wo x qual (dQ st) (bR st) (ao st) .none kV doc pm an P3 ct/\K.lookup f=some ⟨oc,od,.func fd,SV⟩/\î K P3 qual=true
 kp:Vj K (.ref f)=true
theorem Qh.ok {P:PU}{w:Pz}{K:Po}{mg:M'->Option G'}{base:Ps}{x qual:M'}{st:PD}{f:D'}{fd:P5}{N ps:List M'}{k:Nat}{sp:Sp}(F:Qh K x qual st f fd)(S:QE N ps (ao st))(len:∀vs H Q E,sp vs H Q E->vs.length=ps.length)(Ws:∀(P3:G') (A:P7) (outer:List RD) (s:N') (H:Hp) (vs:List V) (Q:VK) (E:XK),Pn k (A.deeper (envOfC qual (ao st) s.heap.objs.size f P3))->sp vs H Q E->
   ∃t,SC (eS PV P w K mg base N qual (ao st) f P3 A outer s H E).Tz (bR st) t/\t { nx:=λ_ H'=>Q .Qb H',rt:=Q } (gG N vs) H):P4 P w K mg base PV (k+1) f fd ps sp:=by
 obtain⟨j,od,kV,doc,n,m,P3,ct,g,rfl,c,e⟩:=F.ex;refine yt c e S len λA outer s H vs Q E b d=>?_;obtain⟨t,h,q⟩:=Ws P3 A outer s H vs Q E b d;exact⟨t,h.Tz,q⟩
theorem Qh.binds {K:Po}{x qual:M'}{st:PD}{f:D'}{fd:P5}{ps:List M'}(F:Qh K x qual st f fd)(h:∀(kV doc pm:G') (an:Option D') (P3 ct:G') (us:List G'),us.length=ps.length->bindArgs (Wo x qual (dQ st) (bR st) (ao st) .none kV doc pm an P3 ct) ⟨us,[]⟩=pure (ps.zip us)):bA K fd ps []:=by
 obtain⟨d,od,kV,doc,pm,an,P3,ct,c,rfl,b,e⟩:=F.ex;exact .all (h kV doc pm an P3 ct)
theorem Ac {K:Po}{x qual:M'}{st:PD}{f:D'}{oc:G'}{od an:Option D'}{SV:Array (Option G')}{kV doc pm P3 ct:G'}(l:K.lookup f=some ⟨oc,od,.func (Wo x qual (dQ st) (bR st) (ao st) .none kV doc pm an P3 ct),SV⟩)(c:î K P3 qual=true)(k:Vj K (.ref f)=true):Qh K x qual st f (Wo x qual (dQ st) (bR st) (ao st) .none kV doc pm an P3 ct):=⟨⟨oc,od,kV,doc,pm,an,P3,ct,SV,rfl,l,c⟩,k⟩
theorem sX (hr:Pn k A):A.units+1<Qv:=iF (Nat.add_le_add_left (by decide:1<=64) _) hr.units
theorem pv (i:Nat)(hN:X.N[i]?=some x:=by rfl)(hv:Vis X.env.scope x:=by first|exact Q8 rfl|exact Xx (Q8 rfl)|exact Xx (Xx rfl))(hd:(x==("__debug__":M'))=false:=by decide)(R5:(x==("__classdict__":M'))=false:=by decide):PE X (.Name x pos) (eP i):=zJ hN hv hd R5
theorem az {A B:Prop}(h:B):if false=true then A else B:=by
 rw[Pr TQ];exact h
theorem aU {A B:Prop}(h:A):if true=true then A else B:=by
 rw[PK rfl];exact h
theorem iO {c A B:Prop}[Decidable c](h1:c->A)(h2:¬c->B):if c then A else B:=by
 by_cases h:c
 .rw[PK h];exact h1 h
 .rw[Pr h];exact h2 h
def ar (H H':Hp):Prop:=∀b o,H b=some o->H' b=some o
theorem ar.refl (H):ar H H:=λ_ _ h=>h
theorem ar.trans (a:ar H H1)(b:ar H1 H2):ar H H2:=λc o h=>b c o (a c o h)
theorem ar.free (e:ar H H')(h:H' l=Option.none):H l=Option.none:=by
 cases q:H l with
 | none=>rfl
 | some o=>
  rw[e l o q] at h;cases h
theorem Ad (x:bt P w H h a o):∃u,h.get? a=some u:=by
 cases o with
 | lst xs=>obtain⟨_,_,_,_,e⟩:=x;exact⟨_,e⟩
 | tup xs=>obtain⟨_,_,_,_,e,_⟩:=x;exact⟨_,e⟩
 | dK kvs=>obtain⟨_,_,_,_,o,_,_,e,_⟩:=x;exact⟨_,e⟩
 | dT kvs=>obtain⟨_,_,_,_,o,_,_,e,_⟩:=x;exact⟨_,e⟩
 | set S n=>obtain⟨o,_,_,_,e,_⟩:=x;exact⟨_,e⟩
 | ins C d fs=>obtain⟨_,_,_,e,_⟩:=x;exact⟨_,e⟩
 | own y=>obtain⟨_,e⟩:=x;exact⟨_,e⟩
 | xd fs=>obtain⟨_,⟨_,_,_,e,_⟩,_⟩:=x;exact⟨_,e⟩
 | Wv lo b=>obtain⟨_,_,_,e⟩:=x;exact⟨_,e⟩
 | Q2 ob u=>obtain⟨e,_⟩:=x;exact⟨_,e⟩
 | Sw ps=>exact⟨_,show h.get? a=some _ from x⟩
 | met f y=>exact⟨_,show h.get? a=some _ from x⟩
 | ext c=>obtain⟨_,⟨_,e⟩,_⟩:=x;exact⟨_,e⟩
def Trc (h:Ps)(e:D')(cls:G')(T:D'):Prop:=
 ∃a0 oe vs oT ts,h.get? e=some oe/\(oe.cls=cls/\vs[0]?=some a0)/\oe.data=.fields vs/\vs[1]?=some (.ref T)/\T≠e/\h.get? T=some oT/\oT.data=.fields ts/\ts[3]?=some .none
theorem Trc.aeT (x:Trc h e cls T)(hT:B.get? T=none):∃a0,h.TracedW B e cls a0:=by
 obtain⟨a0,b,vs,g,ts,c,d,m,f,j,n⟩:=x;exact⟨a0,b,vs,T,g,ts,c,d,m,f,hT,j,n⟩
theorem ua (x:h.TracedW B e cls a0):∃T,Trc h e cls T/\B.get? T=none:=by
 obtain⟨b,vs,T,g,ts,c,d,m,f,n,j,o⟩:=x;exact⟨T,⟨a0,b,vs,g,ts,c,d,m,f,j,o⟩,n⟩
structure Fly (h0:Ps)(H:Hp)(e:D')(cls:G')(h:Ps):Prop where
 new:h0.get? e=none
 free:H e=none
 tr:∃T,Trc h e cls T/\h0.get? T=none/\H T=none
def QP (P:PU)(w:Pz):Si:=λouter H s E e s'=>
 ∃(ea:D') (cls:G') (H':Hp),e=.ref ea/\s'.os=s.os/\VO s'.gens/\Un (QS outer) [] H H' s.heap s'.heap/\Rq P w H' s'.heap/\Fly s.heap H' ea cls s'.heap/\E cls none H'
theorem D7 {X:Cx}(V0:X.stack=X.env::X.outer)(hb:b∈X.fs):b∈QS X.stack:=by
 rw[V0];obtain⟨env,c,d⟩:=Ug.mp hb;exact Ug.mpr ⟨env,Qr _ c,d⟩
theorem yy {σ:St}(I:Inv X ac σ H s)(hb:b∈QS X.stack):∃o,s.heap.get? b=some o/\∀vs,o.data≠.fields vs:=(I.stack.mem hb).2
theorem wT {σ:St}(I:Inv X ac σ H s)(hex:X.ex=[])(V0:X.stack=X.env::X.outer)(hl:∀b∈l,H b=none/\X.QY.heap.get? b=none)(he:H e=none)(S9:X.QY.heap.get? e=none)(st:∀b o,b∉QS X.stack->b∉l->s.heap.get? b=some o->h'.get? b=some o)(up:s.heap.UpToSlots h')(tr:h'.TracedW (Yl s.heap (QS X.stack++l)) e cls a0)(q:E cls none H):
  QP X.prog X.w X.outer X.Yr X.QY E (.ref e) { s with heap:=h' }:=by
 have j:∀b,b∉X.ex:=λb z=>by rw[hex] at z;exact Py z (by simp)
 have x:∀b o,X.QY.heap.get? b=some o->b∉X.fs->b∉QS X.stack:=λb o c nb z=>by
  rcases Qe.mp (I.Vl b z) with r|r
  .exact Py (Rs (Qf c) I.ok.above) (by rw[r];exact Wh _)
  .exact nb r
 have A:∀b o,X.QY.heap.get? b=some o->b∉l:=λb o c z=>by rw[(hl b z).2] at c;cases c
 have g:∀b,b∈QS X.stack->∃o p,s.heap.get? b=some o/\(∀vs,o.data≠.fields vs)/\h'.get? b=some { o with slots:=p }:=λb d=>by
  obtain⟨o,c,nd⟩:=yy I d;obtain⟨p,f⟩:=up b o c nd;exact⟨o,p,c,nd,f⟩
 obtain⟨T,G,C⟩:=ua tr;refine⟨e,cls,H,rfl,I.os,I.bare,⟨λb o c n d _=>?_,λb o c n d _=>?_,λb o c n _=>I.base.free b o c n (j b),λb o c _=>?_,I.base.RC,I.base.Um,I.base.Uo⟩,λa o v=>?_,⟨S9,he,T,G,?_,?_⟩,q⟩
 .exact st b o (x b o c d) (A b o c) (I.base.keep b o c n d (j b))
 .obtain⟨p,f⟩:=I.base.slot b o c n d (j b);obtain⟨t,L,F,nd,h⟩:=g b (D7 V0 d);rw[f] at F;cases F;exact⟨L,h⟩
 .obtain⟨t,f⟩:=I.base.there b o c (j b)
  by_cases d:b∈QS X.stack
  .obtain⟨_,_,_,_,h⟩:=g b d;exact⟨_,h⟩
  .exact⟨t,st b t d (A b o c) f⟩
 .refine(I.PQ a o v).Vn (λb u d c=>st b u (λz=>?_) (λz=>?_) c) (λ_ z=>z) λ_ _ z=>z
  .have n:=I.abk b z;rcases d with r|r
   .rw[r,v] at n;cases n
   .rw[r] at n;cases n
  .have n:=(hl b z).1;rcases d with r|r
   .rw[r,v] at n;cases n
   .rw[r] at n;cases n
 all_goals
  have y:T∉QS X.stack:=λz=>by
   obtain⟨o,p,_,nd,h⟩:=g T z;obtain⟨_,_,_,M,ts,_,_,_,_,_,D,J,_⟩:=G;rw[h] at D;cases D;exact nd ts J
  have old:T∈l\/s.heap.get? T=none:=by
   by_cases z:T∈l
   .exact .inl z
   .refine .inr ?_;cases c:s.heap.get? T with
    | none=>rfl
    | some o=>
     rw[Zj _ c (λm=>(QW.mp m).elim y z)] at C;cases C
 .rcases old with z|z
  .exact(hl T z).2
  .cases c:X.QY.heap.get? T with
   | none=>rfl
   | some o=>
    obtain⟨t,f⟩:=I.base.there T o c (j T);rw[z] at f;cases f
 .rcases old with z|z
  .exact(hl T z).1
  .cases c:H T with
   | none=>rfl
   | some o=>
    obtain⟨u,f⟩:=Ad (I.PQ T o c);rw[z] at f;cases f
def dS (CX:Si)(X:Cx)(E:St->XK):Prop:=∀(ac:List (D'×J')) (σ:St) (H:Hp) (s:N') (e:G') (s':N'),Inv X ac σ H s->CX X.stack H s (E σ) e s'->X.xe e s'
def ub (X:Cx)(E:St->XK):Prop:=∀(ac:List (D'×J')) (σ:St) (H:Hp) (s:N') (h':Ps) (e:D') (cls:G') (vs:List G'),Inv X ac σ H s->Ps.MadeExcOf s.heap h' e cls vs->E σ cls none H->X.xe (.ref e) { s with heap:=h' }
def Gp (sp:Sp)(RV:List V)(E:St->XK)(t:TA):TE:=λσ H Q=>t σ H λvs H1=>sp (vs++RV) H1 Q (E σ)
theorem wU {X:Cx}{CX:Si}{k:Nat}{f:D'}{fd:P5}{ps:List M'}{sp:Sp}{RV:List V}{ds:List G'}{E:St->XK}{ac:List (D'×J')}{σ:St}{H:Hp}{s:N'}{Q:VK}{us:List G'}{vs:List V}(F:P4 X.prog X.w X.K X.mg X.base CX k f fd ps sp)(hr:Pn k X.A)(hb:bA X.K fd ps ds)(hd:aL RV ds)(hx:dS CX X E)(I:Inv X ac σ H s)(r:aL vs us)(h:sp (vs++RV) H Q (E σ)):Pq (Px X.prog X.w) X.A (call (.ref f) us) (EP X ac σ Q) X.xe s:=by
 have r2:aL (vs++RV) (us++ds):=r.append hd;have c:(us++ds).length=ps.length:=by rw[<-r2.length];exact F.len _ _ _ _ h
 refine Ò (Xq (F.run X.A X.stack s H ⟨us,[]⟩ (us++ds) (vs++RV) Q (E σ) hr I.abu (hb s us I.Re c) r2 h) λr d b=>?_);cases r with
 | error e=>exact hx ac σ H s e d I b
 | ok g=>
  cases g with
  | ret u=>exact I.after b
  | next=>exact SH b
  | brk=>exact SH b
  | cont=>exact SH b
theorem Ci (F:P4 X.prog X.w X.K X.mg X.base CX k f fd ps sp)(hr:Pn k X.A)(hg:Gl X x)(hm:X.mg x=some (.ref f))(hk:Vj X.K (.ref f)=true)(hb:bA X.K fd ps ds)(hd:aL RV ds)(hx:dS CX X E)(ha:PA X (e::es) t)(T4:(x==("__debug__":M'))=false:=by decide)(he:QX (e::es) X.env=(false,eval e X.env)::QX es X.env:=by rfl)(S8:(backTo pos (QX es X.env)).any (·.1)=false:=by rfl):
  PE X (.Call (.Name x p) (e::es) [] pos) (Gp sp RV E t):=by
 intro ac s c H Q I h;refine τ (iw I hg hm ?_ T4);refine W.callWith_K (h₀:=X.base) I.ok.mod.XE hk (PY (ha pos ac s c H _ I h) λus s1 d=>QK d λvs g b r q=>⟨b.Re,?_⟩) he S8;exact wU F hr hb hd hx b r q
theorem Gq:dS PV X E:=λ_ _ _ _ _ _ _ h=>h.elim
theorem pS:dS PV X (λ_ _ _ _=>False):=Gq
theorem P9 (K)(ha:PE X a ta)(hb:PE X b tb)(e:X.K=K:=by rfl)(hs:wR b:=by intro _ _;rfl):PE X (.Subscript a b pos) (VY (Gm K) ta tb):=by
 subst e;exact cI Gn ha hb hs
theorem lc (h:decide (sc.names.lookup y=some .local \/sc.names.lookup y=some .cell)=true):Loc sc y:=by
 unfold Loc;exact Wb h
theorem Cj {K:Po}:dS (QP P w) (eS (QP P w) P w K mg base N qual scope f cd A outer P8 H₁ E) (λ_=>E):=by
 intro ac Z H s e u I D;obtain⟨c,cls,Y,rfl,J,F,un,R,d,q⟩:=D;have h:=I.acR (ch:=[]) J un R F (λb z=>Py z (by simp));obtain⟨T,Q,j,n⟩:=d.tr;have up:∀b,s.heap.get? b=none->P8.heap.get? b=none:=λb g=>by
  cases p:P8.heap.get? b with
  | none=>rfl
  | some o=>
   obtain⟨W,t⟩:=I.base.there b o p (by intro z;exact Py (show b∈([]:List D') from z) (by simp));rw[g] at t;cases t
 have v:∀b∈[c,T],(Yl u.heap (QS (eS (QP P w) P w K mg base N qual scope f cd A outer P8 H₁ E).stack++[c,T])).get? b=none:=λb g=>İ _ (Sc _ g);obtain⟨U,x⟩:=Q.aeT (v T (by simp));show Pq (Px P w) (A.deeper (envOfC qual scope P8.heap.objs.size f cd)) (leaving (envOfC qual scope P8.heap.objs.size f cd) (.ref c)) _ _ u;refine wpAny_leaving_nextW (outer:=outer) (L:=P8.heap.objs.size) h.ok.frames (Do h.stack λenv C a M=>Ue _ (Ug.mpr ⟨env,C,M⟩)) rfl x (λb o z=>ð _ z) (v c (by simp)) λh' G=>?_;obtain⟨k1,k2,k3,O⟩:=G;exact wT (X:=eS (QP P w) P w K mg base N qual scope f cd A outer P8 H₁ E) (l:=[c,T]) h rfl rfl
  (λb g=>by
   rcases Qe.mp g with z|z
   .rw[z];exact⟨d.free,up c d.new⟩
   .rw[Ri.mp z];exact⟨n,up T j⟩)
  d.free (up c d.new) (λb o S y p=>k1 b o (Zj _ p λm=>(QW.mp m).elim S y)) O k3 q
theorem yz {K:Po}:ub (eS (QP P w) P w K mg base N qual scope f cd A outer P8 H₁ E) (λ_=>E):=by
 intro ac G H s x e cls vs I g q;show Pq (Px P w) (A.deeper (envOfC qual scope P8.heap.objs.size f cd)) (leaving (envOfC qual scope P8.heap.objs.size f cd) (.ref e)) _ _ { s with heap:=x };have v:H e=none:=by
  cases d:H e with
  | none=>rfl
  | some o=>
   obtain⟨u,c⟩:=Ad (I.PQ e o d);rw[g.new] at c;cases c
 have h0:P8.heap.get? e=none:=by
  cases d:P8.heap.get? e with
  | none=>rfl
  | some o=>
   obtain⟨F,c⟩:=I.base.there e o d (by intro z;exact Py (show e∈([]:List D') from z) (by simp));rw[g.new] at c;cases c
 refine wpAny_leaves_madeW (base:=Yl s.heap (QS (eS (QP P w) P w K mg base N qual scope f cd A outer P8 H₁ E).stack++[])) (h:=s.heap) (outer:=outer) (L:=P8.heap.objs.size) (cls:=cls) (args:=vs) I.ok.frames rfl (λb o z=>ð _ z)
  (Do I.stack λenv p a y=>Ue _ (Ug.mpr ⟨env,p,y⟩)) g λh' t n _ _ ups=>?_
 obtain⟨k1,k2,k3,C⟩:=n;exact wT (X:=eS (QP P w) P w K mg base N qual scope f cd A outer P8 H₁ E) (s:=s) (l:=[]) I rfl rfl (λb z=>Py z (by simp)) v h0
  (λb o D j d=>k1 b o (Zj _ d λm=>(QW.mp m).elim D j)) ((Ps.UpToSlots.of_keeps g.keeps).trans ups) C q
theorem Qh.U5 {P:PU}{w:Pz}{K:Po}{mg:M'->Option G'}{base:Ps}{x qual:M'}{st:PD}{f:D'}{fd:P5}{N ps:List M'}{k:Nat}{sp:Sp}(F:Qh K x qual st f fd)(S:QE N ps (ao st))(len:∀vs H Q E,sp vs H Q E->vs.length=ps.length)(Ws:∀(X:Cx) (P3:G') (A:P7) (outer:List RD) (s:N') (H:Hp) (vs:List V) (Q:VK) (E:XK),X=eS (QP P w) P w K mg base N qual (ao st) f P3 A outer s H E->dS (QP P w) X (λ_=>E)->ub X (λ_=>E)->
   Pn k X.A->sp vs H Q E->∃t,SC X (bR st) t/\t { nx:=λ_ H'=>Q .Qb H',rt:=Q } (gG N vs) H):P4 P w K mg base (QP P w) (k+1) f fd ps sp:=by
 obtain⟨h,od,kV,doc,m,j,P3,ct,g,rfl,c,e⟩:=F.ex;refine yt c e S len λA outer s H vs Q E b d=>?_;exact Ws _ P3 A outer s H vs Q E rfl Cj yz b d
theorem PS.Tz {st:PD}(h:PS X.Tz st t):PS X st t:=λac s c H D I b=>
 UY (h ac s c H D (I.Vo _) b) (λ_ _ q=>q.Wp) λ_ _ z=>SH z
abbrev bmV:List G':=[.type "ValueError",.type "Exception",.type "BaseException",.type "object"]
theorem KS {K:Po}(I:K.In h)(q:Ì K C bmB newId=true):
  ∃bm N nm qn bs hdct sn sub ab col dd k0 k1 k2 k3 k5 mN,h.get? C=some (excClassObj nm qn C N bs bm hdct sn sub ab col dd k0 k1 k2 k3 k5 newId)/\h.Ns N mN/\mN "__init__"=none/\OwnTail h bmB bm:=by
 unfold Ì at q
 split at q
 case h_2=>cases q
 case h_1 dd cd sl lk=>
  split at q
  case h_2=>cases q
  case h_1 C' bm k0 k1 k2 k3 nid k5 em es=>
   rw[Tv,Tv,Tv,Tv,Tv] at q;obtain⟨⟨⟨⟨⟨f,g⟩,b⟩,m⟩,d⟩,n⟩:=q;have j:C'=C:=beq_iff_eq.mp f;have e:nid=newId:=beq_iff_eq.mp g;have c:cd.hasDel=false:=by cases hh:cd.hasDel with
    | false=>rfl
    | true=>rw[hh] at b;cases b
   subst j e;have o:sl=#[k0,k1,k2,k3,some (.builtin nid),k5]:=by
    cases sl with
    | mk l=>exact congrArg Array.mk es
   cases cd with
   | mk name bases mro ns qualname hasDict slotNames subclasses abstract collection hasDel=>
    simp only at em c;subst em c o;exact⟨bm,ns,name,qualname,bases,hasDict,slotNames,subclasses,abstract,collection,dd,k0,k1,k2,k3,k5,_,I _ _ lk,
     .of_isNs (W.isNs_of_in I d),W.nsMap_none_of_in I d (beq_iff_eq.mp n),W.tail_of_in I m⟩
structure VS (K)(mg:M'->Option G')(x)(C):Prop where
 bound:mg x=some (.ref C)
 ok:Ì K C bmV "ValueError.__new__"=true
def Gr (C:D')(E:St->XK)(t:TA):TS:=λ_ σ H=>t σ H λvs H1=>vs.length<=PH/\E σ (.ref C) none H1
theorem cN (hc:X.calm=true)(hg:Gl X x)(O:VS X.K X.mg x C)(hr:ub X E)(ha:PA X (abx::rest) t)(hd:(x==("__debug__":M'))=false:=by decide)(he:QX (abx::rest) X.env=(false,eval abx X.env)::QX rest X.env:=by rfl)(S8:(backTo SB (QX rest X.env)).any (·.1)=false:=by rfl):
  PS X (.Raise (some (.Call (.Name x np) (abx::rest) [] SB)) none pos) (Gr C E t):=by
 intro ac s d H D I h;obtain⟨bm,N,nm,p,bs,hdct,sn,sub,ab,col,dd,k0,k1,k2,k3,k5,mN,j,u,c,T⟩:=KS I.ok.mod.XE O.ok;refine wpAny_Raise_call_subT (C:=C) (nm:=nm) (q:=p) (N:=N) (bs:=bs) (bm:=bm) (hdct:=hdct) (sn:=sn) (sub:=sub) (ab:=ab) (col:=col) (dd:=dd) (k0:=k0) (k1:=k1) (k2:=k2) (k3:=k3) (k5:=k5) (mN:=mN)
  PySem.F.excBase_ValueError (T.hasType (by decide +kernel)) (I.ok.hd hc) (by rw[he];show(false||(backTo SB (QX rest X.env)).any (·.1))=false;rw[S8];rfl) c (iw I hg O.bound ⟨rfl,?_⟩ hd)
 have f:=ha SB ac s d H _ I h;rw[he] at f ⊢;refine ŝ (PY f λus s2 ⟨vs,o,b,r,n,m⟩=>⟨rfl,by rw[<-r.length];exact n,b.bk _ _ j,u.keeps b.bk,T.keeps b.bk,λh' e g=>?_⟩);exact hr ac d o s2 h' e _ _ b g m
theorem iP:∀(names:List (M'×Wn)) (acc:List (M'×D')),(∀y∈names,y.2=.free->∃c,env.cells.lookup y.1=some c)->
  ∃cl,(forIn (m:=Sem) names acc λ(y:M'×Wn) cs=>(do if (y.2==Zl)=true then (do let c <-cellOf env y.1;pure (Ze ((y.1,c)::cs))) else pure (Ze cs)))=pure cl/\
   (∀y c,cl.lookup y=some c->acc.lookup y=some c\/env.cells.lookup y=some c)/\(∀y∈names,y.2=.free->(cl.lookup y.1).isSome=true)/\∀y,(acc.lookup y).isSome=true->(cl.lookup y).isSome=true
 | [],acc,_=>⟨acc,rfl,λ_ _ e=>.inl e,(λ_ h=>Py h (by simp)),λ_ e=>e⟩
 | (n,k)::r,acc,h=>by
  by_cases p:k=.free
  .subst p;obtain⟨c,u⟩:=h (n,.free) Qa rfl;obtain⟨cl,s,j,t,f⟩:=iP r ((n,c)::acc) λy b=>h y (Qr _ b);have look:∀y,Yj y ((n,c)::acc)=if (y==n)=true then some c else acc.lookup y:=λy=>by
    rw[Ye];cases (y==n) <;> rfl
   refine⟨cl,?_,λy d e=>?_,λy b g=>?_,λy e=>?_⟩
   .rw[Ŭ];have o:cellOf env n=pure c:=by unfold cellOf;rw[u]
    simp only[beq_self_eq_true,if_true,o,pure_bind];exact s
   .rcases j y d e with z|z
    .rw[look] at z
     by_cases b:(y==n)=true
     .rw[PK b] at z;have:y=n:=by simpa using b
      subst this;rw[u];exact .inr z
     .rw[Pr b] at z;exact .inl z
    .exact .inr z
   .rcases Qe.mp b with z|z
    .subst z;exact f n (by rw[look,PK (by simp)];rfl)
    .exact t y z g
   .refine f y ?_;rw[look]
    split
    .rfl
    .exact e
  .obtain⟨cl,s,j,t,f⟩:=iP r acc λy b=>h y (Qr _ b);refine⟨cl,?_,j,λy b g=>?_,f⟩
   .rw[Ŭ];have v:(k==Zl)=false:=by simpa using p
    simp only[v,Q7,if_false,pure_bind];exact s
   .rcases Qe.mp b with z|z
    .subst z;exact Py g p
    .exact t y z g
theorem oB (h:∀y∈scope.names,y.2=.free->∃c,env.cells.lookup y.1=some c):
  ∃cl,closureFor scope env=pure cl/\(∀y c,cl.lookup y=some c->env.cells.lookup y=some c)/\∀y∈scope.names,y.2=.free->(cl.lookup y.1).isSome=true:=by
 obtain⟨cl,f,d,g,_⟩:=iP scope.names [] h;refine⟨cl,?_,λy c e=>(d y c e).elim (λz=>by cases z) id,g⟩;have e:closureFor scope env=((forIn (m:=Sem) scope.names ([]:List (M'×D')) λ(y:M'×Wn) b=>(do if (y.2==Zl)=true then (do let c <-cellOf env y.1;pure (Ze ((y.1,c)::b))) else pure (Ze b))) >>= pure):=rfl;rw[e,f];rfl
noncomputable def RJ (X:Cx)(scope:Su)(cl:List (M'×D'))(x:M')(C:D')(Qy:N')(RI:Hp)(fp:List D')(ac:List (D'×J')):Cx where
 prog:=X.prog
 w:=X.w
 K:=X.K
 mg:=X.mg
 base:=X.base
 A:=X.A
 N:=x::X.N
 QY:=Qy
 Yr:=RI
 env:=compEnvC scope cl C X.env
 outer:=X.stack
 stack:=X.stack
 ex:=fp
 fn:=λ_=>false
 calm:=X.calm
 pn:=X.pn++ac
 xe:=λ_ _=>False
structure Uk (sc:Su)(N:List M')(scope:Su)(x:M'):Prop where
 kind:scope.kind=.function
 cell:∀y∈scope.names,y.2≠.cell
 free:∀y∈scope.names,y.2=.free->sc.names.lookup y.1=some .cell\/sc.names.lookup y.1=some .free
 names:∀y∈scope.names,y.2=.local ->scope.names.lookup y.1=some .local
 var:scope.names.lookup x=some .local
 fresh:x∉N
 other:∀y∈N,scope.names.lookup y≠some .local
theorem jE {scope:Su}{env:RD}:∀{names:List (M'×Wn)}{y:M'}{k:Wn},
  (names.map λ(n,k)=>if (k==Zl&&env.scope.kind==.function&&env.kindOf n==some .cell) then (n,Wn.cell) else (n,k)).lookup y=some k->
   ∃k',names.lookup y=some k'/\(k'=k\/(k'=.free/\k=.cell))
 | [],_,_,h=>by simp at h
 | (n,k0)::r,y,k,h=>by
  rw[QJ] at h
  by_cases d:(y==n)=true
  .have:y=n:=by simpa using d
   subst this
   by_cases c:(k0==Zl&&env.scope.kind==.function&&env.kindOf y==some .cell)=true
   .simp only[c,if_true,Ye,beq_self_eq_true] at h;cases h;rw[Tv,Tv] at c;exact⟨k0,by simp[Ye],.inr ⟨by simpa using c.1.1,rfl⟩⟩
   .simp only[c,Q7,if_false,Ye,beq_self_eq_true] at h;cases h;exact⟨k0,by simp[Ye],.inl rfl⟩
  .have b:(y==n)=false:=by simpa using d
   have h':(r.map λ(n,k)=>if (k==Zl&&env.scope.kind==.function&&env.kindOf n==some .cell) then (n,Wn.cell) else (n,k)).lookup y=some k:=by
    by_cases c:(k0==Zl&&env.scope.kind==.function&&env.kindOf n==some .cell)=true
    .simp only[c,if_true,Ye,b] at h;exact h
    .simp only[c,Q7,if_false,Ye,b] at h;exact h
   obtain⟨k',f,e⟩:=jE (scope:=scope) (env:=env) h';exact⟨k',by rw[Ye,b];exact f,e⟩
noncomputable abbrev bZ (Pp:List G')(n:Nat):J':={ cls:=.type "list",data:=.seq Pp.toArray n }
variable {X:Cx}{scope:Su}{cl:List (M'×D')}{x:M'}{C:D'}{D:D'}{Qy:N'}{RI:Hp}{fp:List D'}{ac:List (D'×J')}{σ:St} in
theorem qS {SI:Ps}{t':Nat}{Pp:List G'}{n:Nat}(I:Inv X ac σ RI Qy)(S:Uk X.env.scope X.N scope x)(hfp:∀b∈fp,jn X ac RI b)(hfo:∀b∈fp,∃o,Qy.heap.get? b=some o)(Sy:∀y c,cl.lookup y=some c->X.env.cells.lookup y=some c)(hcf:∀y∈scope.names,y.2=.free->(cl.lookup y.1).isSome=true)(hD:Qy.heap.objs.size<=D)(hC:Qy.heap.objs.size<=C)(XN:D≠C)(Ur:∃m,SI.Ns C m)(hd:SI.get? D=some (bZ Pp n))(keep:∀b o,Qy.heap.get? b=some o->SI.get? b=some o):
  Inv (RJ X scope cl x C Qy RI fp ac) [(D,bZ Pp n)] (none::σ) RI { Qy with heap:=SI,toks:=t' }:=by
 have A:∀{y:M'}{k:Wn},(compEnvC scope cl C X.env).kindOf y=some k->∃j,scope.names.lookup y=some j/\(j=k\/(j=.free/\k=.cell)):=λ{y k} h=>jE (scope:=scope) h;have t:∀{y:M'},((compEnvC scope cl C X.env).kindOf y=some .cell\/(compEnvC scope cl C X.env).kindOf y=some .free)->scope.names.lookup y=some .free:=λ{y} h=>by
  rcases h with h|h
  .obtain⟨j,g,s⟩:=A h;rcases s with z|z
   .subst z;exact Py rfl (S.cell _ (Uf g))
   .rw[z.1] at g;exact g
  .obtain⟨j,g,s⟩:=A h;rcases s with z|z
   .rw[z] at g;exact g
   .exact Py z.2 (by decide)
 have sz:=I.sz;have new:∀b,Qy.heap.objs.size<=b->b∉QS X.stack:=λb f z=>by
  rcases Qe.mp (I.Vl b z) with r|r
  .exact Py (Rs I.lt f) (by rw[r];exact Wh _)
  .exact I.afa f r
 have G:∀b o,Qy.heap.get? b=some o->b≠C:=λb o e=>Qw (Rs (Qf e) hC);refine⟨⟨I.ok.mod,S.kind,I.ok.glob,I.ok.blt,hC,λy z c U h2=>I.ok.inj y z c (Sy y c U) (Sy z c h2),λy Q=>?_,λy c h=>Py h (by show ¬(false=true);decide),I.ok.hd,I.ok.frames,.inl rfl,λb f=>⟨?_,λy c h=>?_⟩,I.bs,RX I.ok.Vt sz,λb o e f=>?_,λb f z=>?_,I.stack,I.abk⟩,
  rfl,I.bare,Un.kept keep,?_,λy c h=>?_,I.PQ.fresh hC,λy c h=>I.Tx y c (Sy y c h),λp hp=>?_,I.PQ.kept keep,?_⟩
 .have e:=t Q;exact V9.mp (hcf (y,.free) (Uf e) rfl)
 .obtain⟨o,e⟩:=hfo b f;exact G b o e
 .exact(hfp b f).2.2.2.2.1 y c (Sy y c h)
 .obtain⟨_,_,_,T,_⟩:=hfp b f;rcases T with r|r
  .exact I.ok.Up b o e r
  .exact Py (Rs (Qf (I.ok.bs b o e).1) r) (Wh _)
 .obtain⟨_,Y,hf,_⟩:=hfp b f;rcases Qe.mp (I.Vl b z) with r|r
  .exact Y r
  .exact hf r
 .obtain⟨m,R⟩:=Ur;obtain⟨m',_,O⟩:=I.loc;refine⟨m,R,λi y v g s L=>?_⟩;cases i with
  | zero=>cases (show some (none:Option V)=some (some v) from s)
  | succ i=>
   have J:X.N[i]?=some y:=g;have Wy:σ[i]?=some (some v):=s;have fr:scope.names.lookup y=some .free:=by
    rcases L with z|z
    .obtain⟨j,w,q2⟩:=A z;rcases q2 with q2|q2
     .rw[q2] at w;exact Py w (S.other y (Q6 J))
     .exact Py q2.2 (by decide)
    .exact t z
   have kd:(compEnvC scope cl C X.env).kindOf y=some .cell\/(compEnvC scope cl C X.env).kindOf y=some .free:=by
    rcases L with z|z
    .obtain⟨j,w,q2⟩:=A z;rw[fr] at w;cases w;rcases q2 with q2|q2
     .cases q2
     .exact Py q2.2 (by decide)
    .exact z
   have kx:=S.free (y,.free) (Uf fr) rfl;obtain⟨u,r,q⟩:=O i y v J Wy (.inr kx);refine⟨u,r,.inr ⟨kd,?_⟩⟩;obtain⟨c,M⟩:=V9.mp (hcf (y,.free) (Uf fr) rfl);refine⟨c,M,?_⟩;rcases q with⟨P,_⟩|⟨_,c',Yz,z⟩
   .have E:X.env.scope.names.lookup y=some .local :=P;rcases kx with kx|kx <;> (rw[E] at kx;cases kx)
   .have:=Sy y c M;rw[Yz] at this;cases this;obtain⟨o,F,hd⟩:=z;exact⟨o,keep _ _ F,hd⟩
 .obtain⟨v,o,F,hd⟩:=I.cell y c (Sy y c h);exact⟨v,o,keep _ _ F,hd⟩
 .rcases QW.mp hp with z|z
  .obtain⟨e,W,ne,Z,d⟩:=I.pin p z;refine⟨keep _ _ e,W,G _ _ e,λq=>?_,d⟩;rcases Qe.mp (I.Vl _ q) with r|r
   .exact ne r
   .exact Z r
  .rw[Ri.mp z];exact⟨hd,I.PQ.fresh hD,XN,new D hD,λv q=>nomatch q⟩
 .show σ.length+1=X.N.length+1;rw[I.len]
variable {X:Cx}{scope:Su}{cl:List (M'×D')}{x:M'}{C:D'}{D:D'}{Qy:N'}{RI:Hp}{fp:List D'}{ac:List (D'×J')}{σ:St} in
theorem uc {h'':Ps}{s':N'}{H':Hp}{Ql:St}{Pp:List G'}{n:Nat}{ys:List V}(I:Inv X ac σ RI Qy)(hfp:∀b∈fp,jn X ac RI b)(hD:Qy.heap.objs.size<=D)(hC:Qy.heap.objs.size<=C)(J:Inv (RJ X scope cl x C Qy RI fp ac) [(D,bZ Pp n)] Ql H' s')(hs:UX C s'.heap h'')(r:aL ys Pp)(hz:ys.length<=PH):
  Inv X ac σ (upd H' D (.lst ys)) { s' with heap:=h'' }/\H' D=none:=by
 obtain⟨G,g,F,_,_⟩:=J.pin (D,bZ Pp n) (Sc _ Qa);have j:∀b,b≠C->h''.get? b=s'.heap.get? b:=λb c=>hs.2 b c;have p:∀b o,Qy.heap.get? b=some o->b≠C:=λb o e=>Qw (Rs (Qf e) hC);have s:∀b o,Qy.heap.get? b=some o->b≠D:=λb o e=>Qw (Rs (Qf e) hD);have h:∀b u,H' b=some u->b≠C:=λb u e z=>by
  have f:H' C=none:=J.free;rw[z,f] at e;cases e
 have un:=J.base;refine⟨I.acR (ch:=fp) J.os ⟨λb o e m c d=>?_,λb o e m c d=>?_,λb o e m d=>?_,λb o e d=>?_,λb xs e=>?_,λb o u e=>?_,λb ps e=>?_⟩ ?_ J.bare (λb c=>?_),g⟩
 .exact(j b (p b o e)).trans (un.keep b o e m c d)
 .obtain⟨A,q⟩:=un.slot b o e m c d;exact⟨A,(j b (p b o e)).trans q⟩
 .rw[al (s b o e)];exact un.free b o e m d
 .obtain⟨w,q⟩:=un.there b o e d;exact⟨w,(j b (p b o e)).trans q⟩
 .have q:=un.RC b xs e;rw[al (ax q g)];exact q
 .have q:=un.Um b o u e;rw[al (ax q g)];exact q
 .obtain⟨m,q⟩:=un.Uo b ps e;exact⟨m,by rw[al (ax q g)];exact q⟩
 .intro a o e
  by_cases t:a=D
  .subst t;rw[ak] at e;cases e;exact⟨hz,Pp,n,r,(j _ F).trans G⟩
  .rw[al t] at e;refine(J.PQ a o e).Vn (λb u c q=>(j b ?_).trans q) (λb q=>by rw[al (ax q g)];exact q) λb xs q=>by rw[al (ax q g)];exact q
   rcases c with z|z
   .rw[z];exact h a o e
   .exact h b _ z
 .obtain⟨_,L,_,v,E,y⟩:=hfp b c;exact⟨v,L,E,y⟩
def oC (J:It)(σ:St)(tt:TT)(te:TE)(Q:VK)(H1:Hp):Prop:=∃W:Nat->Nat->List V->Hp->Prop,(∃m,W 0 m [] H1)/\∀i m ys H2,W i m ys H2->
 (J.stop i H2/\ys.length<=PH/\∀p,H2 p=none->Q (.ref p) (upd H2 p (.lst ys)))\/
 (J.go i H2/\ys.length<PH/\∃N:List V->Hp->Prop,(∀zs H',N zs H'->∃m',m' < m/\W (i+1) m' zs H')/\∀x H3,J.ZC i H2 x H3->tt (some x::σ) H3 λb H4=>if b=true then te (some x::σ) H4 λy H5=>N (ys++[y]) H5 else N ys H4)
def D8 (wi:TI)(tt:TT)(te:TE):TE:=λσ H Q=>wi σ H λJ H1=>oC J σ tt te Q H1
def D9:TT:=λ_ H Q=>Q true H
theorem ZI (h:Q true H):D9 σ H Q:=h
def PTs (Y:Cx)(ifs:List PZ)(t:TT):Prop:=
 ∀(ac:List (D'×J')) (s:N') (σ:St) (H:Hp) (Q:Bool->Hp->Prop),Inv Y ac σ H s->t σ H Q->
  Pq (Px Y.prog Y.w) Y.A (forIn ifs true λc r=>if r=true then do let ok <-isTrue c Y.env (eval c Y.env);pure (Ze ok) else pure (Ze r)) (TP Y ac σ Q) Y.xe s
theorem iy:PTs Y [] D9:=λac s b H Q I h=>wpAny_tests_nil ⟨H,I,h⟩
theorem jF (h:PT Y c t):PTs Y [c] t:=λac s b H Q I q=>wpAny_tests_one (h ac s b H Q I q)
theorem ge {α:Type}{M:Xz}{A:P7}{t:Sem α}{Q:α->N'->Prop}{E:G'->N'->Prop}{s:N'}(h:Pq M A t Q (λ_ _=>False) s):Pq M A t Q E s:=UY h (λ_ _ z=>z) λ_ _ z=>z.elim
theorem fT (hc:X.calm=true)(S:Uk X.env.scope X.N scope x)(hi:PI X (.Name x px) iter wi)(ht:∀(cl:List (M'×D')) (C:D') (Qy:N') (RI:Hp) (fp:List D') (ac:List (D'×J')),PTs (RJ X scope cl x C Qy RI fp ac) ifs tt)(he:∀(cl:List (M'×D')) (C:D') (Qy:N') (RI:Hp) (fp:List D') (ac:List (D'×J')),PE (RJ X scope cl x C Qy RI fp ac) elt te)(hN:X.N.Nodup)(hs:∀v,foldedSetIterable iter X.env v=pure v:=by intro _;rfl):PE X (.ListComp elt [⟨.Name x px,iter,ifs,0⟩] scope pos) (D8 wi tt te):=by
 intro ac s t H Q I h;obtain⟨cl,ac1,Yt,ac2⟩:=oB (scope:=scope) (env:=X.env) (λy hy hf=>I.ok.has y.1 (S.free y hy hf));rw[eval_ListComp];refine OR (use:=none) (E:=X.xe) rfl hs ac1 S.kind S.names (PY (hi ac s t H _ I h) λL s1 h1=>PY h1 λitv s2 h2=>?_);obtain⟨it,fp,tn,J,g,e,P,T,RN,f2,W,⟨m0,w0⟩,turn⟩:=h2;subst e;refine Xl (Ń S.cell (by intro y hy;cases hy) (λU Ur Y=>?_) S.kind);dsimp only at Ur Y ⊢;generalize hP:s2.heap.push { cls:=.type "list",dict:=none,data:=.seq ([]:List G').toArray }=P2 at Ur Y ⊢;have hC:P2.objs.size=s2.heap.objs.size+1:=by rw[<-hP,Zg]
 have XN:s2.heap.objs.size≠P2.objs.size:=by rw[hC];exact Qw (Yd _)
 have Vr:s2.heap.objs.size<=P2.objs.size:=by rw[hC];exact Zq _
 have old:∀b o,s2.heap.get? b=some o->U.get? b=some o:=λb o e=>by
  have f:=Qf e;exact Y.extBut b o (by rw[hC];exact Qw (Za f)) (Qn _ (hP▸Qn _ e))
 have hd:U.get? s2.heap.objs.size=some (bZ [] 0):=Y.extBut _ _ XN (Qn _ (hP▸Rb _ rfl));have fo:∀b∈fp,∃o,s2.heap.get? b=some o:=λb f=>by
  obtain⟨o,e,_⟩:=T.obj _ _ RN b f;exact⟨o,e⟩
 have YG:∀b∈fp,b≠s2.heap.objs.size:=λb f=>by
  obtain⟨o,e⟩:=fo b f;exact Qw (Qf e)
 have JY:Inv (RJ X scope cl x P2.objs.size s2 g fp ac) [(s2.heap.objs.size,bZ [] 0)] (none::t) g { s2 with heap:=U,toks:=s2.toks+([]:List (M'×G')).length }:=
  qS P S f2 fo Yt ac2 (P1 _) Vr XN ⟨_,Ur⟩ hd old
 have Vp:∀{D:Hp}{j:List G'}{n:Nat},(∀b∈fp,D b=none)->∀b∈fp,jn (RJ X scope cl x P2.objs.size s2 g fp ac) [(s2.heap.objs.size,bZ j n)] D b:=λ{D j n} hn b f=>by
  obtain⟨_,g1,g2,g3,g4,g5⟩:=f2 b f;obtain⟨o,e⟩:=fo b f;refine⟨hn b f,?_,λz=>?_,.inl f,λy c q=>g4 y c (Yt y c q),λp F=>?_⟩
  .show b≠P2.objs.size;exact Qw (Rs (Qf e) Vr)
  .rcases Qe.mp (P.Vl b z) with r|r
   .exact g1 r
   .exact g2 r
  .rcases QW.mp F with z|z
   .exact g5 p z
   .rw[Ri.mp z];exact λq=>YG b f q.symm
 have nodup:(RJ X scope cl x P2.objs.size s2 g fp ac).N.Nodup:=Tw.mpr ⟨S.fresh,hN⟩;have loc:Loc (RJ X scope cl x P2.objs.size s2 g fp ac).env.scope x:=.inl (ù S.var);have loop:∀s4:N',s4={ s2 with heap:=U,toks:=s2.toks+([]:List (M'×G')).length }->
   codeAny (Px X.prog X.w) X.A (.compLoop (.ListComp elt [⟨.Name x px,iter,ifs,0⟩] scope pos) 0 (.ref it) (.ref s2.heap.objs.size) (compEnvC scope cl P2.objs.size X.env))
    (compPost (Px X.prog X.w) X.A X.xe none (EP X ac t Q) (.ref s2.heap.objs.size) P2.objs.size) s4:=by
  rintro s4 rfl;refine codeAny_loop rfl (λn s'=>∃i ys j c D v0,Inv (RJ X scope cl x P2.objs.size s2 g fp ac) [(s2.heap.objs.size,bZ j c)] (v0::t) D s'/\tn i s'.heap/\(∀b∈fp,D b=none)/\aL ys j/\W i n ys D) ?_ m0
   ⟨0,[],[],0,g,none,JY,T.keep _ _ _ RN (λb _ o e=>old b o e),λb f=>(f2 b f).1,.nil,w0⟩
  rintro n s3 ⟨i,ys,j,c,H3,v0,I3,SU,XJ,rv,w3⟩;show Pq _ _ ((compTurn (.ListComp elt [⟨.Name x px,iter,ifs,0⟩] scope pos) 0 (.ref it) (.ref s2.heap.objs.size) (compEnvC scope cl P2.objs.size X.env)).onRaise (λz=>do noteFrame z (compEnvC scope cl P2.objs.size X.env);theTreesLotGoes z)) _ _ s3;refine wpAny_noted ?_;rw[compTurn_list];rcases turn i n ys H3 w3 with⟨stop,hz,qn⟩|⟨go,hz,NN,R,step⟩
  .refine Pm (Ø (Pm (PY (T.done (RJ X scope cl x P2.objs.size s2 g fp ac) rfl rfl rfl hc i _ s3 _ H3 _ I3 (Vp XJ) SU stop) λr s5 G=>?_)));obtain⟨hr,I5⟩:=G;subst hr;refine Pu ?_;obtain⟨mC,hmC,_⟩:=I5.loc;refine⟨mC,hmC,λh'' ahg=>?_⟩;obtain⟨I6,Z⟩:=uc P f2 (P1 _) Vr I5 ahg rv hz;exact⟨.ref s2.heap.objs.size,_,I6,rfl,qn _ Z⟩
  .refine Pm (Ø (Pm (PY (T.item (RJ X scope cl x P2.objs.size s2 g fp ac) rfl rfl rfl hc i _ s3 _ H3 _ I3 (Vp XJ) SU go) λr s5 G=>?_)));obtain⟨u,hr,h5⟩:=G;subst hr;refine Pm (PY h5 λ_ s6 G=>?_);obtain⟨L,H6,I6,r6,y6,YH,fr6⟩:=G;have I6':=I6.pinned (Vp fr6) (T.obj _ _ YH);refine Pm (ü (iI (i:=0) I6' nodup rfl loc r6 (λs7 I7=>?_) (.inr (ù S.var))));have q7:=step L H6 y6;refine Pm (ge (PY (ht cl P2.objs.size s2 g fp ac _ s7 _ H6 _ I7 q7) λok s8 G=>?_));obtain⟨H8,I8,q8⟩:=G;have back:∀{m:Hp}{s9:N'},Inv (RJ X scope cl x P2.objs.size s2 g fp ac) ([(s2.heap.objs.size,bZ j c)]++jA fp s6.heap) (some L::t) m s9->tn (i+1) s9.heap/\∀b∈fp,m b=none:=λ{m s9} M=>by
    refine⟨T.keep _ _ _ YH λb f o e=>(M.pin (b,o) (Sc _ (Sc _ (e8 f e)))).1,λb f=>?_⟩;obtain⟨o,e,d⟩:=T.obj _ _ YH b f;exact(M.pin (b,o) (Sc _ (Sc _ (e8 f e)))).2.1
   cases ok with
   | false=>
    obtain⟨m',hm,w8⟩:=R ys H8 q8;obtain⟨t8,fr8⟩:=back I8;exact Pu ⟨rfl,m',hm,i+1,ys,j,c,H8,_,I8.Ym,t8,fr8,rv,w8⟩
   | true=>
    refine Pm (Pm (ge (PY (he cl P2.objs.size s2 g fp ac _ s8 _ H8 _ I8 q8) λyv s9 hh=>QK hh λy m M r9 q9=>?_)));obtain⟨m',hm,w9⟩:=R _ _ q9;obtain⟨t9,fr9⟩:=back M;have O:=M.Ym;obtain⟨eD,Z,XG,nf,_⟩:=O.pin (s2.heap.objs.size,bZ j c) (Sc _ Qa);refine Pm (ST (items:=j.toArray) ⟨c,eD⟩ (λXO ac3 Yu=>?_) (by rw[QI,<-rv.length];exact Yh hz));obtain⟨c',e10⟩:=ac3;have ac4:XO.get? s2.heap.objs.size=some (bZ (j++[yv]) c'):=by rw[e10];simp
    have I10:Inv (RJ X scope cl x P2.objs.size s2 g fp ac) [] (some L::t) m { s9 with heap:=XO }:=by
     have I9e:Inv (RJ X scope cl x P2.objs.size s2 g fp ac) [] (some L::t) m s9:=O.Zu λp F=>Py F (by simp);refine I9e.turned (t':=s9.toks) (it:=s2.heap.objs.size) (λb o f q=>(Yu.2 b f).trans q) Z XG (.inr (P1 _)) (λy cc q=>?_) λp F=>?_
     .obtain⟨v,z⟩:=P.cell y cc (Yt y cc q);exact Qw z.lt
     .have XQ:p∈X.pn++ac:=by
       have z:p∈(X.pn++ac)++[]:=F;simpa using z
      exact Qw (Qf (P.pin p XQ).1)
    have I11:Inv (RJ X scope cl x P2.objs.size s2 g fp ac) [(s2.heap.objs.size,bZ (j++[yv]) c')] (some L::t) m { s9 with heap:=XO }:=
     I10.Zu λp F=>by rw[Ri.mp F];exact⟨ac4,Z,XG,nf,λv q=>nomatch q⟩
    refine Pu (Pu ⟨rfl,m',hm,i+1,ys++[y],j++[yv],c',m,_,I11,?_,fr9,rv.append (.cons r9 .nil),w9⟩);exact T.keep _ _ _ t9 λb f o q=>(Yu.2 b (YG b f)).trans q
 exact codeAny_compStart_list (loop _ rfl) (T.self X.A 0 _ _ _ (T.keep _ _ _ RN (λb _ o e=>old b o e)) (loop _ rfl))
theorem nC {K:Po}(Pv:Nat->List V->Hp->Prop)(h0:Pv 0 [] H)(hl:∀i ys H,i<=xs.length->Pv i ys H->PM K H a xs/\ys.length<=i)(hz:xs.length<=PH)(hs:∀i x ys H,xs[i]?=some x->Pv i ys H->tt (some x::σ) H λb H4=>if b=true then te (some x::σ) H4 λy H5=>Pv (i+1) (ys++[y]) H5 else Pv (i+1) ys H4)(hd:∀ys H p,Pv xs.length ys H->H p=none->Q (.ref p) (upd H p (.lst ys))):oC (ZE K a) σ tt te Q H:=by
 refine⟨λi m ys H=>m=xs.length-i/\i<=xs.length/\Pv i ys H,⟨xs.length,by simp,RA _,h0⟩,?_⟩;rintro i m ys d ⟨rfl,f,p⟩;obtain⟨q,n⟩:=hl i ys d f p
 by_cases c:i<xs.length
 .refine .inr ⟨⟨xs,xs[i],q,by simp[c]⟩,by lia,Pv (i+1),λj o h=>⟨xs.length-(i+1),by lia,rfl,c,h⟩,λx s y=>?_⟩;obtain⟨e,y⟩:=y;subst e;exact hs i x ys _ (y xs q) p
 .have e:i=xs.length:=by lia
  subst e;exact .inl ⟨⟨xs,q,P1 _⟩,by lia,λb g=>hd ys d b p g⟩
theorem ud {K:Po}(Pv:Nat->List V->Hp->Prop)(h0:Pv 0 [] H)(hl:∀i ys H,i<=xs.length->Pv i ys H->PX K H a xs/\ys.length<=i)(hz:xs.length<=PH)(hs:∀i x ys H,xs[i]?=some x->Pv i ys H->tt (some x::σ) H λb H4=>if b=true then te (some x::σ) H4 λy H5=>Pv (i+1) (ys++[y]) H5 else Pv (i+1) ys H4)(hd:∀ys H p,Pv xs.length ys H->H p=none->Q (.ref p) (upd H p (.lst ys))):oC (ZD K a) σ tt te Q H:=by
 refine⟨λi m ys H=>m=xs.length-i/\i<=xs.length/\Pv i ys H,⟨xs.length,by simp,RA _,h0⟩,?_⟩;rintro i m ys d ⟨rfl,f,p⟩;obtain⟨q,n⟩:=hl i ys d f p
 by_cases c:i<xs.length
 .refine .inr ⟨⟨xs,xs[i],q,by simp[c]⟩,by lia,Pv (i+1),λj o h=>⟨xs.length-(i+1),by lia,rfl,c,h⟩,λx s y=>?_⟩;obtain⟨e,y⟩:=y;subst e;exact hs i x ys _ (y xs q) p
 .have e:i=xs.length:=by lia
  subst e;exact .inl ⟨⟨xs,q,P1 _⟩,by lia,λb g=>hd ys d b p g⟩
theorem iQ {lo:Int}(Pv:Nat->List V->Hp->Prop)(h0:Pv 0 [] H)(hl:∀i ys H,i<=n->Pv i ys H->ys.length<=i)(hz:n<=PH)(hs:∀i ys H,i<n->Pv i ys H->tt (some (.int (lo+i))::σ) H λb H4=>if b=true then te (some (.int (lo+i))::σ) H4 λy H5=>Pv (i+1) (ys++[y]) H5 else Pv (i+1) ys H4)(hd:∀ys H p,Pv n ys H->H p=none->Q (.ref p) (upd H p (.lst ys))):oC (XI lo n) σ tt te Q H:=by
 refine⟨λi m ys H=>m=n-i/\i<=n/\Pv i ys H,⟨n,by simp,RA _,h0⟩,?_⟩;rintro i m ys d ⟨rfl,f,p⟩;have o:=hl i ys d f p
 by_cases c:i<n
 .refine .inr ⟨c,by lia,Pv (i+1),λj s h=>⟨n-(i+1),by lia,rfl,c,h⟩,λx t y=>?_⟩;obtain⟨e,y⟩:=y;subst e y;exact hs i ys _ c p
 .have e:i=n:=by lia
  subst e;exact .inl ⟨P1 _,by lia,λb g=>hd ys d b p g⟩
noncomputable def jY (lo:Int)(n:Nat):List V:=(Q3 n).map λ(i:Nat)=>V.int (lo+(i:Int))
theorem jp (lo:Int)(n:Nat):(jY lo n).length=n:=by simp[jY]
theorem mY (hl:xs.length=us.length)(h:∀(i:Nat) x u,xs[i]?=some x->us[i]?=some u->aI x u):aL xs us:=by
 induction xs generalizing us with
 | nil=>cases us with
  | nil=>exact .nil
  | cons _ _=>simp at hl
 | cons x xs d=>cases us with
  | nil=>simp at hl
  | cons u us=>exact .cons (h 0 x u rfl rfl) (d (by simpa using hl) λi y v b c=>h (i+1) y v (by simpa using b) (by simpa using c))
theorem qT:cF X (.type "range") (λxs H Q=>∃j,xs=[.int j]/\∀p,H p=none->Q (.ref p) (upd H p (.Wv 0 j))):=by
 intro ac s d H xs us Q I r h;obtain⟨j,rfl,q⟩:=h;obtain⟨u,rfl,c⟩:=dc r;obtain⟨t,rfl⟩:=c;refine call_range_1 ⟨.ref s.heap.objs.size,_,I.laid (λb o e=>Qn _ e) (P1 _) ?_,rfl,q _ (I.PQ.fresh (P1 _))⟩;exact⟨_,_,_,Rb _ rfl⟩
theorem kO (hc:X.calm=true):cF X (.type "list") (λxs H Q=>∃p lo hi,xs=[.ref p]/\H p=some (.Wv lo hi)/\-(2 ^ 62)<=lo/\lo<2 ^ 62/\-(2 ^ 62)<=hi/\hi<2 ^ 62/\(hi-lo).toNat<=2 ^ 24/\
  ∀l,H l=none->Q (.ref l) (upd H l (.lst (jY lo (hi-lo).toNat)))):=by
 intro ac s L H xs us Q I r h;obtain⟨p,lo,hi,rfl,G,w,E,g,m,f,q⟩:=h;obtain⟨u,rfl,n⟩:=dc r;cases n;obtain⟨t,u,v,e⟩:=I.PQ p _ G;refine call_list_range (I.ok.hd hc) e (small_one w E g m) (rangeSize_nat lo hi) f λh' J d C y A b=>?_;refine⟨.ref s.heap.objs.size,_,I.laid (o:=.lst (jY lo (hi-lo).toNat)) y (P1 _) ?_,rfl,q _ (I.PQ.fresh (P1 _))⟩;refine⟨by rw[jp];exact f,d.toList,C,mY (by rw[jp,RT,b.1]) λi x u c j=>?_,by simpa using A⟩;have D:d[i]?=some u:=by simpa using j
 obtain⟨t',rfl⟩:=b.2 i u D;have F:i<(hi-lo).toNat:=by
  have:=(Rh.mp c).1;rw[jp] at this;exact this
 have:x=V.int (lo+(i:Int)):=by
  simp[jY,F] at c;exact c.symm
 subst this;exact⟨t',by rw[Int.mul_one]⟩
noncomputable def dU (xs ys:List V):Bool:=xs.length==ys.length&&(xs.zip ys).all λp=>R6 p.1 p.2
theorem kZ (ns ms:List Int):dU (ns.map V.int) (ms.map V.int)=decide (ns=ms):=by
 unfold dU
 induction ns generalizing ms with
 | nil=>cases ms with
  | nil=>rfl
  | cons m ms=>simp
 | cons n ns d=>cases ms with
  | nil=>simp
  | cons m ms=>
   have:=d ms;simp only[Qx,QJ,QU,υ,Zk] at this ⊢;have e:(ns.length+1==ms.length+1)=(ns.length==ms.length):=by
    rw[Yg];simp
   rw[e];have c:R6 (V.int n) (V.int m)=(n==m):=rfl;rw[c]
   by_cases b:n=m
   .subst b;simp only[beq_self_eq_true,Bool.true_and];rw[this,Yg];simp
   .have:(n==m)=false:=by simpa using b
    rw[this];simp[b]
theorem Ae:∀(xs ys:List V) (k:Nat),xs.length=ys.length->(∀(i:Nat) x y,xs[i]?=some x->ys[i]?=some y->e (k+i)=R6 x y)->((List.range' k xs.length).all e)=(xs.zip ys).all λp=>R6 p.1 p.2
 | [],ys,k,_,_=>by simp
 | x::xs,[],k,h,_=>by simp at h
 | x::xs,y::ys,k,h,b=>by
  have j:=Ae xs ys (k+1) (by simpa using h) λi g d c f=>by
   have:=b (i+1) g d (by simpa using c) (by simpa using f);rw[show k+1+i=k+(i+1) by lia];exact this
  rw[QU,List.range'_succ,Zk,υ,Zk,j];have:=b 0 x y rfl rfl;rw[Ģ] at this;rw[this]
theorem Ck {xs ys:List V}(hn:n=xs.length)(hl:xs.length=ys.length)(he:∀(i:Nat) x y,xs[i]?=some x->ys[i]?=some y->e i=R6 x y):(Q3 n).all e=(xs.zip ys).all λp=>R6 p.1 p.2:=by
 subst hn;rw[List.range_eq_range'];exact Ae xs ys 0 hl λi x y b c=>by rw[ħ];exact he i x y b c
noncomputable def h9 (xs ys:List V)(j:Nat):Bool:=match xs[j]?,ys[j]? with
 | some x,some y=>R6 x y
 | _,_=>false
theorem ib (r1:aL xs us)(r2:aL ys vs)(f1:xs.all ce=true)(f2:ys.all ce=true):
  ∀j (h1:j<us.toArray.size) (h2:j<vs.toArray.size),VM A s us.toArray[j] vs.toArray[j] (h9 xs ys j):=by
 intro j h1 h2;have p:=r1.length;have o:=r2.length;have h:j<us.length:=by simpa using h1
 have f:j<vs.length:=by simpa using h2
 obtain⟨u,g,d⟩:=r1.get (i:=j) (x:=xs[j]'(by lia)) (by simp);obtain⟨v,b,e⟩:=r2.get (i:=j) (x:=ys[j]'(by lia)) (by simp);have n:us.toArray[j]=u:=by
  have:=(Rh.mp g).2;simpa using this
 have c:vs.toArray[j]=v:=by
  have:=(Rh.mp b).2;simpa using this
 have m:h9 xs ys j=R6 (xs[j]'(by lia)) (ys[j]'(by lia)):=by
  unfold h9;rw[Q5 (by lia),Q5 (by lia)]
 rw[n,c,m];exact zY d e (Ve.mp f1 _ (Xo _)) (Ve.mp f2 _ (Xo _))
theorem lf (hn:n=xs.length)(hl:xs.length=ys.length):(Q3 n).all (h9 xs ys)=dU xs ys:=by
 unfold dU;rw[Ck hn hl λi x y b c=>by unfold h9;rw[b,c]];simp[hl]
theorem pU (h:xs.length≠ys.length):dU xs ys=false:=by
 unfold dU;have:(xs.length==ys.length)=false:=by simpa using h
 rw[this,Ý]
def Gs (K:Po)(neg:Bool):R2:=λx y H Q=>∃a b xs ys,x=.ref a/\y=.ref b/\PX K H a xs/\PX K H b ys/\xs.all ce=true/\ys.all ce=true/\Q (.bl (if neg then !dU xs ys else dU xs ys)) H
theorem Gu (hu:X.A.units<Qv):QG X (R9 .Eq) (Gs X.K false):=by
 intro ac s E H x y v u Q I p g h;obtain⟨a,b,xs,ys,rfl,rfl,n,j,m,o,q⟩:=h;cases p;cases g;obtain⟨w,r1,d,_⟩:=I.list n;obtain⟨D,r2,f,_⟩:=I.list j;have C:=r1.length;have t:=r2.length
 by_cases c:xs.length=ys.length
 .refine SeqAt.eq_listAt (e:=h9 xs ys) d.isList f.isList (by simp;lia) hu (ib r1 r2 m o) ⟨.bl (dU xs ys),H,I,?_,q⟩;show _=UE _;rw[lf (by simp;lia) c]
 .refine SeqAt.eq_list_lengthsAt d.isList f.isList (by simp;lia) hu ⟨.bl (dU xs ys),H,I,?_,q⟩;show _=UE _;rw[pU c]
theorem oE (hu:X.A.units<Qv):QG X (R9 .NotEq) (Gs X.K true):=by
 intro ac s E H x y v u Q I p g h;obtain⟨a,b,xs,ys,rfl,rfl,n,j,m,o,q⟩:=h;cases p;cases g;obtain⟨w,r1,d,_⟩:=I.list n;obtain⟨D,r2,f,_⟩:=I.list j;have C:=r1.length;have t:=r2.length
 by_cases c:xs.length=ys.length
 .refine agw (e:=h9 xs ys) d.isList f.isList (by simp;lia) hu (ib r1 r2 m o) _ _ _ _ ⟨.bl (!dU xs ys),H,I,?_,q⟩;show _=UE _;rw[lf (by simp;lia) c]
 .refine afP d.isList f.isList (by simp;lia) hu _ _ _ _ ⟨.bl (!dU xs ys),H,I,?_,q⟩;show _=UE _;rw[pU c];rfl
def Md (K:Po):R2:=λx y H Q=>∃a b xs ys,x=.ref a/\y=.ref b/\PM K H a xs/\PM K H b ys/\xs.length=ys.length/\xs.all ce=true/\ys.all ce=true/\Q (.bl (dU xs ys)) H
theorem Gv (hu:X.A.units<Qv):QG X (R9 .Eq) (Md X.K):=by
 intro ac s E H x y v u Q I w d h;obtain⟨a,b,xs,ys,rfl,rfl,o,g,c,j,t,q⟩:=h;cases w;cases d;obtain⟨f,r1,m,_⟩:=I.tuple o;obtain⟨n,r2,p,_⟩:=I.tuple g;have D:=r1.length;have C:=r2.length;refine SeqAt.eq_tupleAt (e:=h9 xs ys) m p hu (ib r1 r2 j t) ⟨.bl (dU xs ys),H,I,?_,q⟩;show _=UE _;rw[lf (by simp;lia) c];have:(f.toArray.size==n.toArray.size)=true:=by simp;lia
 rw[this,Bool.and_true]
theorem Af:∀{xs:List V}{us:List G'},aL xs us->xs.all ce=true->us.countP (SW x)=xs.countP λy=>R6 y x
 | _,_,.nil,_=>rfl
 | y::xs,u::us,.cons r t,f=>by
  rw[Zk,Tv] at f;rw[List.countP_cons,List.countP_cons,oz r f.1,Af t f.2]
def Gw (K:Po):V->List V->Hp->VK->Prop:=λo vs H Q=>∃p xs x,o=.ref p/\vs=[x]/\PX K H p xs/\ce x=true/\xs.all ce=true/\Q (.int (xs.countP λy=>R6 y x)) H
theorem Cm:MtM X "list.count" (Gw X.K):=by
 intro ac s A H o vs v us Q I j g h;obtain⟨p,xs,x,rfl,rfl,w,t,fs,q⟩:=h;cases j;obtain⟨u,rfl,f⟩:=g.one;obtain⟨b,r,pl,hz⟩:=I.list w;obtain⟨⟨cls,dd,data,m⟩,c,d,n,hd⟩:=pl.isList;simp only at d hd;subst d hd;refine Â afZ ⟨_,c,rfl⟩ PySem.F.entry_list_count (PySem.F.args_list_count_2 _ _) (SeqAt.list_countAt p b.toArray n dd m u (SW x)) ⟨c,λy e=>fJ f t r fs y (by simpa using e),?_⟩;refine⟨.int (xs.countP λy=>R6 y x),H,I.tok _,⟨s.toks,?_⟩,q⟩;rw[show b.toArray.toList=b from rfl,Af r fs]
def Gx (K:Po):V->List V->Hp->VK->Prop:=λo vs H Q=>∃p xs x j,o=.ref p/\vs=[x]/\PX K H p xs/\ce x=true/\xs.all ce=true/\(∃y,xs[j]?=some y/\R6 y x=true)/\(∀(i:Nat) y,i<j->xs[i]?=some y->R6 y x=false)/\Q (.int (j:Int)) H
theorem Cn:MtM X "list.index" (Gx X.K):=by
 intro ac s S H o vs v us Q I L J h;obtain⟨p,xs,x,j,rfl,rfl,P,O,fs,⟨y,d,hit⟩,G,q⟩:=h;cases L;obtain⟨u,rfl,E⟩:=J.one;obtain⟨c,r,pl,hz⟩:=I.list P;obtain⟨⟨cls,dd,data,N⟩,e,f,n,hd⟩:=pl.isList;simp only at f hd;subst f hd;have R:=r.length;have T:j<xs.length:=(Rh.mp d).1;have b:j<c.toArray.size:=by simp;lia
 have at_:∀(i:Nat) (C:i<c.toArray.size) (z:V),xs[i]?=some z->SW x c.toArray[i]=R6 z x:=λi C z hz=>by
  obtain⟨w,M,t⟩:=r.get hz;have:c.toArray[i]=w:=by
   have:=(Rh.mp M).2;simpa using this
  rw[this];exact oz t (Ve.mp fs _ (Q6 hz))
 refine Â af0 ⟨_,e,rfl⟩ PySem.F.entry_list_index (PySem.F.args_list_index_2 _ _)
  (SeqAt.list_indexAt p c.toArray n dd N u (SW x) j b (by have:=hz;rw[QA] at this;lia) (by rw[at_ j b y d];exact hit) λm D A=>?_) ⟨e,λz hz=>fJ E O r fs z (by simpa using hz),?_⟩
 .have g:m<xs.length:=by lia
  rw[at_ m D _ (Q5 g)];exact G m _ A (Q5 g)
 .exact⟨.int (j:Int),H,I.tok _,⟨s.toks,rfl⟩,q⟩
theorem jZ {σ:St}{tk:Nat}(I:Inv X ac σ H s)(k:∀b u,b∉[s.heap.objs.size]->(s.heap.push o).get? b=some u->h'.get? b=some u):Inv X ac σ H { s with heap:=h',toks:=tk }:=by
 have d:Inv X ac σ H { s with heap:=s.heap.push o }:=I.kept (t':=s.toks) λb u e=>Qn _ e;obtain⟨f,m,_,g,h,c⟩:=I.aaw (b:=s.heap.objs.size) (P1 _) (I.PQ.fresh (P1 _));have z:=Inv.turned (s:={ s with heap:=s.heap.push o }) (h':=h') (t':=tk) (it:=s.heap.objs.size) d (λb u j e=>k b u (by simpa using j) e) f m g h c;exact z
theorem ue (hc:X.calm=true):cF X (.builtin "all") (λxs H Q=>∃(p:D') (bs:List Bool),xs=[.ref p]/\PX X.K H p (bs.map V.bl)/\Q (.bl (bs.all id)) H):=by
 intro ac s M H xs us Q I r h;obtain⟨p,bs,rfl,N,q⟩:=h;obtain⟨u,rfl,t⟩:=dc r;cases t;obtain⟨d,g,pl,hz⟩:=I.list N;have f:=g.length;rw[Qx] at f;have D:p≠s.heap.objs.size:=by
  obtain⟨o,J,_⟩:=pl.isList;exact Qw (Qf J)
 have tr:TruthOf X.prog X.w X.A.in1 (λi v=>d.toArray[i]?=some v) (λi=>(bs[i]?).getD false):=λi v F n O L G=>by
  have e:d[i]?=some v:=by simpa using L
  have b:i<bs.length:=by have:=(Rh.mp e).1;lia
  obtain⟨w,j,m⟩:=g.get (i:=i) (x:=V.bl bs[i]) (by simp[b]);rw[e] at j;cases j;cases m;refine UA ?_;have c:n ((bs[i]?).getD false) F:=G;rw[Q5 b] at c;exact c
 refine call_all_walk (ń pl.isList ⟨s.heap.objs.size,_,_,_,_,_,_,rfl,Walks.list (A:=X.A.in1) (show X.A.in1.handled=none from I.ok.hd hc) s.heap.objs.size p D d.toArray,⟨⟨_,Rb _ rfl,rfl,rfl⟩,pl.isList.at λo e=>Qn _ e⟩,tr,λh' y k=>?_⟩);have E:Inv X ac M H { s with heap:=h',toks:=y }:=jZ I k;refine⟨.bl (bs.all id),H,E,?_,q⟩;show _=UE _
 congr 1
 have:∀(l:List Bool),(Q3 l.length).all (λi=>(l[i]?).getD false)=l.all id:=λl=>by
  rw[Yg];simp only[Ve,R7,id];constructor
  .intro h x C;obtain⟨i,b,e⟩:=ų C;have:=h i b;rw[Q5 b,e] at this;exact this
  .intro h i b;rw[Q5 b];exact h _ (Xo _)
 rw[QI,<-f];exact this bs
theorem wx (hl:IsTup s.heap l vs.toArray)(hsz:vs.length<=PH)(h:Q vs { s with heap:=(s.heap.push (QB "list" #[] 0)).update s.heap.objs.size (Sr (·++vs.toArray)) }):Pq (Px prog w) A (collect (.ref l)) Q E s:=by
 obtain⟨o,d,g,n,hd⟩:=id hl;have c:(s.heap.push (QB "list" #[] 0)).get? l=some o:=Qn _ d;have b:(s.heap.push (QB "list" #[] 0)).get? s.heap.objs.size=some (QB "list" #[] 0):=Rb _ rfl;unfold collect;refine Pm (Ņ (VJ entry_proto_collect' ?_));show Pq _ _ (newList [] >>= λv=>again (.builtin "list.__iadd__" ⟨[v,.ref l],[]⟩)) _ _ s;refine Pm (Ã (Pu ⟨Š _ (by decide +kernel),VJ entry_list_iadd' ?_⟩));show Pq _ _ (afG (.ref s.heap.objs.size) (.ref l) (.ref s.heap.objs.size)) _ _ _;unfold afG;refine Pm (Zp (T:="tuple") ⟨o,c,g⟩ ?_);have e:(S7.List.listSameRef (.ref s.heap.objs.size) (.ref l)||TV "tuple"==TV "list"||TV "tuple"==TV "tuple")=true:=by
  rw[show(TV "tuple"==TV "tuple")=true from rfl,Bool.or_true]
 rw[PK e];refine Pm (Ä c hd (Pm (Ä b rfl ?_)));rw[Pr (by simp)];refine Pm (Ă b rfl ?_ (RA _) (by rw[Array.size_append,QI];simp;lia));refine Pu ?_;have f:=ā b (·++vs.toArray);refine Pm (wpAny_load f ?_);show Pq _ _ (pure ((#[]:Array G')++vs.toArray).toList) Q E _;rw[Array.empty_append,List.toList_toArray];exact Pu h
theorem yA (hl:IsTup s.heap l vs.toArray)(hI:U1 vs ns)(WE:vs.length<64)(h:∀(out:Array G') (Rr:List Int),U1 out.toList Rr->Rr.Perm ns->Rr.Pairwise (·<=·)->Q (.ref (s.heap.objs.size+1)) { s with heap:=sortedAll s.heap vs out }):
  Pq (Px prog w) A (call (.builtin "sorted") [.ref l]) Q E s:=by
 refine Ŝ kind_sorted plain_sorted entry_sorted (args_sorted1 _) ?_;have hz:((s.heap.push (QB "list" #[] 0)).update s.heap.objs.size (Sr (·++vs.toArray))).objs.size=s.heap.objs.size+1:=by rw[Ps.size_update,size_push']
 have b:(((s.heap.push (QB "list" #[] 0)).update s.heap.objs.size (Sr (·++vs.toArray))).push (QB "list" vs.toArray 0)).get? (s.heap.objs.size+1)=some (QB "list" vs.toArray 0):=by
  rw[<-hz];exact Rb _ rfl
 unfold S7.«sorted»;refine Pm (m:=checkCount "sorted" 1 1 _) (Pu (Pm (wx hl (by rw[QA];lia) (Pm (Ã ?_)))));show Pq _ _ _ _ _ { s with heap:=((s.heap.push (QB "list" #[] 0)).update s.heap.objs.size (Sr (·++vs.toArray))).push (QB "list" vs.toArray 0) };rw[hz];refine Pm (Sq (UU ō ⟨_,b,rfl⟩ ŋ (list_sort_tree b hI WE λout Rr c d e=>⟨_,rfl,Pu ⟨_,rfl,h out Rr c d e⟩⟩) (ŏ _)))
theorem uf:cF X (.builtin "sorted") (λxs H Q=>∃(p:D') (ns:List Int),xs=[.ref p]/\PM X.K H p (ns.map V.int)/\ns.length<64/\∀(l:D') (Rr:List Int),H l=none->Rr.Perm ns->Rr.Pairwise (·<=·)->Q (.ref l) (upd H l (.lst (Rr.map V.int)))):=by
 intro ac s A H xs us Q I r h;obtain⟨p,ns,rfl,x,y,q⟩:=h;obtain⟨u,rfl,n⟩:=dc r;cases n;obtain⟨t,d,pl,hz⟩:=I.tuple x;have j:=d.length;rw[Qx] at j;refine yA pl (yx d) (by lia) λout Rr v f g=>?_;obtain⟨e,m⟩:=sortedAll_at s.heap t out;have c:H (s.heap.objs.size+1)=none:=I.PQ.fresh (Zq _);have w:aL (Rr.map V.int) out.toList:=ja v;have hlen:Rr.length=ns.length:=f.length_eq;refine⟨.ref (s.heap.objs.size+1),_,I.laid (t':=s.toks) (o:=.lst (Rr.map V.int)) (λb o z=>sortedAll_old z) (Zq _) ⟨by rw[Qx,QA];lia,out.toList,e,w,by simpa [QB] using m⟩,rfl,q _ Rr c f g⟩
theorem Co:QG X (binaryOp .Add) (λx y H Q=>∃a b ys,x=.ref a/\y=.ref b/\PM X.K H a []/\PM X.K H b ys/\Q (.ref b) H):=by
 intro ac s J H x y v u Q I F m h;obtain⟨a,b,ys,rfl,rfl,A,o,q⟩:=h;cases F;cases m;obtain⟨G,r1,p,_⟩:=I.tuple A;obtain⟨t,r2,E,_⟩:=I.tuple o;cases r1;obtain⟨⟨cls,dd,data,C⟩,f,g,n,hd⟩:=id p;obtain⟨⟨D,c,data2,d⟩,j,e,w,hd2⟩:=id E;simp only at g hd e hd2;subst g hd e hd2;exact concat_meets ⟨_,f,rfl⟩ ⟨_,j,rfl⟩ ļ Ľ Ŧ Ť (ţ _ _)
  (tuple_addW0 a b #[] t.toArray n w dd c C d rfl) ⟨f,j,⟨.ref b,H,I,rfl,q⟩⟩
def PF (X:Cx)(e:PZ)(P:St->Hp->Prop)(k:Nat):Prop:=
 ∀(ac:List (D'×J')) (s:N') (σ:St) (H:Hp) (Q:G'->N'->Prop),Inv X ac σ H s->P σ H->(∀y t s',Inv X ac σ H s'->y.length<=k->Q (.str y t) s')->Pq (Px X.prog X.w) X.A (eval e X.env) Q X.xe s
def PJ (X:Cx)(es:List PZ)(P:St->Hp->Prop)(n:Nat):Prop:=
 ∀(ac:List (D'×J')) (s:N') (σ:St) (H:Hp) (acc:M') (Q:M'->N'->Prop),Inv X ac σ H s->P σ H->acc.length+n<=PH->(∀out s',Inv X ac σ H s'->out.length<=acc.length+n->Q out s')->
  Joins (Px X.prog X.w) X.A X.xe (evalEach es X.env) acc Q s
theorem jG:PJ X [] (λ_ _=>True) 0:=λac s b H acc Q I _ _ h=>h acc s I (P1 _)
theorem bM (h1:PF X e P k)(h2:PJ X es R n)(he:evalEach (e::es) X.env=eval e X.env::evalEach es X.env:=by rfl):PJ X (e::es) (λσ H=>P σ H/\R σ H) (k+n):=by
 intro ac s σ H acc Q I b hz f;rw[he];refine h1 ac s σ H _ I b.1 λy t s1 d h=>?_;have g:(acc++y).length=acc.length+y.length:=Ŀ acc y;refine⟨y,t,rfl,by lia,?_⟩;exact h2 ac s1 σ H _ _ d b.2 (by lia) λout s2 c j=>f out s2 c (by lia)
theorem iz (h:PJ X (TY::TZ::rest) P n)(hn:n<=PH):PE X (.JoinedStr (TY::TZ::rest) pos) (λσ H Q=>P σ H/\∀x,Q (.str x) H):=by
 intro ac s σ H Q I b;have hz:Str.empty.length=0:=rfl;refine wpAny_JoinedStr (h ac s σ H _ _ I b.1 (by lia) λout d c e=>⟨by lia,?_⟩);exact⟨.str out,H,c.tok _,⟨_,rfl⟩,b.2 out⟩
theorem eG {j pos}(h:x.length<=k):PF X (.Constant (.str x) j pos) (λ_ _=>True) k:=λac s c H Q I _ b=>agv (b x _ _ (I.tok _) h)
def isI (te:TE):St->Hp->Prop:=λσ H=>te σ H λv H'=>H'=H/\∃i:Int,v=.int i/\i.natAbs.log2<1900
def isT (K:Po)(te:TE):St->Hp->Prop:=λσ H=>te σ H λv H'=>H'=H/\∃(a:D') (ns:List Int),v=.ref a/\PM K H a (ns.map V.int)/\ns.length<=64/\∀i∈ns,i.natAbs.log2<1900
theorem pV {i:Int}(h:i.natAbs.log2<1900):(Vi (toString i)).length<=1901:=by
 rw[PySem.ofString_length];exact int_text_length_le (by decide) h
theorem lg (h:PE X e te):PF X (.FormattedValue e (-1) none pos) (isI te) 1901:=by
 intro ac s j H Q I m g;refine wpAny_FormattedValue_plain (PY (h ac s j H _ I m) λu s1 d=>?_);obtain⟨v,n,f,r,b,i,ev,c⟩:=d;subst b ev;obtain⟨t,rfl⟩:=r;exact wpAny_formatField_int (by lia) (g _ _ _ (f.tok _) (pV c))
theorem EU (h:PE X e te):PF X (.FormattedValue e 114 none pos) (isI te) 1901:=by
 intro ac s m H Q I n d;refine ON (PY (h ac s m H _ I n) λu s1 j=>?_);obtain⟨v,o,c,r,f,i,ev,g⟩:=j;subst f ev;obtain⟨t,rfl⟩:=r;have b:=pV g;have hz:(Vi (toString i)).length<=PH:=by rw[QA];lia
 refine wpAny_pyReprObj_gives (û _ i t) F.slot_int_repr F.entry_int_repr (F.args_int_repr_1 _) (gives_int_repr i t (by lia)) ?_ rfl hz;exact wpAny_formatField_str (d _ _ _ (c.tok _) b) (d _ _ _ ((c.tok _).tok _) b) hz
theorem Gy (h:∀t∈ts,t.length<=m):(tupleText ts).length<=ts.length*(m+2)+4:=by
 have d:∀l:List M',(∀t∈l,t.length<=m)->piled l<=l.length*(m+2):=λl=>by
  induction l with
  | nil=>intro _;simp[piled]
  | cons t r ih=>
   intro b;have:=ih λu c=>b u (Qr _ c);have f:=b t Qa;rw[piled_cons,QU,oF];lia
 have j:(M'.join ", " ts).length<=piled ts:=by
  cases ts with
  | nil=>exact P1 _
  | cons t r=>have:=join_length_add (t::r) (by simp);lia
 unfold tupleText;rw[Ŀ,Ŀ];have g:(("(":String):M').length=1:=rfl;have e:((if ts.length==1 then ",)" else ")":String):M').length<=2:=by
  split
  .exact Zo rfl
  .exact Nat.le_succ_of_le (Zo rfl)
 have:=d ts h;have n:(Vi "(").length=1:=rfl;lia
theorem pW (hr:Pn k X.A)(h:PE X e te):PF X (.FormattedValue e 114 none pos) (isT X.K te) 200000:=by
 intro ac s y H Q I U x;refine ON (PY (h ac s y H _ I U) λu s1 R=>?_);obtain⟨v,S,p,r,E,a,ns,ev,d,F,g⟩:=R;subst E ev;cases r;obtain⟨J,M,pl,hz⟩:=p.tuple d;obtain⟨o,O,P,n,hd⟩:=pl;have L:∀(ns:List Int) (us:List G'),(∀i∈ns,i.natAbs.log2<1900)->aL (ns.map V.int) us->ReprAllK X.prog X.w [] s1.heap 0 us (ns.map λi=>Vi (toString i)):=by
  intro ns
  induction ns with
  | nil=>intro us _ c;cases c;exact .nil
  | cons i ns ih=>
   intro us C c;cases c with
   | cons r1 r2=>
    obtain⟨t,rfl⟩:=r1;exact .cons (ReprK.of_is (ReprIs.int t (by have:=C i Qa;lia)) _ _ _) (ih _ (λj T=>C j (Qr _ T)) r2)
 have hlen:(tupleText (ns.map λi=>Vi (toString i))).length<=200000:=by
  have:=Gy (ts:=ns.map λi=>Vi (toString i)) (m:=1901) λt d=>by
   obtain⟨i,D,rfl⟩:=Qs.mp d;exact pV (g i D)
  rw[Qx] at this;have Y:ns.length*(1901+2)<=64*1903:=ο _ F;lia
 have W:=hr.units;refine wpAny_pyReprObj_tupleK O P hd (by simp) (L ns J g M) hr.gd (λb _=>Clear.nil b) (by lia) (λb o z=>z) (λh' u G N=>?_) (by rw[QA];lia);have f:Inv X ac y S { s1 with heap:=h',toks:=G }:=p.kept N;exact wpAny_formatField_str (x _ _ _ f hlen) (x _ _ _ (f.tok _) hlen) (by rw[QA];lia)
noncomputable def lh (a:D')(cls:G'):HO:=.ext λh=>∃oe vs,h.get? a=some oe/\oe.cls=cls/\oe.data=.fields vs
theorem EV (x:Trc h a cls T):bt P w H h a (lh a cls):=by
 obtain⟨_,b,vs,_,_,c,d,j,_⟩:=x;exact⟨⟨b,vs,c,d.1,j⟩,⟨b,c⟩,λn p ⟨o,m,e,f,g⟩ k=>⟨o,m,k _ e,f,g⟩⟩
variable {X:Cx}{ac:List (D'×J')}{σ:St}{H:Hp}{s:N'}{h':Ps} in
theorem Inv.aeY {g':Array À}{t':Nat}{d':Drawn}{ch:List D'}(I:Inv X ac σ H s)(Sx:∀b∈ch,X.QY.heap.get? b=none/\b≠X.env.locals/\(∀x c,X.env.cells.lookup x=some c->c≠b)/\∀p∈X.pn++ac,p.1≠b)(keep:∀b o,b∉QS X.stack->b∉ch->s.heap.get? b=some o->h'.get? b=some o)(slot:∀b o,b∈QS X.stack->s.heap.get? b=some o->∃sl,h'.get? b=some { o with slots:=sl })(hex:X.ex=[])(V0:X.stack=X.env::X.outer)(aby:∀b∈ch,H b=none)(hg:VO g'):
  Inv X ac σ H { s with heap:=h',gens:=g',drawn:=d',toks:=t' }:=by
 have M:∀b,b∉X.ex:=λb z=>by rw[hex] at z;exact Py z (by simp)
 have y:∀b o,X.QY.heap.get? b=some o->b∉X.fs->b∉QS X.stack:=λb o g nb z=>by
  rcases Qe.mp (I.Vl b z) with r|r
  .exact Py (Rs (Qf g) I.ok.above) (by rw[r];exact Wh _)
  .exact nb r
 have A:∀b o,X.QY.heap.get? b=some o->b∉ch:=λb o g z=>by rw[(Sx b z).1] at g;cases g
 have ns:∀m,s.heap.Ns X.env.locals m->h'.Ns X.env.locals m:=λm F=>by
  obtain⟨o,es,ep,t,r⟩:=F
  by_cases f:X.env.locals∈QS X.stack
  .obtain⟨sl,e⟩:=slot _ o f t;exact⟨_,es,ep,e,r⟩
  .exact⟨o,es,ep,keep _ o f (λz=>(Sx _ z).2.1 rfl) t,r⟩
 have cellK:∀x c,X.env.cells.lookup x=some c->∀v,s.heap.IsCell c v->h'.IsCell c v:=λx c e v ⟨o,t,hd⟩=>by
  by_cases f:c∈QS X.stack
  .obtain⟨sl,q⟩:=slot c o f t;exact⟨_,q,hd⟩
  .exact⟨o,keep c o f (λz=>(Sx c z).2.2.1 x c e rfl) t,hd⟩
 refine⟨I.ok,I.os,hg,⟨λb o e n f h=>?_,λb o e n f h=>?_,λb o e n h=>I.base.free b o e n h,λb o e h=>?_,I.base.RC,I.base.Um,I.base.Uo⟩,?_,λx c e=>?_,I.free,I.Tx,λp D=>?_,λa o e=>?_,I.len⟩
 .exact keep b o (y b o e f) (A b o e) (I.base.keep b o e n f h)
 .obtain⟨sl,g⟩:=I.base.slot b o e n f h;obtain⟨L,j⟩:=slot b _ (D7 V0 f) g;exact⟨L,j⟩
 .obtain⟨w,g⟩:=I.base.there b o e h
  by_cases f:b∈QS X.stack
  .obtain⟨sl,j⟩:=slot b w f g;exact⟨_,j⟩
  .exact⟨w,keep b w f (A b o e) g⟩
 .obtain⟨m,G,E⟩:=I.loc;refine⟨m,ns m G,λi x v g j J=>?_⟩;obtain⟨u,r,l⟩:=E i x v g j J;refine⟨u,r,?_⟩;rcases l with l|⟨k,c,e,z⟩
  .exact .inl l
  .exact .inr ⟨k,c,e,cellK x c e _ z⟩
 .obtain⟨v,z⟩:=I.cell x c e;exact⟨v,cellK x c e v z⟩
 .obtain⟨e,n,ne,C,d⟩:=I.pin p D;refine⟨keep p.1 p.2 (λz=>?_) (λz=>(Sx p.1 z).2.2.2 p D rfl) e,n,ne,C,d⟩;rcases Qe.mp (I.Vl _ z) with r|r
  .exact ne r
  .exact C r
 .refine(I.PQ a o e).Vn (λb u f q=>keep b u (λz=>?_) (λz=>?_) q) (λ_ z=>z) λ_ _ z=>z
  .have n:=I.abk b z;rcases f with r|r
   .rw[r,e] at n;cases n
   .rw[r] at n;cases n
  .have n:=aby b z;rcases f with r|r
   .rw[r,e] at n;cases n
   .rw[r] at n;cases n
theorem Inv.agS {σ:St}(I:Inv X ac σ H s)(hD:H D=none)(h0:X.QY.heap.get? D=none)(hL:D≠X.env.locals)(hc:∀x c,X.env.cells.lookup x=some c->c≠D)(hp:∀p∈X.pn++ac,p.1≠D)(PQ:bt X.prog X.w (upd H D o) s.heap D o):Inv X ac σ (upd H D o) s:=by
 have ne:∀b u,H b=some u->b≠D:=λb u e z=>by rw[z,hD] at e;cases e
 have h:∀b ob,X.QY.heap.get? b=some ob->b≠D:=λb ob e z=>by rw[z,h0] at e;cases e
 refine⟨I.ok,I.os,I.bare,⟨I.base.keep,I.base.slot,λb ob e n g=>by rw[al (h b ob e)];exact I.base.free b ob e n g,I.base.there,λb xs e=>?_,λb ob u e=>?_,λb ps e=>?_⟩,I.loc,I.cell,by rw[al (QC hL)];exact I.free,
  λx c e=>by rw[al (hc x c e)];exact I.Tx x c e,λp d=>?_,λa u e=>?_,I.len⟩
 .have q:=I.base.RC b xs e;rw[al (ne b _ q)];exact q
 .have q:=I.base.Um b ob u e;rw[al (ne b _ q)];exact q
 .obtain⟨m,q⟩:=I.base.Uo b ps e;exact⟨m,by rw[al (ne b _ q)];exact q⟩
 .obtain⟨e,n,r⟩:=I.pin p d;exact⟨e,by rw[al (hp p d)];exact n,r⟩
 .by_cases f:a=D
  .subst f;rw[ak] at e;cases e;exact PQ
  .rw[al f] at e;exact(I.PQ a u e).Vn (λb v _ q=>q) (λb q=>by rw[al (ne b _ q)];exact q) λb xs q=>by rw[al (ne b _ q)];exact q
theorem Inv.forget {σ:St}{t':Nat}(I:Inv X ac σ H s)(hN:X.N.Nodup)(hi:X.N[i]?=some x)(hl:∀(i:Nat) (x:M') (v:V),X.N[i]?=some x->σ[i]?=some (some v)->Vis X.env.scope x->∃u,aI v u/\Gd X.env s.heap m x u)(hn':h'.Ns X.env.locals (λy=>if y=x then v else m y))(hs:UX X.env.locals s.heap h'):Inv X ac (σ.set i none) H { s with heap:=h',toks:=t' }:=by
 have w:i<σ.length:=by rw[I.len];exact(Rh.mp hi).1
 have f:∀b o,X.QY.heap.get? b=some o->b≠X.env.locals:=λb o e=>Qw (Rs (Qf e) I.ok.above);refine⟨I.ok,I.os,I.bare,⟨λb o e n A h=>(hs.2 b (f b o e)).trans (I.base.keep b o e n A h),λb o e n A h=>?_,I.base.free,λb o e h=>?_,I.base.RC,I.base.Um,I.base.Uo⟩,⟨_,hn',λj y P g t M=>?_⟩,λy c e=>?_,I.free,I.Tx,λp Q=>?_,λa o e=>?_,by simpa using I.len⟩
 .obtain⟨O,g⟩:=I.base.slot b o e n A h;exact⟨O,(hs.2 b (f b o e)).trans g⟩
 .obtain⟨G,g⟩:=I.base.there b o e h;exact⟨G,(hs.2 b (f b o e)).trans g⟩
 .by_cases C:j=i
  .subst C;rw[ű w] at t;cases t
  .rw[Ű (QC C)] at t;obtain⟨J,F,q⟩:=hl j y P g t M;refine⟨J,F,?_⟩;rcases q with⟨k,e⟩|⟨k,c,e,z⟩
   .refine .inl ⟨k,?_⟩;have:y≠x:=λe=>C (ny hN g (e▸hi));simp[this,e]
   .exact .inr ⟨k,c,e,z.sameBut hs (I.VW y c e)⟩
 .obtain⟨D,z⟩:=I.cell y c e;exact⟨D,z.sameBut hs (I.VW y c e)⟩
 .obtain⟨e,n,ne,L,d⟩:=I.pin p Q;exact⟨(hs.2 p.1 ne).trans e,n,ne,L,d⟩
 .refine(I.PQ a o e).Vn (λc D hc q=>(hs.2 c ?_).trans q) (λ_ q=>q) λ_ _ q=>q;rintro rfl;have E:=I.free;rcases hc with z|hc
  .rw[<-z] at e;rw[E] at e;cases e
  .rw[E] at hc;cases hc
noncomputable abbrev Cx.SX (X:Cx)(A':P7)(c:Bool)(Us:List (D'×J'))(U6:G'->N'->Prop):Cx:={ X with A:=A',calm:=c,pn:=Us,xe:=U6 }
theorem Inv.SX {σ:St}(I:Inv X ac σ H s)(hf:A'.frames=X.A.frames)(hh:c=true->A'.handled=none)(hp:∀p∈Us++Wr,p∈X.pn++ac):
  Inv (X.SX A' c Us U6) Wr σ H s:=
 ⟨⟨I.ok.mod,I.ok.kind,I.ok.glob,I.ok.blt,I.ok.above,I.ok.inj,I.ok.has,I.ok.XF,hh,hf.trans I.ok.frames,I.ok.ZB,I.ok.exf,I.ok.bs,I.ok.Vt,I.ok.Up,I.ok.Zw,I.ok.Tk,I.ok.Vu⟩,
  I.os,I.bare,I.base,I.loc,I.cell,I.free,I.Tx,λp h=>I.pin p (hp p h),I.PQ,I.len⟩
theorem Inv.out {σ:St}(I:Inv (X.SX A' c Us U6) Wr σ H s)(hf:X.A.frames=some X.stack)(hh:X.calm=true->X.A.handled=none)(hp:∀p∈X.pn++ac,p∈Us++Wr):
  Inv X ac σ H s:=
 ⟨⟨I.ok.mod,I.ok.kind,I.ok.glob,I.ok.blt,I.ok.above,I.ok.inj,I.ok.has,I.ok.XF,hh,hf,I.ok.ZB,I.ok.exf,I.ok.bs,I.ok.Vt,I.ok.Up,I.ok.Zw,I.ok.Tk,I.ok.Vu⟩,
  I.os,I.bare,I.base,I.loc,I.cell,I.free,I.Tx,λp h=>I.pin p (hp p h),I.PQ,I.len⟩
theorem qU {K:Po}(I:K.In h)(hc:SQ K C=true):W.Looks M h (isType (.ref C)) true:=by
 unfold SQ W.clsIn at hc
 split at hc
 .rename_i d d' b e c;intro A Q E s k q;unfold isType loadHead;exact Pm (wpAny_loadPart (k _ _ (I _ _ c)) (Pu q))
 .cases hc
theorem yB {K:Po}(I:K.In s.heap)(he:s.heap.get? e=some oe)(hc:oe.cls=.ref C)(hnt:W.instIn K (.ref CN) (.type "tuple")=some false)(hxc:QF K CN (.type "BaseException")=some true)(Sy:SQ K CN=true)(hm:QF K C (.ref CN)=some true)(hq:Q true s):
  Pq M A (excMatches (.ref e) (.ref CN)) Q E s:=by
 have h:=W.looks_instIn (M:=M) I hnt;have c:=Ĳ (M:=M) I hxc;have f:=Ĳ (M:=M) I hm;have b:W.Looks M s.heap (isType (.ref CN)) true:=qU I Sy;have j:W.Looks M s.heap (isExcClass (.ref CN)) true:=b.andThen (by simpa using c);have m:W.Looks M s.heap (typeOf (.ref e)) (.ref C):=hc▸(IF he).andThen .now;obtain⟨n,g,d,o,os⟩:=s;unfold excMatches;refine Pm (h.at ?_);simp only[Q7,if_false,pure_bind,Ŭ,List.forIn_nil,bind_assoc];refine Pm (j.at ?_);simp only[Ui,Q7,if_false,pure_bind];refine Pm (m.at ?_);refine Pm (f.at ?_);simp only[if_true,pure_bind];exact Pu hq
def Me (K:Po)(CN:D')(tb:(St->XK)->TS)(ie:Nat)(ts:TS):TS:=λD σ H=>
 tb (λQl cls _ H'=>∃C,cls=.ref C/\QF K C (.ref CN)=some true/\∀e,H' e=none->ts { nx:=λTm H2=>D.nx (Tm.set ie none) H2,rt:=λ_ _=>False } (Ql.set ie (some (.ref e))) (upd H' e (lh e (.ref C)))) D σ H
theorem Gz (hc:X.calm=true)(hex:X.ex=[])(V0:X.stack=X.env::X.outer)(hfr:X.env.frame=some X.env.locals)(hg:Gl X x)(hm:X.mg x=some (.ref CN))(hnt:W.instIn X.K (.ref CN) (.type "tuple")=some false)(hxc:QF X.K CN (.type "BaseException")=some true)(Sy:SQ X.K CN=true)(hN:X.N.Nodup)(hi:X.N[ie]?=some nm)(hl:X.env.scope.names.lookup nm=some .local)(hb:∀(Us:List (D'×J')) (U6:G'->N'->Prop) (E:St->XK),dS (QP X.prog X.w) (X.SX X.A X.calm Us U6) E->SC (X.SX X.A X.calm Us U6) body (tb E))(hs:∀(A':P7) (Us:List (D'×J')) (U6:G'->N'->Prop),SC (X.SX A' false Us U6) (aaz::aau) ts)(hd:(x==("__debug__":M'))=false:=by decide):
  PS X (.Try body [.ExceptHandler (some (.Name x np)) (some nm) (aaz::aau) Vs] [] [] pos) (Me X.K CN tb ie ts):=by
 intro ac s σ H D I h;refine wpAny_Try_except ?_;have pass:dS (QP X.prog X.w) (X.SX X.A X.calm (X.pn++ac) (λe P8=>Pq (Px X.prog X.w) X.A (noteFrame e X.env) (λ_ Qy=>Pq (Px X.prog X.w) X.A (setFlight e none) (λ_ XC=>
   Pq (Px X.prog X.w) X.A (handleBy e X.env [.ExceptHandler (some (.Name x np)) (some nm) (aaz::aau) Vs]) (SP X ac D) X.xe XC) X.xe Qy) X.xe P8))
   (λP cls _ H'=>∃C,cls=.ref C/\QF X.K C (.ref CN)=some true/\∀e,H' e=none->ts { nx:=λTm H2=>D.nx (Tm.set ie none) H2,rt:=λ_ _=>False } (P.set ie (some (.ref e))) (upd H' e (lh e (.ref C)))):=by
  intro Wr P H' s' e g I' hx;obtain⟨d,cls,S,rfl,ho,hgn,un,PQ,fl,C,rfl,afc,q⟩:=hx;have Ic:=I'.acR (ch:=[]) ho un PQ hgn (λb z=>Py z (by simp));have Y:Inv X ac P S g:=Ic.out (ac:=ac) I.ok.frames I.ok.hd λp t=>Ue _ t;obtain⟨T,ZH,hT0,hTH⟩:=fl.tr;have old:∀b,s'.heap.get? b=none->X.QY.heap.get? b=none:=λb j=>by
   cases M:X.QY.heap.get? b with
   | none=>rfl
   | some o=>
    obtain⟨o',n⟩:=I'.base.there b o M (by intro z;rw[show(X.SX X.A X.calm (X.pn++ac) _).ex=X.ex from rfl,hex] at z;exact Py z (by simp));rw[j] at n;cases n
  have apart:∀b,s'.heap.get? b=none->X.QY.heap.get? b=none/\b≠X.env.locals/\(∀y c,X.env.cells.lookup y=some c->c≠b)/\∀p∈X.pn++ac,p.1≠b:=λb j=>by
   refine⟨old b j,?_,λy c hy z=>?_,λp t z=>?_⟩
   .rintro rfl;obtain⟨m,⟨o,_,_,n,_⟩,_⟩:=I'.loc;have e3:s'.heap.get? X.env.locals=some o:=n;rw[j] at e3;cases e3
   .obtain⟨v,o,n,_⟩:=I'.cell y c hy;rw[z,j] at n;cases n
   .have n:=(I'.pin p (Ue _ t)).1;rw[z,j] at n;cases n
  have Sx:∀b∈[d,T],X.QY.heap.get? b=none/\b≠X.env.locals/\(∀y c,X.env.cells.lookup y=some c->c≠b)/\∀p∈X.pn++ac,p.1≠b:=λb j=>by
   rcases Qe.mp j with z|z
   .rw[z];exact apart d fl.new
   .rw[Ri.mp z];exact apart T hT0
  have aby:∀b∈[d,T],S b=none:=λb j=>by
   rcases Qe.mp j with z|z
   .rw[z];exact fl.free
   .rw[Ri.mp z];exact hTH
  have hB:∀b∈[d,T],(Yl g.heap (QS X.stack++[d,T])).get? b=none:=λb j=>İ _ (Sc _ j);have VX:(Yl g.heap (QS X.stack++[d,T])).StaysIn g.heap:=λb o z=>ð _ z;have hff:g.heap.FunFrames (Yl g.heap (QS X.stack++[d,T])) X.stack:=Do Y.stack λenv he a ha=>Ue _ (Ug.mpr ⟨env,he,ha⟩);obtain⟨a0,tw⟩:=ZH.aeT (hB T (by simp));show Pq (Px X.prog X.w) X.A (noteFrame (.ref d) X.env) _ X.xe g;refine wpAny_noteFrame_onW (outer:=X.outer) (L:=X.env.locals) (V0▸I.ok.frames) (V0▸hff) hfr tw VX (hB d (by simp)) λh4 hN4=>?_;obtain⟨n1,n2,n3,n4⟩:=hN4;refine wpAny_setFlight_noneW n1 n2 n3 λh5 m1 m2 m3 m4=>?_;have kp5:∀b o,b∉QS X.stack->b∉[d,T]->g.heap.get? b=some o->h5.get? b=some o:=λb o z1 z2 M=>m1 b o (Zj _ M λm=>(QW.mp m).elim z1 z2);have sl5:∀b o,b∈QS X.stack->g.heap.get? b=some o->∃U,h5.get? b=some { o with slots:=U }:=λb o j M=>by
   obtain⟨o',n,nd⟩:=yy Y j;rw[M] at n;cases n;obtain⟨U,e3⟩:=n4 b o M nd;exact⟨U,m4 b _ e3 nd⟩
  have I5:Inv X ac P S { g with heap:=h5 }:=Y.aeY (g':=g.gens) (d':=g.drawn) (t':=g.toks) Sx kp5 sl5 hex V0 aby Y.bare;have hfm:(X.A.mark (some (.ref d))).frames=X.A.frames:=rfl;refine wpAny_handleBy_cons (codeAny_handlers_test ?_) (by intro q;cases q);have J5:Inv (X.SX (X.A.mark (some (.ref d))) false (X.pn++ac) (notedBy (Px X.prog X.w) (X.A.mark (some (.ref d))) X.env (cameBackBy (Px X.prog X.w) X.A X.env X.xe))) [] P S { g with heap:=h5 }:=
   I5.SX hfm (λz=>by cases z) λp t=>by simpa using t
  refine iw J5 hg hm ?_ hd;obtain⟨T5,ahh,hT5⟩:=ua m3;obtain⟨_,oe,_,_,_,e5,c5,_⟩:=id ahh;refine yB I5.Re e5 c5.1 hnt hxc Sy afc ?_;refine codeAny_handlers_suite_as ?_;refine wpAny_setFlight_noneW m1 m2 m3 λh6 p1 p2 p3 p4=>?_;have kp6:∀b o,b∉QS X.stack->b∉[d,T]->g.heap.get? b=some o->h6.get? b=some o:=λb o z1 z2 M=>p1 b o (Zj _ M λm=>(QW.mp m).elim z1 z2);have sl6:∀b o,b∈QS X.stack->g.heap.get? b=some o->∃U,h6.get? b=some { o with slots:=U }:=λb o j M=>by
   obtain⟨o',n,nd⟩:=yy Y j;rw[M] at n;cases n;obtain⟨U,e3⟩:=sl5 b o j M;exact⟨U,p4 b _ e3 nd⟩
  have I6:Inv X ac P S { g with heap:=h6 }:=Y.aeY (g':=g.gens) (d':=g.drawn) (t':=g.toks) Sx kp6 sl6 hex V0 aby Y.bare;obtain⟨T6,ahi,_⟩:=ua p3;have I7:Inv X ac P (upd S d (lh d (.ref C))) { g with heap:=h6 }:=
   I6.agS fl.free (Sx d (by simp)).1 (Sx d (by simp)).2.1 (Sx d (by simp)).2.2.1 (Sx d (by simp)).2.2.2 (EV ahi)
  have J7:Inv (X.SX (X.A.mark (some (.ref d))) false (X.pn++ac) (λ_ _=>False)) [] P (upd S d (lh d (.ref C))) { g with heap:=h6 }:=
   I7.SX hfm (λz=>by cases z) λp t=>by simpa using t
  refine iI (X:=X.SX (X.A.mark (some (.ref d))) false (X.pn++ac) (λ_ _=>False)) (i:=ie) (v:=.ref d) J7 hN hi (.inl hl) rfl (λs8 J8=>?_) (.inr hl);refine ge (PY (hs _ _ _ [] s8 _ _ _ J8 (q d fl.free)) λf s9 q9=>?_);cases f with
  | next=>
   obtain⟨F,H9,J9,Z⟩:=q9;have J9':Inv X ac F H9 s9:=J9.out (ac:=ac) I.ok.frames I.ok.hd λp t=>by simpa using t
   obtain⟨m9,hn9,hl9⟩:=id J9'.loc;refine wpAny_nameGoes_keeps hl hn9 (by rw[I.ok.kind];rfl) λXO v ahj Yu=>?_;exact⟨F.set ie none,H9,J9'.forget hN hi hl9 ahj Yu,Z⟩
  | ret u=>obtain⟨v,F,H9,J9,r9,Z⟩:=q9;exact Z.elim
  | brk=>obtain⟨F,H9,J9,Z⟩:=q9;exact Z.elim
  | cont=>obtain⟨F,H9,J9,Z⟩:=q9;exact Z.elim
 have Ib:Inv (X.SX X.A X.calm (X.pn++ac) (λe P8=>Pq (Px X.prog X.w) X.A (noteFrame e X.env) (λ_ Qy=>Pq (Px X.prog X.w) X.A (setFlight e none) (λ_ XC=>
   Pq (Px X.prog X.w) X.A (handleBy e X.env [.ExceptHandler (some (.Name x np)) (some nm) (aaz::aau) Vs]) (SP X ac D) X.xe XC) X.xe Qy) X.xe P8)) [] σ H s:=I.SX rfl I.ok.hd λp t=>by simpa using t
 refine PY (hb _ _ _ pass [] s σ H D Ib h) λf s1 q1=>?_;have bk:∀{O:St}{G:Hp},Inv (X.SX X.A X.calm (X.pn++ac) (λe P8=>Pq (Px X.prog X.w) X.A (noteFrame e X.env) (λ_ Qy=>Pq (Px X.prog X.w) X.A (setFlight e none) (λ_ XC=>
   Pq (Px X.prog X.w) X.A (handleBy e X.env [.ExceptHandler (some (.Name x np)) (some nm) (aaz::aau) Vs]) (SP X ac D) X.xe XC) X.xe Qy) X.xe P8)) [] O G s1->Inv X ac O G s1:=λ{O G} J=>J.out (ac:=ac) I.ok.frames I.ok.hd λp t=>by simpa using t
 cases f with
 | next=>obtain⟨O,G,Q,R⟩:=q1;exact ý ⟨O,G,bk Q,R⟩
 | ret u=>obtain⟨v,O,G,Q,r1,R⟩:=q1;exact⟨v,O,G,bk Q,r1,R⟩
 | brk=>obtain⟨O,G,Q,R⟩:=q1;exact⟨O,G,bk Q,R⟩
 | cont=>obtain⟨O,G,Q,R⟩:=q1;exact⟨O,G,bk Q,R⟩
structure XD (K)(C):Prop where
 cl:SQ K C=true
 ga:RY K (.ref C) "__getattribute__"=some (some (.builtin "BaseException.__getattribute__"))
 gt:RY K (.ref C) "__getattr__"=some none
 cls:RY K (.ref C) "__class__"=some (some (.builtin "object.__class__"))
 ob:QF K C (.type "object")=some true
 be:QF K C (.type "BaseException")=some true
theorem yC {prog:PU}{w:Pz}{A:P7}{K:Po}{h:Ps}{g:Array À}{d:Drawn}{t:Nat}{os:RM}{a:D'}{C:D'}{o:J'}{R:Result->N'->Prop}(X:K.In h)(F0:XD K C)(hx:h.get? a=some o)(hc:o.cls=.ref C)(hq:R (.ok (.ret (.ref C))) ⟨h,g,d,t,os⟩):
  codeAny (Px prog w) A (.call (.builtin "getset_descriptor.__get__") ⟨[.builtin "object.__class__",.ref a,.ref C],[]⟩) R ⟨h,g,d,t,os⟩:=by
 have b:(⟨h,g,d,t,os⟩:N').TypeIs (.builtin "object.__class__") "getset_descriptor":=Ţ;have e:=Ĳ (M:=Px prog w) X F0.ob;have c:(".".intercalate ("object.__class__".cutAt '.').dropLast)="object":=F.owner_object_class;refine ĺ š.plain F.entry_gs_get (š.check _ _ _ _ _ _ _ _ b (F.args_gs_get _ _ _) ?_)
 repeat (any_goals (first|assumption|(with_reducible refine Õ hx ?_;rw[hc])|(rw[c];refine e.at ?_)|wp_step))
 refine⟨Š _ (by decide +kernel),VJ F.entry_object_class ?_⟩
 repeat (any_goals (first|assumption|(with_reducible refine Õ hx ?_;rw[hc])|wp_step))
theorem ug {prog:PU}{w:Pz}{A:P7}{E:G'->N'->Prop}{K:Po}{h:Ps}{g:Array À}{d:Drawn}{t:Nat}{os:RM}{a:D'}{C:D'}{o:J'}{tk:Sh}{Q:Fin->N'->Prop}(X:K.In h)(F0:XD K C)(hx:h.get? a=some o)(hc:o.cls=.ref C)(hq:Q (.done (.ret (.ref C))) ⟨h,g,d,t,os⟩):
  Pq (Px prog w) A (S7.«object.__getattribute__» ⟨[.ref a,.str "__class__" tk],[]⟩) Q E ⟨h,g,d,t,os⟩:=by
 have b:(⟨h,g,d,t,os⟩:N').TypeIs (.builtin "object.__class__") "getset_descriptor":=Ţ;have c:=ı (M:=Px prog w) X F0.cls;have e:=Ţ;have j:=š.lookup;have f:=F.slot_gs_set.lookup
 repeat (any_goals (first|assumption|(with_reducible refine Õ hx ?_;rw[hc])|(with_reducible refine c.at ?_)|wp_step))
 refine yC X F0 hx hc ?_
 repeat (any_goals (first|assumption|wp_step))
theorem uh {A:P7}{E:G'->N'->Prop}{K:Po}{h:Ps}{g:Array À}{d:Drawn}{t:Nat}{os:RM}{a:D'}{C:D'}{o:J'}{M:Xz}{aeZ:G'}{Q:Unit->N'->Prop}(X:K.In h)(F0:XD K C)(hx:h.get? a=some o)(hc:o.cls=.ref C)(hq:Q () ⟨h,g,d,t,os⟩):
  Pq M A (checkBuiltinCall "BaseException.__getattribute__" ⟨[.ref a,aeZ],[]⟩) Q E ⟨h,g,d,t,os⟩:=by
 have b:=Ĳ (M:=M) X F0.be;have f:builtinKind "BaseException.__getattribute__"=some .slot:=by decide +kernel
 have e:splitId "BaseException.__getattribute__"=some ("BaseException","__getattribute__"):=by decide +kernel
 have c:=F.args_bexc_ga (.ref a) aeZ;simp only[checkBuiltinCall,f,e];refine Pm ?_;unfold isInstance
 repeat (first|(with_reducible refine Õ hx ?_;rw[hc])|(with_reducible refine b.at ?_)|wp_step)
 exact hq
theorem Ag {prog:PU}{w:Pz}{A:P7}{E:G'->N'->Prop}{K:Po}{h:Ps}{g:Array À}{d:Drawn}{t:Nat}{os:RM}{a:D'}{C:D'}{o:J'}{tk:Sh}{Q:G'->N'->Prop}(X:K.In h)(F0:XD K C)(hx:h.get? a=some o)(hc:o.cls=.ref C)(hq:Q (.ref C) ⟨h,g,d,t,os⟩):
  Pq (Px prog w) A (getAttrBy (.ref a) (.str "__class__" tk) false) Q E ⟨h,g,d,t,os⟩:=by
 have b:Slot "ValueError" "__getattribute__" "BaseException.__getattribute__":=PySem.F.attr_ValueError.ga;have j:=b.bind (.ref a);have f:=ı (M:=Px prog w) X F0.ga;have e:=ı (M:=Px prog w) X F0.gt;have c:(Zm "BaseException.__getattribute__"==Zm "object.__getattribute__")=false:=by decide +kernel
 have m:(onTheHeap (Qu C)&&Zm "BaseException.__getattribute__"==Zm "object.__getattribute__")=false:=by rw[c];exact Ü _
 repeat (any_goals (first|assumption|(with_reducible refine Õ hx ?_;rw[hc])|(with_reducible refine f.at ?_)|(with_reducible refine e.at ?_)|wp_step))
 refine ĺ b.plain F.entry_bexc_ga (uh X F0 hx hc (ug X F0 hx hc ?_))
 repeat (any_goals (first|assumption|wp_step))
theorem wy {prog:PU}{w:Pz}{A:P7}{E:G'->N'->Prop}{K:Po}{h:Ps}{g:Array À}{d:Drawn}{t:Nat}{os:RM}{a:D'}{C:D'}{o:J'}{Q:Option G'->N'->Prop}(X:K.In h)(F0:XD K C)(hx:h.get? a=some o)(hc:o.cls=.ref C)(hq:Q (some (.ref C)) ⟨h,g,d,t+1,os⟩):
  Pq (Px prog w) A (getAttr? (.ref a) "__class__") Q E ⟨h,g,d,t,os⟩:=by
 unfold getAttr? getAttrBy?
 repeat (any_goals (first|assumption|with_reducible apply Ag X F0 hx hc|wp_step))
theorem Cp {K:Po}(F0:XD K C):W.KitX K (.ref a) (.ref C) (λh=>∃oe,h.get? a=some oe/\oe.cls=.ref C) where
 ty:=λM h _ ⟨oe,e,c⟩=>c▸(IF e).andThen .now
 it:=λM h X _=>qU X F0.cl
 ne:=λh m dd p n u X b=>by
  refine ŕ.mpr λq=>?_;have e:C=m:=Qu.inj (beq_iff_eq.mp q);subst e;have f:=F0.cl;unfold SQ W.clsIn at f
  split at f
  .rename_i v d' o x j;have z:=(X _ _ j).symm.trans b;cases z
  .cases f
 ca:=λ{prog w A E Q s} X ⟨oe,e,c⟩ k=>by
  obtain⟨h,g,d,t,os⟩:=s;exact wy X F0 e c k
inductive ZL (K)(H):V->G'->Prop where
 | of {x:V}{t:G'}(h:UI K H x t):ZL K H x t
 | tup {a:D'}{xs:List V}(h:PM K H a xs):ZL K H (.ref a) (.type "tuple")
 | lst {a:D'}{xs:List V}(h:PX K H a xs):ZL K H (.ref a) (.type "list")
 | exc {a C:D'}(h:H a=some (lh a (.ref C))) (F0:XD K C):ZL K H (.ref a) (.ref C)
def Mf:V->G'->Prop
 | .ty n,c=>c=.type n
 | .ref C,c=>c=.ref C
 | _,_=>False
theorem bK:cF X (.builtin "isinstance") (λxs H Q=>∃x cv t c b,xs=[x,cv]/\Mf cv c/\ZL X.K H x t/\UG X.K t c=some b/\Q (.bl b) H):=by
 intro ac s L H xs us Q I r h;obtain⟨x,cv,t,c,b,rfl,d,ty,e,q⟩:=h;obtain⟨u,v,rfl,j,A⟩:=r.two;have J:v=c:=by
  cases cv with
  | ty n=>exact(show v=_ from A).trans (show c=_ from d).symm
  | ref C=>exact(show v=_ from A).trans (show c=_ from d).symm
  | _=>exact SH d
 subst J;have fin:∀m,EP X ac L Q (.bool b) { s with toks:=m }:=λm=>⟨.bl b,H,I.tok m,rfl,q⟩
 cases ty with
 | of ty=>exact zW I j ty e fin
 | @tup a xs y=>
  cases (show u=Qu a from j);obtain⟨E,_,p,_⟩:=I.tuple y;obtain⟨o,f,g,_⟩:=p;exact UF W.kitx_tuple I.Re ⟨o,f,g⟩ e (λz=>nomatch z) fin
 | @lst a xs y=>
  cases (show u=Qu a from j);obtain⟨E,_,p,_⟩:=I.list y;obtain⟨o,f,g,_⟩:=p.isList;exact UF W.kitx_list I.Re ⟨o,f,g⟩ e (λz=>nomatch z) fin
 | @exc a C G F=>
  cases (show u=Qu a from j);obtain⟨⟨D,vs,f,g,_⟩,_⟩:=(show bt X.prog X.w H s.heap a (lh a (.ref C)) from I.PQ a _ G)
  exact UF (Cp F) I.Re ⟨D,f,g⟩ e (λz=>nomatch z) fin
theorem GA {K:Po}:UG K (.type "int") (.type "int")=some true:=rfl
theorem GB {K:Po}:UG K (.type "int") (.type "bool")=some false:=by kernel_rfl
theorem li {K:Po}:UG K (.type "tuple") (.type "tuple")=some true:=rfl
theorem Pl {K:Po}:UG K (.type "bool") (.type "bool")=some true:=rfl
theorem GC {K:Po}:UG K (.type "list") (.type "list")=some true:=rfl
structure ahl (K)(C):Prop where
 cl:SQ K C=true
 ty:VN K (.ref C)=some (.type "type")
theorem EW {K:Po}(c:ahl K D)(hm:QF K C (.ref D)=some b):UG K (.ref C) (.ref D)=some (if C=D then true else b):=by
 unfold UG
 by_cases z:C=D
 .subst z;rw[PK (by simp),PK rfl]
 .rw[Pr (by simpa using z),Pr z];unfold W.kitCls;have e:(W.clsIn K D).isSome=true:=c.cl;have d:(VN K (.ref D)==some (.type "type"))=true:=by rw[c.ty];rfl
  simp only[e,d,Bool.and_self,if_true];exact hm
theorem ui {K:Po}(hm:QF K C (.type "ValueError")=some b):UG K (.ref C) (.type "ValueError")=some b:=by
 unfold UG;rw[Pr (by simp)];unfold W.kitCls;have c:W.kitMeta "ValueError"=true:=by decide +kernel
 simp only[c,if_true];exact hm
end L2
namespace Mx
noncomputable def bw (n:Nat):List Int:=(Q3 n).map λ(i:Nat)=>(i:Int)
theorem fE (n:Nat):(bw n).length=n:=by simp[bw]
theorem dZ:x∈bw n↔0<=x/\x<n:=by
 simp only[bw,Qs,R7];constructor
 .rintro⟨i,c,rfl⟩;lia
 .rintro⟨h0,b⟩;exact⟨x.toNat,by lia,by lia⟩
theorem yD (n:Nat):(bw n).Nodup:=by
 unfold bw È;rw[Wc];exact(Ĝ (n:=n)).imp (λh e=>h (by lia))
theorem wz (n:Nat):(bw n).Pairwise (·<=·):=by
 unfold bw;rw[Wc];exact(Ğ (n:=n)).imp (λh=>by lia)
noncomputable def lZ (l:List Int):List Int:=l.mergeSort λa b=>decide (a<=b)
theorem oG (l):(lZ l).Perm l:=List.mergeSort_perm l _
theorem uj (l):(lZ l).Pairwise (·<=·):=by
 have h:=List.pairwise_mergeSort (le:=λa b:Int=>decide (a<=b)) (by intro a b c;simp;lia) (by intro a b;simp;lia) l;exact h.imp (λh=>by simpa using h)
theorem uk (p:ys.Perm l)(s:ys.Pairwise (·<=·)):ys=lZ l:=
 afV (λa b _ _ c d=>Int.le_antisymm c d) s (uj l) (p.trans (oG l).symm)
def Ord (l:List Int):Prop:=lZ l=bw l.length
theorem Ord.perm (h:Ord l):l.Perm (bw l.length):=by
 have p:=(oG l).symm;rw[h] at p;exact p
theorem Ord.mem (h:Ord l)(hx:x∈l):0<=x/\x<l.length:=dZ.mp (h.perm.mem_iff.mp hx)
end Mx
namespace L2
open PySem PySem.Spec PyProof.Rows
structure Df (P)(w)(K)(mg:M'->Option G')(base)(CX)(k:Nat)(x)(ps)(sp):Prop where
 ex:∃f fd,P4 P w K mg base CX k f fd ps sp/\bA K fd ps []/\Vj K (.ref f)=true/\mg x=some (.ref f)
def GD (sp:Sp)(E:St->XK)(t:TA):TE:=λσ H Q=>t σ H λvs H1=>sp vs H1 Q (E σ)
theorem aE (D:Df X.prog X.w X.K X.mg X.base CX k x ps sp)(hr:Pn k X.A)(hg:Gl X x)(hx:dS CX X E)(ha:PA X (e::es) t)(T4:(x==("__debug__":M'))=false:=by decide)(he:QX (e::es) X.env=(false,eval e X.env)::QX es X.env:=by rfl)(S8:(backTo pos (QX es X.env)).any (·.1)=false:=by rfl):
  PE X (.Call (.Name x p) (e::es) [] pos) (GD sp E t):=by
 obtain⟨f,n,F,b,j,m⟩:=D.ex;intro ac s d H Q I h;refine Ci (RV:=[]) (ds:=[]) F hr hg m j b .nil hx ha T4 he S8 ac s d H Q I ?_;have g:(λ(vs:List V) c=>sp (vs++[]) c Q (E d))=λvs c=>sp vs c Q (E d):=by funext vs c;rw[Vg]
 show t d H (λvs c=>sp (vs++[]) c Q (E d));rw[g];exact h
theorem sY:dS (QP P w) X (λ_ _ _ _=>False):=λ_ _ _ _ _ _ _ ⟨_,_,_,_,_,_,_,_,_,z⟩=>z.elim
theorem dz:SF "isinstance"=some (.builtin "isinstance"):=by decide +kernel
theorem Ea:SF "int"=some (.type "int"):=by decide +kernel
theorem GE:SF "bool"=some (.type "bool"):=by decide +kernel
theorem fU:SF "tuple"=some (.type "tuple"):=by decide +kernel
theorem oH:SF "list"=some (.type "list"):=by decide +kernel
theorem wV:SF "range"=some (.type "range"):=by decide +kernel
theorem nE:SF "sorted"=some (.builtin "sorted"):=by decide +kernel
theorem Eb:SF "all"=some (.builtin "all"):=by decide +kernel
theorem cr:SF "len"=some (.builtin "len"):=by decide +kernel
theorem ar.P6 {K:Po}(e:ar H H')(h:PM K H a xs):PM K H' a xs:=by
 rcases h with(h|⟨o,h⟩)|h
 .exact .inl (.inl (e _ _ h))
 .exact .inl (.inr ⟨o,e _ _ h⟩)
 .exact .inr h
theorem ag (h:H p=none)(o):ar H (upd H p o):=λb u q=>by rw[al (ax q h)];exact q
theorem PX.up {K:Po}:PX K (upd H p (.lst xs)) p xs:=.inl (.inl ak)
theorem PM.up {K:Po}:PM K (upd H p (.tup xs)) p xs:=.inl (.inl ak)
theorem gO (ns:List Int):(ns.map V.int).all ce=true:=by simp[Ve,ce]
theorem gP (n:Nat):jY 0 n=(Mx.bw n).map V.int:=by simp[jY,Mx.bw]
theorem E1 {ns:List Int}{i:Nat}{x:V}(h:(ns.map V.int)[i]?=some x):∃z,x=.int z/\ns[i]?=some z:=by
 rw[So] at h;cases e:ns[i]? with
 | none=>rw[e] at h;cases h
 | some z=>rw[e] at h;exact⟨z,(UW h).symm,rfl⟩
theorem Ct (h1:aI x u)(h2:aI y u):x=y:=by
 have q:aL [x] [u]:=.cons h1 .nil;have b:aL [y] [u]:=.cons h2 .nil;exact(agD (q.inj b)).1
theorem cB {α β:Type}{F:α->β->Prop}:∀{Se:List α}{Sf:List β}{i:Nat}{a:α},PR F Se Sf->Se[i]?=some a->∃b,Sf[i]?=some b/\F a b
 | _,_,_,_,.nil,e=>by simp at e
 | _,_,0,_,.cons h _,e=>by simp at e;subst e;exact⟨_,rfl,h⟩
 | _,_,i+1,a,.cons _ t,e=>by
  obtain⟨b,c,d⟩:=cB (i:=i) (a:=a) t (by simpa using e);exact⟨b,by simpa using c,d⟩
theorem gJ {α β:Type}{F:α->β->Prop}:∀{Se:List α}{Sf:List β}{i:Nat}{b:β},PR F Se Sf->Sf[i]?=some b->∃a,Se[i]?=some a/\F a b
 | _,_,_,_,.nil,e=>by simp at e
 | _,_,0,_,.cons h _,e=>by simp at e;subst e;exact⟨_,rfl,h⟩
 | _,_,i+1,b,.cons _ t,e=>by
  obtain⟨a,c,d⟩:=gJ (i:=i) (b:=b) t (by simpa using e);exact⟨a,by simpa using c,d⟩
theorem bf {α β:Type}{F G:α->β->Prop}(f:∀a b,F a b->G a b):∀{Se:List α}{Sf:List β},PR F Se Sf->PR G Se Sf
 | _,_,.nil=>.nil
 | _,_,.cons h t=>.cons (f _ _ h) (bf f t)
theorem dG {α β:Type}{F:α->β->Prop}:∀{Se m₁:List α}{Sf m₂:List β},PR F Se Sf->PR F m₁ m₂->PR F (Se++m₁) (Sf++m₂)
 | _,_,_,_,.nil,s=>s
 | _,_,_,_,.cons h t,s=>.cons h (dG t s)
theorem ti {α β:Type}{F:α->β->Prop}:∀{Se:List α}{Sf:List β}(n:Nat),PR F Se Sf->PR F (Se.take n) (Sf.take n)
 | _,_,0,_=>.nil
 | _,_,_+1,.nil=>.nil
 | _,_,n+1,.cons h t=>.cons h (ti n t)
theorem j3 {α β:Type}{F:α->β->Prop}:∀{Se:List α}{Sf:List β}(n:Nat),PR F Se Sf->PR F (Se.drop n) (Sf.drop n)
 | _,_,0,h=>h
 | _,_,_+1,.nil=>.nil
 | _,_,n+1,.cons _ t=>j3 n t
theorem YJ {α β:Type}{F:α->β->Prop}(f:∀a b c,F a b->F a c->b=c):∀{l:List α}{m n:List β},PR F l m->PR F l n->m=n
 | _,_,_,.nil,.nil=>rfl
 | _,_,_,.cons h t,.cons h' t'=>by rw[f _ _ _ h h',YJ f t t']
theorem md {α:Type}[DecidableEq α]{as bs:List α}(hl:as.length=bs.length):(Q3 as.length).all (λj=>decide (as[j]?=bs[j]?))=decide (as=bs):=by
 by_cases h:as=bs
 .subst h;rw[Qk rfl,Ve];intro j _;exact Qk rfl
 .rw[Qd h];cases e:(Q3 as.length).all (λj=>decide (as[j]?=bs[j]?)) with
  | false=>rfl
  | true=>
   rw[Ve] at e;refine Py (List.ext_getElem? λj=>?_) h
   by_cases b:j<as.length
   .exact Wb (e j (R7.mpr b))
   .rw[Ů (by lia),Ů (by lia)]
structure Dk (α:Type)[DecidableEq α]where
 rep:Po->Hp->V->α->Prop
 Tc:Nat
 mono:∀{K:Po}{H H':Hp}{x:V}{a:α},ar H H'->rep K H x a->rep K H' x a
 fn:∀{X:Cx}{ac:List (D'×J')}{σ:St}{H:Hp}{s:N'}{x:V}{a b:α},Inv X ac σ H s->rep X.K H x a->rep X.K H x b->a=b
 aaA:∀{X:Cx}{ac:List (D'×J')}{σ:St}{H:Hp}{s:N'}{A:P7}{x y:V}{a b:α}{u v:G'},Inv X ac σ H s->A.units+Tc<Qv->rep X.K H x a->rep X.K H y b->aI x u->aI y v->VM A s u v (decide (a=b))
 ac5:∀{X:Cx}{ac:List (D'×J')}{σ:St}{H:Hp}{s:N'}{A:P7}{x y:V}{a b:α}{u v:G'},Inv X ac σ H s->A.units+Tc<Qv->rep X.K H x a->rep X.K H y b->aI x u->aI y v->SeqAt.RcAt A s u v (decide (a=b))
 ac6:∀{X:Cx}{ac:List (D'×J')}{σ:St}{H:Hp}{s:N'}{A:P7}{x y:V}{a b:α}{u v:G'},Inv X ac σ H s->A.units+Tc<Qv->rep X.K H x a->rep X.K H y b->aI x u->aI y v->SeqAt.RcNeAt A s u v (!decide (a=b))
theorem iB {i j:Int}:(i==j)=decide (i=j):=by
 by_cases h:i=j
 .subst h;simp
 .rw[Qd h];simpa using h
noncomputable def GF:Dk Int where
 rep:=λ_ _ x a=>x=.int a
 Tc:=0
 mono:=λ_ h=>h
 fn:=λ_ h1 h2=>V.int.inj (h1.symm.trans h2)
 aaA:=λ_ _ h1 h2 r1 r2=>by
  subst h1 h2;obtain⟨t,rfl⟩:=r1;obtain⟨t',rfl⟩:=r2;rw[<-iB];exact ī _ _ _ _
 ac5:=λ_ _ h1 h2 r1 r2=>by
  subst h1 h2;obtain⟨t,rfl⟩:=r1;obtain⟨t',rfl⟩:=r2;rw[<-iB];exact SeqAt.RcAt.int_int _ _ _ _
 ac6:=λ_ _ h1 h2 r1 r2=>by
  subst h1 h2;obtain⟨t,rfl⟩:=r1;obtain⟨t',rfl⟩:=r2;rw[<-iB];exact SeqAt.RcNeAt.int_int _ _ _ _
section
variable {α:Type} [DecidableEq α]
theorem gw (k:Dk α){σ:St}(I:Inv X ac σ H s)(hu:A.units+k.Tc<Qv)(p:PR (k.rep X.K H) xs as)(q:PR (k.rep X.K H) ys bs)(r1:aL xs us)(r2:aL ys vs):
  ∀j (h1:j<us.toArray.size) (h2:j<vs.toArray.size),VM A s us.toArray[j] vs.toArray[j] (decide (as[j]?=bs[j]?)):=by
 intro j h1 h2;have F:=r1.length;have E:=r2.length;have y:j<us.length:=by simpa using h1
 have d:j<vs.length:=by simpa using h2
 obtain⟨u,w,o⟩:=r1.get (i:=j) (x:=xs[j]'(by lia)) (by simp);obtain⟨v,c,m⟩:=r2.get (i:=j) (x:=ys[j]'(by lia)) (by simp);have n:us.toArray[j]=u:=by
  have:=(Rh.mp w).2;simpa using this
 have D:vs.toArray[j]=v:=by
  have:=(Rh.mp c).2;simpa using this
 obtain⟨a,e,t⟩:=cB (i:=j) (a:=xs[j]'(by lia)) p (by simp);obtain⟨b,g,f⟩:=cB (i:=j) (a:=ys[j]'(by lia)) q (by simp);rw[n,D,e,g];have C:decide (some a=some b)=decide (a=b):=by
  by_cases h:a=b
  .subst h;simp
  .simp[h]
 rw[C];exact k.aaA I hu t f o m
theorem jH {as bs:List α}(hn:n=as.length)(hm:m=bs.length):((Q3 (min n m)).all (λj=>decide (as[j]?=bs[j]?))&&n==m)=decide (as=bs):=by
 subst hn hm
 by_cases h:as.length=bs.length
 .rw[h,Nat.min_self,<-h,md h];simp[h]
 .have:(as.length==bs.length)=false:=by simpa using h
  rw[this,Ü,Qd];rintro rfl;exact h rfl
noncomputable def Cu (k:Dk α):Dk (List α) where
 rep:=λK H x as=>∃p xs,x=.ref p/\PM K H p xs/\PR (k.rep K H) xs as
 Tc:=k.Tc+1
 mono:=λs ⟨p,xs,e,q,r⟩=>⟨p,xs,e,by
  rcases q with(h|⟨o,h⟩)|h
  .exact .inl (.inl (s _ _ h))
  .exact .inl (.inr ⟨o,s _ _ h⟩)
  .exact .inr h,bf (λ_ _ z=>k.mono s z) r⟩
 fn:=λI ⟨p,xs,e,q,r⟩ ⟨p',YK,e',q',r'⟩=>by
  rw[e] at e';cases e';have:=I.acI q q';subst this;exact YJ (F:=k.rep _ _) (λ_ _ _ h1 h2=>k.fn I h1 h2) r r'
 aaA:=λ{X ac σ H s A x y a b u v} I hu ⟨p,xs,e,q,r⟩ ⟨p',YK,e',q',r'⟩ rx ry=>by
  subst e e';cases rx;cases ry
  by_cases hp:p=p'
  .subst hp;have:=I.acI q q';subst this;have:=YJ (F:=k.rep _ _) (λ_ _ _ h1 h2=>k.fn I h1 h2) r r';subst this;rw[Qk rfl];exact ë _
  .obtain⟨Pp,v1,t1,_⟩:=I.tuple q;obtain⟨its',v2,t2,_⟩:=I.tuple q';refine Ĭ hp ?_;have h:=ĭ (A:=A) (e:=λj=>decide (a[j]?=b[j]?)) t1 t2 (by lia) (gw k I (by show A.units+1+k.Tc<Qv;lia) r r' v1 v2);rw[jH (by rw[QI,<-v1.length,r.length]) (by rw[QI,<-v2.length,r'.length])] at h;exact h
 ac5:=λ{X ac σ H s A x y a b u v} I hu ⟨p,xs,e,q,r⟩ ⟨p',YK,e',q',r'⟩ rx ry=>by
  subst e e';cases rx;cases ry;obtain⟨Pp,v1,t1,_⟩:=I.tuple q;obtain⟨its',v2,t2,_⟩:=I.tuple q';have h:=ĭ (A:=A) (e:=λj=>decide (a[j]?=b[j]?)) t1 t2 (by lia) (gw k I (by show A.units+1+k.Tc<Qv;lia) r r' v1 v2);rw[jH (by rw[QI,<-v1.length,r.length]) (by rw[QI,<-v2.length,r'.length])] at h;exact h
 ac6:=λ{X ac σ H s A x y a b u v} I hu ⟨p,xs,e,q,r⟩ ⟨p',YK,e',q',r'⟩ rx ry=>by
  subst e e';cases rx;cases ry;obtain⟨Pp,v1,t1,_⟩:=I.tuple q;obtain⟨its',v2,t2,_⟩:=I.tuple q';have h:=SeqAt.RcNeAt.tuples (A:=A) (e:=λj=>decide (a[j]?=b[j]?)) t1 t2 (by lia) (gw k I (by show A.units+1+k.Tc<Qv;lia) r r' v1 v2);rw[jH (by rw[QI,<-v1.length,r.length]) (by rw[QI,<-v2.length,r'.length])] at h;exact h
noncomputable def GG (k:Dk α):Dk (List α) where
 rep:=λK H x as=>∃p xs,x=.ref p/\PX K H p xs/\PR (k.rep K H) xs as
 Tc:=k.Tc+1
 mono:=λs ⟨p,xs,e,q,r⟩=>⟨p,xs,e,by
  rcases q with(h|⟨o,h⟩)|h
  .exact .inl (.inl (s _ _ h))
  .exact .inl (.inr ⟨o,s _ _ h⟩)
  .exact .inr h,bf (λ_ _ z=>k.mono s z) r⟩
 fn:=λI ⟨p,xs,e,q,r⟩ ⟨p',YK,e',q',r'⟩=>by
  rw[e] at e';cases e';have:=I.acK q q';subst this;exact YJ (F:=k.rep _ _) (λ_ _ _ h1 h2=>k.fn I h1 h2) r r'
 aaA:=λ{X ac σ H s A x y a b u v} I hu ⟨p,xs,e,q,r⟩ ⟨p',YK,e',q',r'⟩ rx ry=>by
  subst e e';cases rx;cases ry
  by_cases hp:p=p'
  .subst hp;have:=I.acK q q';subst this;have:=YJ (F:=k.rep _ _) (λ_ _ _ h1 h2=>k.fn I h1 h2) r r';subst this;rw[Qk rfl];exact ë _
  .obtain⟨Pp,v1,t1,_⟩:=I.list q;obtain⟨its',v2,t2,_⟩:=I.list q';refine Ĭ hp ?_;have z1:Pp.toArray.size=a.length:=by rw[QI,<-v1.length,r.length]
   have z2:its'.toArray.size=b.length:=by rw[QI,<-v2.length,r'.length]
   by_cases hl:a.length=b.length
   .have h:=agz (A:=A) (e:=λj=>decide (a[j]?=b[j]?)) t1.isList t2.isList (by lia) (by lia) (gw k I (by show A.units+1+k.Tc<Qv;lia) r r' v1 v2);rw[z1,md hl] at h;exact h
   .rw[Qd (λz=>hl (by rw[z]))];exact afW t1.isList t2.isList (by rw[z1,z2];simpa using hl) (by lia)
 ac5:=λ{X ac σ H s A x y a b u v} I hu ⟨p,xs,e,q,r⟩ ⟨p',YK,e',q',r'⟩ rx ry=>by
  subst e e';cases rx;cases ry;obtain⟨Pp,v1,t1,_⟩:=I.list q;obtain⟨its',v2,t2,_⟩:=I.list q';have z1:Pp.toArray.size=a.length:=by rw[QI,<-v1.length,r.length]
  have z2:its'.toArray.size=b.length:=by rw[QI,<-v2.length,r'.length]
  by_cases hl:a.length=b.length
  .have h:=agz (A:=A) (e:=λj=>decide (a[j]?=b[j]?)) t1.isList t2.isList (by lia) (by lia) (gw k I (by show A.units+1+k.Tc<Qv;lia) r r' v1 v2);rw[z1,md hl] at h;exact h
  .rw[Qd (λz=>hl (by rw[z]))];exact afW t1.isList t2.isList (by rw[z1,z2];simpa using hl) (by lia)
 ac6:=λ{X ac σ H s A x y a b u v} I hu ⟨p,xs,e,q,r⟩ ⟨p',YK,e',q',r'⟩ rx ry=>by
  subst e e';cases rx;cases ry;obtain⟨Pp,v1,t1,_⟩:=I.list q;obtain⟨its',v2,t2,_⟩:=I.list q';have z1:Pp.toArray.size=a.length:=by rw[QI,<-v1.length,r.length]
  have z2:its'.toArray.size=b.length:=by rw[QI,<-v2.length,r'.length]
  by_cases hl:a.length=b.length
  .have h:=agw (A:=A) (e:=λj=>decide (a[j]?=b[j]?)) t1.isList t2.isList (by lia) (by lia) (gw k I (by show A.units+1+k.Tc<Qv;lia) r r' v1 v2);rw[z1,md hl] at h;exact h
  .rw[Qd (λz=>hl (by rw[z]))];exact afP t1.isList t2.isList (by rw[z1,z2];simpa using hl) (by lia)
noncomputable def nF (k:Dk α)(K:Po)(H:Hp)(b:α)(u:G'):Bool:=@decide (∃y,aI y u/\k.rep K H y b) (Ď _)
theorem E3 (k:Dk α){σ:St}(I:Inv X ac σ H s)(r:aI y u)(h:k.rep X.K H y a):nF k X.K H b u=decide (a=b):=by
 unfold nF
 by_cases z:a=b
 .subst z;rw[Qk rfl];exact @Qk _ (Ď _) ⟨y,r,h⟩
 .rw[Qd z];refine @Qd _ (Ď _) ?_;rintro⟨d,c,h'⟩;have:=Ct r c;subst this;exact z (k.fn I h h')
theorem wW (k:Dk α){σ:St}(I:Inv X ac σ H s)(hu:A.units+k.Tc<Qv)(rx:aI x v)(hb:k.rep X.K H x b):
  ∀{xs:List V}{us:List G'}{as:List α},aL xs us->PR (k.rep X.K H) xs as->(∀u∈us,VM A s u v (nF k X.K H b u))/\us.any (nF k X.K H b)=as.any λa=>decide (a=b)
 | _,_,_,.nil,.nil=>⟨λu hu=>(by cases hu),rfl⟩
 | y::xs,u::us,a::as,.cons r t,.cons p q=>by
  obtain⟨c,d⟩:=wW k I hu rx hb t q;have e:=E3 (b:=b) k I r p;refine⟨λw hw=>?_,by rw[Wi,Wi,e,d]⟩;rcases Qe.mp hw with rfl|hw
  .rw[e];exact k.aaA I hu p hb r rx
  .exact c w hw
end
section
variable {κ:Type} [DecidableEq κ]
noncomputable def cj (kvs:List (κ×V))(k:κ):Option V:=(kvs.find? λkv=>decide (kv.1=k)).map (·.2)
noncomputable def du (kvs:List (κ×V))(k:κ)(v:V):List (κ×V):=
 if (kvs.any λkv=>decide (kv.1=k))=true then kvs.map (λkv=>if kv.1=k then (kv.1,v) else kv) else kvs++[(k,v)]
theorem Mg:cj ([]:List (κ×V)) k=none:=rfl
theorem ed {p:κ×V}(e:p.1=k):cj (p::r) k=some p.2:=by simp[cj,We,e]
theorem ef {p:κ×V}(e:¬p.1=k):cj (p::r) k=cj r k:=by simp[cj,We,e]
theorem j4 (k:κ):∀kvs:List (κ×V),(kvs.any λkv=>decide (kv.1=k))=(cj kvs k).isSome
 | []=>rfl
 | p::r=>by
  rw[Wi]
  by_cases e:p.1=k
  .simp only[ed e,Qk e,Bool.true_or,Option.isSome_some]
  .rw[ef e,Qd e,Bool.false_or];exact j4 k r
theorem gK (kvs:List (κ×V))(k:κ)(v):(du kvs k v).length<=kvs.length+1:=by
 unfold du
 split
 .rw[Qx];lia
 .rw[Rt,QU,Xp];lia
theorem eK.acJ (r:eK o u):o.isSome=u.isSome:=by
 cases o with
 | none=>cases u with
  | none=>rfl
  | some _=>exact(show False from r).elim
 | some _=>cases u with
  | none=>exact(show False from r).elim
  | some _=>rfl
theorem eK.getD (r:eK o u)(rd:aI d d'):aI (o.getD d) (u.getD d'):=by
 cases o with
 | none=>cases u with
  | none=>exact rd
  | some _=>exact(show False from r).elim
 | some _=>cases u with
  | none=>exact(show False from r).elim
  | some _=>exact r
theorem KV.val (r:KV kvs vs)(k:κ):eK (cj kvs k) (valueAt vs k):=by
 unfold KV at r
 induction r with
 | nil=>exact Ti
 | @cons p q ps d h t j=>
  obtain⟨f,g⟩:=h
  by_cases e:p.1=k
  .have c:q.1=k:=f.symm.trans e;have b:valueAt (q::d) k=some q.2:=by simp[valueAt,We,c]
   rw[ed e,b];exact g
  .have c:¬q.1=k:=λz=>e (f.trans z);have b:valueAt (q::d) k=valueAt d k:=by simp[valueAt,We,c]
   rw[ef e,b];exact j
theorem KV.any (r:KV kvs vs)(k:κ):(kvs.any λkv=>decide (kv.1=k))=vs.any λkv=>decide (kv.1=k):=by
 unfold KV at r
 induction r with
 | nil=>rfl
 | cons h t b=>rw[Wi,Wi,b,h.1]
theorem KV.ac7 (r:KV kvs vs)(k:κ)(ry:aI y u):
  KV (kvs.map λkv=>if kv.1=k then (kv.1,y) else kv) (vs.map λkv=>if kv.1=k then (kv.1,u) else kv):=by
 unfold KV at r ⊢
 induction r with
 | nil=>exact .nil
 | @cons p q ps f h t d=>
  rw[QJ,QJ];refine .cons ?_ d;obtain⟨b,c⟩:=h
  by_cases e:p.1=k
  .rw[PK e,PK (b.symm.trans e)];exact⟨b,ry⟩
  .rw[Pr e,Pr (λz=>e (b.trans z))];exact⟨b,c⟩
theorem KV.put (r:KV kvs vs)(k:κ)(ry:aI y u):KV (du kvs k y) (stored vs k u):=by
 unfold du stored;rw[r.any k]
 by_cases e:(vs.any λb=>decide (b.1=k))=true
 .rw[PK e,PK e];exact r.ac7 k ry
 .rw[Pr e,Pr e];exact PR.snoc r ⟨rfl,ry⟩
theorem KV.length {kvs:List (κ×V)}(r:KV kvs vs):kvs.length=vs.length:=Zi r
end
theorem ig (r:aI (kV k) u):(aY P w).is k u=true:=by
 cases k with
 | inl i=>obtain⟨t,e⟩:=(show ∃t,u=Ru i t from r);subst e;exact wv P w i t
 | inr x=>obtain⟨t,e⟩:=(show ∃t,u=í x t from r);subst e;exact bS P w x t
theorem qV:∀{ks:List Key}{us:List G'},aL (ks.map kV) us->ItemsAre (aY P w) ks us
 | [],_,r=>by rw[å] at r;cases r;exact .nil
 | k::ks,_,r=>by
  rw[QJ] at r;cases r with
  | cons h t=>exact .cons (ig h) (qV t)
abbrev KT (H:Hp):List (List Key×V)->List (List Key×D'×G')->Prop:=PR λp q=>p.1=q.1/\H q.2.1=some (.tup (p.1.map kV))/\aI p.2 q.2.2
theorem KT.val (r:KT H kvs xs)(k):eK (cj kvs k) ((atKey xs k).map (·.2)):=by
 induction r with
 | nil=>exact Ti
 | @cons p q ps d h t j=>
  obtain⟨f,_,g⟩:=h
  by_cases e:p.1=k
  .have c:q.1=k:=f.symm.trans e;have b:atKey (q::d) k=some q.2:=by simp[atKey,We,c]
   rw[ed e,b];exact g
  .have c:¬q.1=k:=λz=>e (f.trans z);have b:atKey (q::d) k=atKey d k:=by simp[atKey,We,c]
   rw[ef e,b];exact j
theorem KT.ac7 (r:KT H kvs xs)(k)(ry:aI y u):
  KT H (kvs.map λkv=>if kv.1=k then (kv.1,y) else kv) (xs.map (putAt k u)):=by
 induction r with
 | nil=>exact .nil
 | @cons p q ps g h t f=>
  rw[QJ,QJ];refine .cons ?_ f;obtain⟨b,c,d⟩:=h;unfold putAt
  by_cases e:p.1=k
  .rw[PK e,PK (b.symm.trans e)];exact⟨b,c,ry⟩
  .rw[Pr e,Pr (λz=>e (b.trans z))];exact⟨b,c,d⟩
theorem KT.put (r:KT H kvs xs)(k)(hb:H b=some (.tup (k.map kV)))(ry:aI y u):
  KT H (du kvs k y) (storedH xs k b u):=by
 have e:(kvs.any λc=>decide (c.1=k))=(atKey xs k).isSome:=by
  rw[j4,(r.val k).acJ,agx]
 unfold du storedH;rw[e]
 by_cases q:(atKey xs k).isSome=true
 .rw[PK q,PK q];exact r.ac7 k ry
 .rw[Pr q,Pr q];exact PR.snoc r ⟨rfl,hb,ry⟩
theorem KT.keeps (r:KT H kvs xs)(ht:∀b ys,H b=some (.tup ys)->H' b=some (.tup ys)):KT H' kvs xs:=
 Paired.acY r λ_ _ z=>⟨z.1,ht _ _ z.2.1,z.2.2⟩
theorem Ec (ok:Rq P w H h)(e:Rd H a u):bt P w H h a u:=e.ok ok
theorem me (ok:Rq P w H h)(e:Rd H a (.dK kvs)):kvs.length<=PH/\(a==R8)=false/\∃vs,KV kvs vs/\h.DictOf (aY P w) a vs:=
 show bt P w H h a (.dK kvs) from Ec ok e
theorem j5 (ok:Rq P w H h)(e:H a=some (.dK kvs)):kvs.length<=PH/\(a==R8)=false/\∃vs,KV kvs vs/\h.DictOf (aY P w) a vs:=me ok (.inl e)
theorem lj (ok:Rq P w H h)(e:H a=some (.tup (ks.map kV))):(tupleKind (aY P w)).is h ks a:=by
 obtain⟨_,f,r,o,c,d,n,b,_⟩:=(show bt P w H h a (.tup (ks.map kV)) from ok a _ e)
 exact⟨o,f.toArray,n,c,d,b,by simpa using qV r⟩
theorem mf (ok:Rq P w H h)(e:Rd H a (.dT kvs)):kvs.length<=PH/\(a==R8)=false/\
  ∃xs,KT H kvs xs/\h.DictOfH (tupleKind (aY P w)) a xs:=by
 obtain⟨z,y,xs,r,o,es,ep,d,g,b,c,f⟩:=(show bt P w H h a (.dT kvs) from Ec ok e)
 refine⟨z,y,xs,r,o,es,ep,d,g,b,c,λx hx=>?_,f⟩;have all:∀{l:List (List Key×V)}{m:List (List Key×D'×G')},KT H l m->∀x∈m,(tupleKind (aY P w)).is h x.1 x.2.1:=by
  intro l m q
  induction q with
  | nil=>intro x hx;exact nomatch hx
  | @cons p q ps qs hq t ih=>
   intro x hx;rcases Qe.mp hx with e|hx
   .subst e;exact lj ok (by rw[<-hq.1];exact hq.2.1)
   .exact ih x hx
 exact all r x hx
theorem KU (ok:Rq P w H h)(e:H a=some (.dT kvs)):kvs.length<=PH/\(a==R8)=false/\
  ∃xs,KT H kvs xs/\h.DictOfH (tupleKind (aY P w)) a xs:=mf ok (.inl e)
def iR (H:Hp)(a:D')(y:V)(r:Option V):Prop:=
 (∃kvs k,Rd H a (.dK kvs)/\y=kV k/\r=cj kvs k)\/∃kvs k b,Rd H a (.dT kvs)/\y=.ref b/\H b=some (.tup (k.map kV))/\r=cj kvs k
def ur (H:Hp)(a:D')(y v:V)(H':Hp):Prop:=
 (∃kvs k,H a=some (.dK kvs)/\y=kV k/\kvs.length<PH/\H'=upd H a (.dK (du kvs k v)))\/
 ∃kvs k b,H a=some (.dT kvs)/\y=.ref b/\H b=some (.tup (k.map kV))/\kvs.length<PH/\H'=upd H a (.dT (du kvs k v))
theorem iR.k {k:Key}(e:H a=some (.dK kvs)):iR H a (kV k) (cj kvs k):=.inl ⟨kvs,k,.inl e,rfl,rfl⟩
theorem ur.k {k:Key}(e:H a=some (.dK kvs))(hl:kvs.length<PH):ur H a (kV k) v (upd H a (.dK (du kvs k v))):=.inl ⟨kvs,k,e,rfl,hl,rfl⟩
theorem Inv.ZM {σ:St}(I:Inv X ac σ H s):R8<s.heap.objs.size:=by
 have h:Qq<s.heap.objs.size:=(I.mod.glob.keeps I.bk).lt;exact è (by decide) h
theorem Aj {σ:St}(hu:A.units+1<Qv)(I:Inv X ac σ H s)(g:iR H a y (some v))(ry:aI y u)(h:∀w' s',Inv X ac σ H s'->aI v w'->Q w' s'):
  Pq (Px X.prog X.w) A (getItem (.ref a) u) Q E s:=by
 rcases g with⟨kvs,k,e,f,l⟩|⟨kvs,k,b,e,f,m,l⟩
 .subst f;obtain⟨z,hd,vs,rel,dd⟩:=me I.PQ e;obtain⟨w',d,c⟩:=eK.some_of (v:=v) (o:=valueAt vs k) (by rw[l];exact rel.val k);exact wpAny_getItem_of (ig ry) dd.mapOf d (h w' _ (I.tok _) c)
 .subst f;cases (show u=Qu b from ry);obtain⟨z,hd,xs,rel,dd⟩:=mf I.PQ e;obtain⟨w',d,c⟩:=eK.some_of (v:=v) (o:=(atKey xs k).map (·.2)) (by rw[l];exact rel.val k);obtain⟨p,n,j⟩:=Xk.mp d;refine wpAny_getItem_heap (ú hu) (lj I.PQ m) dd n ?_;rw[j];exact h w' _ (I.tok _) c
theorem Mh {σ:St}(hu:A.units+1<Qv)(I:Inv X ac σ H s)(g:iR H a y o)(ry:aI y u)(h:∀s',Inv X ac σ H s'->Q (.bool o.isSome) s'):
  Pq (Px X.prog X.w) A (R9 .In u (.ref a)) Q E s:=by
 rcases g with⟨kvs,k,e,c,l⟩|⟨kvs,k,b,e,c,d,l⟩
 .subst c;obtain⟨z,hd,vs,rel,dd⟩:=me I.PQ e;refine wpAny_in_of (ig ry) hd dd.mapOf ?_;rw[<-(rel.val k).acJ,<-l];exact h _ (I.tok _)
 .subst c;cases (show u=Qu b from ry);obtain⟨z,hd,xs,rel,dd⟩:=mf I.PQ e;refine wpAny_in_heap (ú hu) (lj I.PQ d) hd dd ?_;have q:=(rel.val k).acJ;rw[agx] at q;rw[<-q,<-l];exact h _ (I.tok _)
theorem mh {σ:St}{t':Nat}(I:Inv X ac σ H s)(mu:Mut (H a))(hs:UX a s.heap h')(he:∃q,h'.get? a=some q)(new:bt X.prog X.w (upd H a ob) h' a ob):
  Inv X ac σ (upd H a ob) { s with heap:=h',toks:=t' }:=
 I.write (x:=a) (e:=a) mu (.inl rfl) (λb q c z=>(hs.2 b c).trans z) he new
theorem oI (z:kvs.length<=PH)(hd:(a==R8)=false)(rel:KV kvs vs)(dd:h'.DictOf (aY P w) a vs):
  bt P w H' h' a (.dK kvs):=⟨z,hd,vs,rel,dd⟩
theorem Ak {σ:St}(hu:A.units+1<Qv)(I:Inv X ac σ H s)(g:ur H a y v H')(ry:aI y u)(rv:aI v r)(h:∀s',Inv X ac σ H' s'->Q () s'):
  Pq (Px X.prog X.w) A (setItem (.ref a) u r) Q E s:=by
 rcases g with⟨kvs,k,e,o,l,n⟩|⟨kvs,k,b,e,o,t,l,n⟩
 .subst o n;obtain⟨z,hd,vs,rel,dd⟩:=j5 I.PQ e;have hz:vs.length<=PH:=by rw[<-rel.length];exact z
  have j:(du kvs k v).length<=PH:=by have:=gK kvs k v;lia
  refine wpAny_setItem_pairs (hsz:=hz) (ig ry) dd λh' d m=>h _ ?_;have D:∃q,h'.get? a=some q:=let ⟨q,_,_,f,_⟩:=d;⟨q,f⟩;exact mh I (by rw[e];exact Ti) m D (oI j hd (rel.put k rv) d)
 .subst o n;cases (show u=Qu b from ry);obtain⟨z,hd,xs,rel,dd⟩:=KU I.PQ e;have hz:xs.length<=PH:=by rw[<-Zi rel];exact z
  have j:(du kvs k v).length<=PH:=by have:=gK kvs k v;lia
  refine wpAny_setItem_heap (hsz:=hz) (ú hu) (lj I.PQ t) dd λh' d m=>h _ ?_;obtain⟨q,es,ep,f,G,x,C,_,F⟩:=d;refine mh I (by rw[e];exact Ti) m ⟨q,f⟩ ⟨j,hd,_,(rel.put k t rv).keeps λc ys p=>?_,q,es,ep,f,G,x,C,F⟩;rw[al (i8 p e (λz=>nomatch z))];exact p
def ut (i:PZ):Prop:=∀ov iv,subscripted i false ov iv=operate [ov,iv] (getItem ov iv)
theorem mj {T id:String}(hl:typeLookup (.type T) "__getitem__"=pure (some (.builtin id)))(hs:ut slice)(h:Pq (Px prog w) A (eval value env) (λo P8=>Pq (Px prog w) A (eval slice env) (λi Qy=>Qy.TypeIs o T/\Pq (Px prog w) A (getItem o i) Q E Qy) E P8) E s):
  Pq (Px prog w) A (eval (.Subscript value slice pos) env) Q E s:=by
 refine Subscript_ (UY h (λo P8 f=>UY f (λi Qy b=>?_) λ_ _ x=>x) λ_ _ x=>x);obtain⟨e,b⟩:=b;unfold subscriptTail;refine Pm ?_;rw[getitemInPython_of_ne e.not_modules];refine Pm (Zf e hl ?_);have fin:Pq (Px prog w) A (subscripted slice false o i) (λr d=>Pq (Px prog w) A (letTemporaryGo value o r >>= λ_=>pure r) Q E d) E Qy:=by
  rw[hs o i];exact wpAny_operating (UY b (λr d c=>Pm (wpAny_letTemporaryGo (Pu c))) λ_ _ x=>x)
 first
  | exact Pu (Pm fin)
  | exact Pm (Pu (Pm fin))
  | exact Pm fin
theorem wA {σ:St}(I:Inv X ac σ H s)(g:iR H a y o):s.TypeIs (.ref a) "dict":=by
 rcases g with⟨kvs,k,e,_,_⟩|⟨kvs,k,b,e,_,_,_⟩
 .obtain⟨_,_,vs,_,dd⟩:=me I.PQ e;exact dd.typeIs
 .obtain⟨_,_,xs,_,dd⟩:=mf I.PQ e;exact dd.typeIs
def KW (td ty:TE):TE:=λσ H Q=>td σ H λx H1=>ty σ H1 λy H2=>∃a v,x=.ref a/\iR H2 a y (some v)/\Q v H2
def Mi (ty td:TE):TE:=λσ H Q=>ty σ H λy H1=>td σ H1 λx H2=>∃a o,x=.ref a/\iR H2 a y o/\Q (.bl o.isSome) H2
def KY (td ty tv:TE):TS:=λD σ H=>tv σ H λv H1=>td σ H1 λx H2=>ty σ H2 λy H3=>∃a H4,x=.ref a/\ur H3 a y v H4/\D.nx σ H4
theorem E4 (hu:X.A.units+1<Qv)(ho:PE X o td)(hi:PE X i ty)(hs:ut i):PE X (.Subscript o i pos) (KW td ty):=by
 intro ac s c H Q I h;refine mj ď.lookup hs (PY (ho ac s c H _ I h) λu s1 D=>QK D λx C w t m=>PY (hi ac s1 c C _ w m) λE s2 p=>?_);obtain⟨y,n,b,d,a,v,ex,g,j⟩:=p;subst ex;obtain rfl:u=Qu a:=t;exact⟨wA b g,Aj hu b g d λF s3 e f=>⟨v,n,e,f,j⟩⟩
theorem Al (hu:X.A.units+1<Qv)(hi:PE X i ty)(ho:PE X o td):PC X .In i o (Mi ty td):=by
 intro ac s b H Q I h;refine PY (hi ac s b H _ I h) λD s1 C=>QK C λy w v d m=>PY (ho ac s1 b w _ v m) λu s2 p=>?_;obtain⟨x,n,c,t,a,f,ex,g,j⟩:=p;subst ex;obtain rfl:u=Qu a:=t;exact Mh hu c g d λs3 e=>⟨.bl f.isSome,n,e,rfl,j⟩
theorem E5 (hu:X.A.units+1<Qv)(ho:PE X o td)(hi:PE X i ty)(hv:PE X value tv)(hs:swapsWith value (some (.Subscript o i pos')) pos.line X.env=pure false):
  PS X (.Assign [.Subscript o i pos'] value pos) (KY td ty tv):=by
 intro ac s b H D I h;refine Ł (PY (hv ac s b H _ I h) λr s1 c=>QK c λv J G n p=>PY (ho ac s1 b J _ G p) λu s2 c=>QK c λx t d F m=>PY (hi ac s2 b t _ d m) λL s3 C=>?_) hs;obtain⟨y,M,j,f,a,E,ex,g,e⟩:=C;subst ex;obtain rfl:u=Qu a:=F;exact Ak hu j g f n λs4 w=>⟨b,E,w,e⟩
theorem uu (h:Ps)(hb:R8<h.objs.size):bt P w H (h.push { cls:=.type "dict",data:=.dict #[] }) h.objs.size (.dK []):=
 ⟨RA _,beq_eq_false_iff_ne.mpr (QC (Qw hb)),[],.nil,agB h⟩
def GH:TE:=λ_ H Q=>∀p,H p=none->Q (.ref p) (upd H p (.dK []))
theorem uv:PE X (.Dict [] [] pos) GH:=λac s b H Q I h=>
 wpAny_Dict_empty ⟨.ref s.heap.objs.size,_,I.laid (a:=s.heap.objs.size) (o:=.dK []) (t':=s.toks) (λ_ _ q=>Qn _ q) (P1 _) (uu s.heap I.ZM),rfl,h _ (I.PQ.fresh (P1 _))⟩
def uw:List (TE×TE)->St->Hp->(List (V×V)->Hp->Prop)->Prop
 | [],_,H,Q=>Q [] H
 | (tk,tv)::r,σ,H,Q=>tk σ H λx H1=>tv σ H1 λy H2=>uw r σ H2 λps H3=>Q ((x,y)::ps) H3
abbrev VV:List (V×V)->List (G'×G')->Prop:=PR λp q=>aI p.1 q.1/\aI p.2 q.2
def PPs (X:Cx)(pos:Qp)(keys:List (Option PZ))(values:List PZ)(WH:List (TE×TE)):Prop:=
 ∀(ac:List (D'×J')) (s:N') (σ:St) (H:Hp) (Q:List (V×V)->Hp->Prop),Inv X ac σ H s->uw WH σ H Q->
  Pq (Px X.prog X.w) X.A (evalPairs (pairTrees keys values X.env pos)) (λvs s'=>∃ps H',Inv X ac σ H' s'/\VV ps vs/\Q ps H') X.xe s
theorem pY:PPs X pos [] [] []:=λac s b H Q I h=>pairTrees_nil_walk ⟨[],H,I,.nil,h⟩
theorem cU (hk:PE X k tk)(hv:PE X v tv)(hr:PPs X pos ks vs WH):
  PPs X pos (some k::ks) (v::vs) ((tk,tv)::WH):=λac s c H Q I h=>
 pairTrees_cons_walk (PY (hk ac s c H _ I h) λu s1 b=>QK b λx w t p m=>PY (hv ac s1 c w _ t m) λA s2 b=>QK b λy n d f j=>
  PY (hr ac s2 c n _ d j) λC s3 b=>QK b λps o g rel e=>⟨(x,y)::ps,o,g,.cons ⟨p,f⟩ rel,e⟩)
noncomputable def gf (kvs more:List (Key×V)):List (Key×V):=more.foldl (λacc kv=>du acc kv.1 kv.2) kvs
theorem KV.merge:∀{more:List (Key×V)}{rs:List (Key×G')}{kvs:List (Key×V)}{vs:List (Key×G')},KV more rs->KV kvs vs->KV (gf kvs more) (merged vs rs):=by
 intro more rs kvs vs r;unfold KV at r
 induction r generalizing kvs vs with
 | nil=>intro q;exact q
 | @cons p q ps d h t b=>
  intro c;have e:KV (du kvs p.1 p.2) (stored vs q.1 q.2):=by
   have:=c.put p.1 h.2;rw[<-h.1];exact this
  exact b e
theorem kP:∀(more kvs:List (Key×V)),(gf kvs more).length<=kvs.length+more.length
 | [],kvs=>by show kvs.length<=kvs.length+0;lia
 | p::r,kvs=>by
  have b:=kP r (du kvs p.1 p.2);have c:=gK kvs p.1 p.2;show(gf (du kvs p.1 p.2) r).length<=_;rw[QU];lia
theorem oJ:∀{kvs:List (Key×V)}{ws:List (G'×G')},VV (kvs.map λkv=>(kV kv.1,kv.2)) ws->∃rs,Carries (aY P w) ws rs/\KV kvs rs
 | [],_,r=>by rw[å] at r;cases r;exact⟨[],Ti,.nil⟩
 | p::kvs,_,r=>by
  rw[QJ] at r;cases r with
  | @cons a b as bs h t=>
   obtain⟨rs,c,q⟩:=oJ (P:=P) (w:=w) t;obtain⟨e,d⟩:=b;exact⟨(p.1,d)::rs,⟨ig h.1,rfl,c⟩,.cons ⟨rfl,h.2⟩ q⟩
def yE (WH:List (TE×TE)):TE:=λσ H Q=>∀p,H p=none->uw WH σ (upd H p (.dK [])) λps H2=>H2 p=some (.dK [])/\∃kvs:List (Key×V),ps=kvs.map (λkv=>(kV kv.1,kv.2))/\kvs.length<=15/\Q (.ref p) (upd H2 p (.dK (gf [] kvs)))
theorem pZ (h:PPs X pos keys values WH)(Tl:keys.all (·.isSome)=true)(hl:keys.length=values.length)(h0:keys≠[])(h15:keys.length<=15):PE X (.Dict keys values pos) (yE WH):=by
 intro ac s y H Q I q;have j:=I.PQ.fresh (P1 s.heap.objs.size);have x:=I.laid (a:=s.heap.objs.size) (o:=.dK []) (h':=s.heap.push { cls:=.type "dict",data:=.dict #[] }) (t':=s.toks) (λ_ _ q=>Qn _ q) (P1 _) (uu s.heap I.ZM);refine wpAny_Dict_walk (knd:=aY X.prog X.w) Tl hl h0 h15 (PY (h ac _ y _ _ x (q _ j)) λD s2 v=>?_);obtain⟨ps,C,b,rel,e,kvs,ep,A,n⟩:=v;subst ep;obtain⟨rs,c,p⟩:=oJ (P:=X.prog) (w:=X.w) rel;obtain⟨z,hd,u,t,dd⟩:=j5 b.PQ e;cases t;refine⟨rs,c,dd,λh' d f=>⟨.ref s.heap.objs.size,_,?_,rfl,n⟩⟩;have hz:(gf [] kvs).length<=PH:=by
  have m:=kP kvs [];rw[Xp] at m;rw[QA];lia
 have g:∃q,h'.get? s.heap.objs.size=some q:=let ⟨q,_,_,hq,_⟩:=d;⟨q,hq⟩;exact mh b (by rw[e];exact Ti) f g (oI hz hd (p.merge .nil) d)
structure M2 (X:Cx)(o:PZ)(m:M')(apos:Qp)(e f:PZ)(SB:Qp):Prop where
 base:attributeBase o m X.env (eval o X.env)=eval o X.env
 Qi:((backTo SB (QX [e,f] X.env)).all (λx=>!x.1)&&(backToKw SB (keywordEach [] X.env)).all (λx=>x.1.isSome)
  && decide (([e,f]:List PZ).length+([]:List Keyword).length+(if ([]:List Keyword).isEmpty then 0 else 1)<30))=true
 line:(apos.endLine==SB.line)=true
 trees:backTo SB (QX [e,f] X.env)=[(false,eval e X.env),(false,eval f X.env)]
def IsD (H:Hp)(a:D'):Prop:=(∃kvs,Rd H a (.dK kvs))\/∃kvs,Rd H a (.dT kvs)
theorem GI {σ:St}(I:Inv X ac σ H s)(d:IsD H a):
  s.TypeIs (.ref a) "dict"/\(∀b,Qu a=.ref b->∃ob,s.heap.get? b=some ob/\ob.dict=none)/\(a==R8)=false:=by
 rcases d with⟨kvs,e⟩|⟨kvs,e⟩
 .obtain⟨_,hd,vs,_,dd⟩:=me I.PQ e;refine⟨dd.typeIs,λb q=>?_,hd⟩;cases q;obtain⟨ob,_,_,c,f,_⟩:=dd;exact⟨ob,c,f.2.1⟩
 .obtain⟨_,hd,xs,_,dd⟩:=mf I.PQ e;refine⟨dd.typeIs,λb q=>?_,hd⟩;cases q;obtain⟨ob,_,_,c,f,_⟩:=dd;exact⟨ob,c,f.2.1⟩
theorem GJ {σ:St}(hu:A.units+1<Qv)(I:Inv X ac σ H s)(g:iR H a y o)(ry:aI y u)(rd:aI d r)(h:∀w' s',Inv X ac σ H s'->aI (o.getD d) w'->Q w' s'):
  Pq (Px X.prog X.w) A (call (.builtin "dict.get") [.ref a,u,r]) Q E s:=by
 rcases g with⟨kvs,k,e,c,l⟩|⟨kvs,k,b,e,c,f,l⟩
 .subst c;obtain⟨z,hd,vs,rel,dd⟩:=me I.PQ e;refine call_meetsIn ť dd.typeIs af7 (af1 _ _ _) (meets_dict_get_default (aY X.prog X.w) a (ig ry) hd r) ⟨_,dd.mapOf,h _ _ (I.tok _) ?_⟩;rw[l];exact(rel.val k).getD rd
 .subst c;cases (show u=Qu b from ry);obtain⟨z,hd,xs,rel,dd⟩:=mf I.PQ e;refine call_meetsIn ť dd.typeIs af7 (af1 _ _ _) (meetsH_dict_get_default (tupleKind (aY X.prog X.w)) a b hd r) ⟨ú hu,k,xs,lj I.PQ f,dd,h _ _ (I.tok _) ?_⟩;rw[l];exact(rel.val k).getD rd
def GL (td ty tx:TE):TE:=λσ H Q=>td σ H λx H1=>∃a,x=.ref a/\IsD H1 a/\ty σ H1 λy H2=>tx σ H2 λz H3=>∃o,iR H3 a y o/\Q (o.getD z) H3
theorem iT (hu:X.A.units+1<Qv)(ho:PE X o td)(he:PE X e ty)(hf:PE X f tx)(m:M2 X o "get" apos e f SB):PE X (.Call (.Attribute o "get" apos) [e,f] [] SB) (GL td ty tx):=by
 intro ac s b H Q I h;refine wpAny_Call_method m.base m.Qi m.line af2 ť PySem.F.type_dict_get (PY (ho ac s b H _ I h) λu s1 N=>?_);obtain⟨x,P,c,O,a,ex,d,G⟩:=N;subst ex;obtain rfl:u=Qu a:=O;obtain⟨E,C,_⟩:=GI c d;refine⟨E,C,?_⟩;rw[m.trees];refine af6 rfl (ŝ (ρ (PY (he ac s1 b P _ c G) λS s2 R=>QK R λy J j p D=>
  ρ (PY (hf ac s2 b J _ j D) λW s3 ⟨z,L,t,v,T,g,n⟩=>Ş ?_))))
 exact GJ hu t g p v λU s4 M w=>⟨_,L,M,w,n⟩
section
variable {κ:Type} [DecidableEq κ]
end
def bQ (h:Ps)(ks:List Int)(a:D'):Prop:=∃items:Array G',h.IsTuple a items/\PR (λv (k:Int)=>∃t,v=Ru k t) items.toList ks
def dB (h:Ps)(QD:List (List Int))(a:D'):Prop:=∃items:Array G',h.IsTuple a items/\PR (λv ks=>∃b,v=Qu b/\bQ h ks b) items.toList QD
theorem wX {h:Ps}(x:h.IsTuple a i)(y:h.IsTuple a j):i=j:=by
 obtain⟨o,e,_,n,d⟩:=x;obtain⟨f,b,_,c,d'⟩:=y;rw[e] at b;cases b;rw[d] at d';injection d'
theorem bQ.inj (p:bQ h x a)(q:bQ h y a):x=y:=by
 obtain⟨i,t,r⟩:=p;obtain⟨j,t',d⟩:=q;have:=wX t t';subst this;exact YJ (F:=λv (k:Int)=>∃t,v=Ru k t) (λ_ _ _ ⟨_,c⟩ ⟨_,b⟩=>by rw[c] at b;cases b;rfl) r d
theorem dB.inj (p:dB h x a)(q:dB h y a):x=y:=by
 obtain⟨i,t,r⟩:=p;obtain⟨j,t',e⟩:=q;have:=wX t t';subst this;exact YJ (F:=λv ks=>∃b,v=Qu b/\bQ h ks b) (λ_ _ _ ⟨_,d,g⟩ ⟨_,c,f⟩=>by rw[d] at c;cases c;exact g.inj f) r e
theorem qX {es ep}(x:h.IsTuple a i)(ho:h.get? d=some o)(hd:o.data=.dict es ep)(hs:UX d h h'):h'.IsTuple a i:=by
 obtain⟨b,e,c,n,d'⟩:=x;refine⟨b,(hs.2 a ?_).trans e,c,n,d'⟩;rintro rfl;rw[e] at ho;cases ho;rw[d'] at hd;cases hd
theorem bQ.keeps {es ep}(p:bQ h x a)(ho:h.get? d=some o)(hd:o.data=.dict es ep)(hs:UX d h h'):bQ h' x a:=
 let ⟨i,t,r⟩:=p;⟨i,qX t ho hd hs,r⟩
theorem dB.keeps {es ep}(p:dB h x a)(ho:h.get? d=some o)(hd:o.data=.dict es ep)(hs:UX d h h'):dB h' x a:=
 let ⟨i,t,r⟩:=p;⟨i,qX t ho hd hs,bf (λ_ _ ⟨b,e,q⟩=>⟨b,e,q.keeps ho hd hs⟩) r⟩
theorem ux {A:P7}{s:N'}{α:Type}[DecidableEq α]{F:G'->α->Prop}{us vs:Array G'}{as bs:List α}(p:PR F us.toList as)(q:PR F vs.toList bs)(h:∀u v a b,F u a->F v b->VM A s u v (decide (a=b))):
  ∀j (h1:j<us.size) (h2:j<vs.size),VM A s us[j] vs[j] (decide (as[j]?=bs[j]?)):=by
 intro j h1 h2;obtain⟨a,f,d⟩:=cB (i:=j) (a:=us[j]) p (by simp[h1]);obtain⟨b,c,g⟩:=cB (i:=j) (a:=vs[j]) q (by simp[h2]);rw[f,c];have e:decide (some a=some b)=decide (a=b):=by
  by_cases h:a=b
  .subst h;simp
  .simp[h]
 rw[e];exact h _ _ _ _ d g
theorem Ed (hu:A.units<Qv)(p:bQ s.heap x a)(q:bQ s.heap y b):VM A s (.ref a) (.ref b) (decide (x=y)):=by
 by_cases e:a=b
 .subst e;have:=p.inj q;subst this;rw[Qk rfl];exact ë _
 .obtain⟨i,t,r⟩:=p;obtain⟨j,t',c⟩:=q;refine Ĭ e ?_;have h:=ĭ (A:=A) (e:=λk=>decide (x[k]?=y[k]?)) t t' hu (ux r c λu v a b ⟨_,d⟩ ⟨_,f⟩=>by
   subst d f;rw[<-iB];exact ī _ _ _ _)
  rw[jH (by rw[<-RT,r.length]) (by rw[<-RT,c.length])] at h;exact h
theorem GM (hu:A.units+1<Qv)(p:dB s.heap x a)(q:dB s.heap y b):VM A s (.ref a) (.ref b) (decide (x=y)):=by
 by_cases e:a=b
 .subst e;have:=p.inj q;subst this;rw[Qk rfl];exact ë _
 .obtain⟨i,t,r⟩:=p;obtain⟨j,t',c⟩:=q;refine Ĭ e ?_;have h:=ĭ (A:=A) (e:=λk=>decide (x[k]?=y[k]?)) t t' (by lia) (ux r c λu v a b ⟨_,d,m⟩ ⟨_,g,f⟩=>by
   subst d g;exact Ed (A:=A.in1) hu m f)
  rw[jH (by rw[<-RT,r.length]) (by rw[<-RT,c.length])] at h;exact h
theorem ĳ:∀{vs:List G'}{ks:List Int},PR (λv (k:Int)=>∃t,v=Ru k t) vs ks->ItemsAre (intKind prog w) ks vs
 | _,_,.nil=>.nil
 | _,_,.cons ⟨t,e⟩ r=>by
  subst e;exact .cons (by simp[intKind,Ë]) (ĳ r)
theorem bQ.key (p:bQ h ks a):IsTupleKey (intKind prog w) h ks a:=by
 obtain⟨i,⟨o,e,c,n,d⟩,r⟩:=p;exact⟨o,i,n,e,c,d,ĳ r⟩
noncomputable def gQ (ks:List Int):Int:=reduceHash (Y0 (ks.map hashInt))
noncomputable def jI (QD:List (List Int)):Int:=reduceHash (Y0 (QD.map gQ))
noncomputable def nG (QD:List (List Int)):Nat:=(QD.map λks=>ks.length+1).sum+1
theorem gh {s:N'}(x:s.heap.IsTuple a i):s.TypeIs (.ref a) "tuple":=let ⟨o,e,c,_⟩:=x;⟨o,e,c⟩
theorem qY (hu:A.units<Qv)(hk:bQ s.heap ks a)(h:Q (gQ ks) { s with toks:=s.toks+(ks.length+1) }):Pq (Px prog w) A (pyHash (.ref a)) Q E s:=
 wpAny_pyHash_tuple (knd:=intKind prog w) hu hk.key h
theorem yF (hu:A.units+1<Qv)(hk:dB s.heap QD a)(h:Q (jI QD) { s with toks:=s.toks+nG QD }):Pq (Px prog w) A (pyHash (.ref a)) Q E s:=by
 obtain⟨items,p,t⟩:=hk;have f:=gh p;obtain⟨o,u,y,n,hd⟩:=p;unfold pyHash
 first|unfold pyHashByItsType|skip
 first|refine Pm (wpAny_cRoomFor_or (.inr (by lia)) ?_)|skip
 refine Pm (Zf f Þ.lookup ?_);show Pq _ _ (if (some (Zm "tuple.__hash__")==some Xu)=true then _ else _) Q E s;rw[Pr (by rw[beq_builtin_none];exact TQ)];refine Pm (Zf f Þ.lookup ?_);show Pq _ _ (callSpecialIfBoundUnlessNone? (.ref a) "__hash__" _ >>= _) Q E s;refine Pm (wpAny_callSpecialIfBoundUnlessNone?_slot f Þ (UU Þ f F.entry_tuple_hash ?_ (F.args_tuple_hash_1 _)));show Pq _ _ (afO (.ref a) >>= _) _ _ s;refine Pm (wpAny_tupleItemsOf u hd ?_);refine Pm ?_;rw[<-Ú];refine UB _
  (λrest (b:Array Int) m=>∃done left,QD=done++left/\PR (λv ks=>∃b,v=Qu b/\bQ s.heap ks b) rest left/\b.toList=done.map gQ/\m={ s with toks:=s.toks+(done.map λks=>ks.length+1).sum })
  _ ?_ ?_ _ _ ⟨[],QD,rfl,t,rfl,rfl⟩
 .rintro x rest b m ⟨done,left,rfl,g,e,rfl⟩;cases g with
  | @cons _ ks _ ae0 j hl'=>
   obtain⟨c,rfl,j⟩:=j;refine Pm (qY (A:=A.in1) hu j ?_)
   first
    | exact Pu ⟨done++[ks],ae0,by simp,hl',by simp[e],by simp[ġ]⟩
    | exact Pm (Pu (Pu ⟨done++[ks],ae0,by simp,hl',by simp[e],by simp[ġ]⟩))
 .rintro b m ⟨done,left,rfl,g,e,rfl⟩;cases g;rw[Vg] at h;show Pq _ _ (retInt (Y0 b.toList)) _ _ _;rw[e];refine wpAny_ret_mkInt ?_;show Pq _ _ (if (decide (-(2:Int) ^ 63<=Y0 (done.map gQ))&&decide (Y0 (done.map gQ)<2 ^ 63))=true then _ else _) Q E _;unfold jI reduceHash nG at h
  by_cases d:(decide (-(2:Int) ^ 63<=Y0 (done.map gQ))&&decide (Y0 (done.map gQ)<2 ^ 63))=true
  .rw[PK d];rw[PK d] at h;exact Pu (by simpa [ġ] using h)
  .rw[Pr d];rw[Pr d] at h;exact Pm (Tj (Pu (by simpa [ġ] using h)))
theorem uy (n:Nat)(tp:s.heap.IsTuple a items)(hv:∀v∈items.toList,∀(Q:Bool->N'->Prop),Q true s->Pq (Px prog w) A (eqIsQuiet n v) Q E s)(h:Q true s):
  Pq (Px prog w) A (eqIsQuiet (n+1) (.ref a)) Q E s:=by
 have f:=gh tp;obtain⟨o,g,j,m,hd⟩:=tp;unfold eqIsQuiet;refine Pm (Zf f F.slot_tuple_eq.lookup ?_);show Pq _ _ (isInstance (.ref a) (.type "tuple") >>= _) _ _ s;refine Pm (þ f isSubtype_tuple_tuple ?_);simp only[Ui,Q7,if_false];refine Pm (Ā g hd ?_);refine Pm ?_;show Pq _ _ (forIn items _ _) _ _ s;rw[<-Ú];refine UB _ (λrest r c=>r.1=none/\c=s/\∀v∈rest,v∈items.toList) _ ?_ ?_ _ _ ⟨rfl,rfl,λv hv=>hv⟩
 .rintro v rest r c ⟨b,rfl,e⟩;refine Pm (hv v (e v Qa) _ ?_);simp only[Ui,Q7,if_false];exact Pu ⟨rfl,rfl,λu d=>e u (Qr _ d)⟩
 .rintro⟨r1,r2⟩ c ⟨b,rfl,_⟩;simp only at b;subst b;exact Pu h
theorem fK {α β:Type}{F:α->β->Prop}:∀{Se:List α}{Sf:List β},PR F Se Sf->∀a∈Se,∃b∈Sf,F a b
 | _,_,.nil,a,h=>by cases h
 | _,_,.cons r t,a,h=>by
  rcases Qe.mp h with rfl|h
  .exact⟨_,Qa,r⟩
  .obtain⟨b,m,q⟩:=fK t a h;exact⟨b,Qr _ m,q⟩
theorem uz (n:Nat)(hk:bQ s.heap ks a)(h:Q true s):Pq (Px prog w) A (eqIsQuiet (n+1) (.ref a)) Q E s:=by
 obtain⟨i,t,r⟩:=hk;refine uy n t (λv b c q=>?_) h;obtain⟨k,_,t',e⟩:=fK r v b;subst e;rw[eqIsQuiet_byValue n rfl];exact Pu q
theorem Am (n:Nat)(hk:dB s.heap QD a)(h:Q true s):Pq (Px prog w) A (eqIsQuiet (n+2) (.ref a)) Q E s:=by
 obtain⟨i,t,r⟩:=hk;refine uy (n+1) t (λv c d q=>?_) h;obtain⟨ks,_,b,e,g⟩:=fK r v c;subst e;exact uz n g q
noncomputable def iU (prog)(w):HeapKind prog w (List (List Int)) where
 is:=dB
 hash:=jI
 draws:=nG
 room:=λA=>A.units+1<Qv
 inj:=λp q=>p.inj q
 keeps:=λp ho hd hs=>p.keeps ho hd hs
 pyHash:=λhu hk h=>yF hu hk h
 eqBool:=λhu hx hy h=>GM hu hx hy _ _ _ _ h
 quiet:=λhk h=>Am 6 hk h
theorem mq {α β γ:Type}{F:α->β->Prop}{G:α->γ->Prop}{R:β->γ->Prop}(h:∀a b c,F a b->G a c->R b c):∀{l:List α}{m:List β}{n:List γ},PR F l m->PR G l n->PR R m n
 | _,_,_,.nil,.nil=>.nil
 | _,_,_,.cons r t,.cons d t'=>.cons (h _ _ _ r d) (mq h t t')
noncomputable abbrev aV:Dk (List Int):=Cu GF
noncomputable abbrev cu:Dk (List (List Int)):=Cu aV
theorem yG {σ:St}(I:Inv X ac σ H s)(h:aV.rep X.K H (.ref a) ks):bQ s.heap ks a:=by
 obtain⟨p,xs,e,q,r⟩:=h;cases e;obtain⟨d,v,t,_⟩:=I.tuple q;refine⟨d.toArray,t,?_⟩;exact mq (F:=aI) (G:=GF.rep X.K H) (λx u k c b=>by
  have b:x=V.int k:=b;subst b;exact c) v r
theorem lm {σ:St}(I:Inv X ac σ H s)(h:cu.rep X.K H (.ref a) QD):dB s.heap QD a:=by
 obtain⟨p,xs,e,q,r⟩:=h;cases e;obtain⟨d,v,t,_⟩:=I.tuple q;refine⟨d.toArray,t,?_⟩;exact mq (F:=aI) (G:=aV.rep X.K H) (λx u k c b=>by
  obtain⟨p,xs,e,q,r⟩:=id b;subst e;cases c;exact⟨p,rfl,yG I b⟩) v r
abbrev T9:=List (List (List Int)×D'×Int)
def PL (L:T9)(xs:List (List (List Int)×D'×G')):Prop:=PR (λ(p:List (List Int)×D'×Int) (q:List (List Int)×D'×G')=>p.1=q.1/\p.2.1=q.2.1/\∃t,q.2.2=Ru p.2.2 t) L xs
noncomputable def fL (d:D')(L:T9):HO:=.ext λh=>(d==R8)=false/\∃xs,PL L xs/\∃o es ep,h.get? d=some o/\o.ExactDict/\o.data=.dict es ep/\es.toList=xs.map (λx=>(⟨jI x.1,.ref x.2.1,x.2.2⟩:Ro))/\(xs.map (·.1)).Nodup
theorem wY (x:(d==R8)=false/\∃xs,PL L xs/\∃o es ep,h.get? d=some o/\o.ExactDict/\o.data=.dict es ep/\es.toList=xs.map (λx=>(⟨jI x.1,.ref x.2.1,x.2.2⟩:Ro))/\(xs.map (·.1)).Nodup):
  bt P w H h d (fL d L):=by
 refine⟨x,?_,λb c ⟨y,xs,p,o,es,ep,e,r⟩ k=>⟨y,xs,p,o,es,ep,k _ e,r⟩⟩;obtain⟨_,_,_,o,_,_,e,_⟩:=x;exact⟨o,e⟩
noncomputable def fq (L:T9)(k:List (List Int)):Option Int:=(L.find? λe=>decide (e.1=k)).map (·.2.2)
theorem tu:∀{L:T9}{xs:List (List (List Int)×D'×G')},PL L xs->(fq L k=none/\atKey xs k=none)\/∃n a t,fq L k=some n/\atKey xs k=some (a,.int n t)
 | _,_,.nil=>.inl ⟨rfl,rfl⟩
 | e::L,x::xs,.cons r t=>by
  obtain⟨k1,c,b⟩:=e;obtain⟨k2,p,s⟩:=x;obtain⟨g,h,f,d⟩:=r;dsimp only at g h d;subst g h d
  by_cases z:k1=k
  .subst z;exact .inr ⟨b,c,f,by simp[fq],by simp[atKey]⟩
  .have o:=tu (k:=k) t;have m:fq ((k1,c,b)::L) k=fq L k:=by simp[fq,z]
   have j:atKey ((k1,c,Ru b f)::xs) k=atKey xs k:=by simp[atKey,z]
   rw[m,j];exact o
def j6 (K:Po)(H:Hp)(L:T9):Prop:=∀e∈L,cu.rep K H (.ref e.2.1) e.1
theorem uA {σ:St}(I:Inv X ac σ H s)(e:H d=some (fL d L))(hk:j6 X.K H L):(d==R8)=false/\∃xs,PL L xs/\s.heap.DictOfH (iU X.prog X.w) d xs:=by
 obtain⟨⟨y,xs,p,o,es,ep,m,f,n,g,j⟩,_⟩:=(show bt X.prog X.w H s.heap d (fL d L) from I.PQ d _ e)
 refine⟨y,xs,p,o,es,ep,m,f,n,g,λx b=>?_,j⟩;have all:∀{L:T9}{xs:List (List (List Int)×D'×G')},j6 X.K H L->PL L xs->∀x∈xs,dB s.heap x.1 x.2.1:=by
  intro L xs hk p
  induction p with
  | nil=>intro x b;cases b
  | @cons e x L xs r t ih=>
   intro z hz;rcases Qe.mp hz with rfl|hz
   .have:=lm I (hk e Qa);rw[r.1,r.2.1] at this;exact this
   .exact ih (λh c=>hk h (Qr _ c)) z hz
 exact all hk p x b
def E6 (K:Po):R2:=λx y H Q=>∃d L b k,y=.ref d/\x=.ref b/\H d=some (fL d L)/\j6 K H L/\cu.rep K H (.ref b) k/\Q (.bl (!(fq L k).isSome)) H
theorem An (hu:X.A.units+2<Qv):QG X (R9 .NotIn) (E6 X.K):=by
 intro ac s C H x y v u Q I o g h;obtain⟨d,L,b,k,rfl,rfl,e,m,j,q⟩:=h;cases o;cases g;obtain⟨hd,xs,p,dd⟩:=uA I e m;refine wpAny_notIn_heap (knd:=iU X.prog X.w) (by show X.A.units+1+1<Qv;(first|trivial|lia)) (lm I j) hd dd ⟨.bl (!(fq L k).isSome),H,I.tok _,?_,q⟩;show _=UE _;rcases tu (k:=k) p with⟨f,c⟩|⟨n,a,t,f,c⟩
 .rw[f,c];rfl
 .rw[f,c];rfl
def KZ (K:Po)(td ty:TE):TE:=λσ H Q=>td σ H λx H1=>ty σ H1 λy H2=>∃d L b k n,x=.ref d/\y=.ref b/\H2 d=some (fL d L)/\j6 K H2 L/\cu.rep K H2 (.ref b) k/\fq L k=some n/\Q (.int n) H2
theorem E7 (hu:X.A.units+2<Qv)(ho:PE X o td)(hi:PE X i ty)(hs:ut i):PE X (.Subscript o i pos) (KZ X.K td ty):=by
 intro ac s m H Q I h;refine mj ď.lookup hs (PY (ho ac s m H _ I h) λu s1 R=>QK R λx O N M E=>PY (hi ac s1 m O _ N E) λS s2 J=>?_);obtain⟨y,G,f,v,d,L,b,k,n,ex,P,e,F,D,c,C⟩:=J;subst ex P;cases M;cases v;obtain⟨hd,xs,p,dd⟩:=uA f e F;refine⟨dd.typeIs,?_⟩;rcases tu (k:=k) p with⟨g,j⟩|⟨T,a,t,g,j⟩
 .rw[g] at c;cases c
 .rw[g] at c;cases c;exact wpAny_getItem_heap (knd:=iU X.prog X.w) (by show X.A.units+1+1<Qv;(first|trivial|lia)) (lm f D) dd j ⟨.int n,G,f.tok _,⟨t,rfl⟩,C⟩
def K0 (K:Po)(td ty tv:TE):TS:=λD σ H=>tv σ H λv H1=>td σ H1 λx H2=>ty σ H2 λy H3=>∃d L b k n,v=.int n/\x=.ref d/\y=.ref b/\H3 d=some (fL d L)/\j6 K H3 L/\cu.rep K H3 (.ref b) k/\fq L k=none/\L.length<PH/\
 D.nx σ (upd H3 d (fL d (L++[(k,b,n)])))
theorem E8 (hu:X.A.units+2<Qv)(ho:PE X o td)(hi:PE X i ty)(hv:PE X value tv)(hs:swapsWith value (some (.Subscript o i pos')) pos.line X.env=pure false):
  PS X (.Assign [.Subscript o i pos'] value pos) (K0 X.K td ty tv):=by
 intro ac s f H D I h;refine Ł (PY (hv ac s f H _ I h) λr s1 m=>QK m λv H1 I1 T W=>PY (ho ac s1 f H1 _ I1 W) λu s2 m=>QK m λx Z N rx S=>PY (hi ac s2 f Z _ N S) λiv s3 Qm=>?_) hs;obtain⟨y,H3,g,P,d,L,b,k,n,ev,ex,ey,e,Y,j,C,hl,O⟩:=Qm;subst ev ex ey;obtain⟨t,rfl⟩:=T;cases rx;cases P;obtain⟨hd,xs,p,dd⟩:=uA g e Y;have c:atKey xs k=none:=by
  rcases tu (k:=k) p with⟨F,c⟩|⟨n',a,t',F,c⟩
  .exact c
  .rw[F] at C;cases C
 refine wpAny_setItem_heap (knd:=iU X.prog X.w) (hsz:=by rw[<-Zi p];lia) (by show X.A.units+1+1<Qv;(first|trivial|lia)) (lm g j) dd λh' E M=>⟨f,_,?_,O⟩
 rw[storedH_new c] at E;obtain⟨R,es,ep,G,J,e3,Q,_,U⟩:=E;refine g.write (x:=d) (e:=d) (by rw[e];exact Ti) (.inl rfl) (λb q j z=>(M.2 b j).trans z) ⟨_,G⟩ (wY ⟨hd,_,dG p (.cons ⟨rfl,rfl,t,rfl⟩ .nil),R,es,ep,G,J,e3,Q,U⟩)
theorem Cv:PE X (.Dict [] [] pos) (λ_ H Q=>∀p,H p=none->Q (.ref p) (upd H p (fL p []))):=λac s b H Q I h=>
 wpAny_Dict_empty ⟨.ref s.heap.objs.size,_,I.laid (a:=s.heap.objs.size) (o:=fL s.heap.objs.size []) (t':=s.toks) (λ_ _ q=>Qn _ q) (P1 _)
  (wY ⟨beq_eq_false_iff_ne.mpr (QC (Qw I.ZM)),[],.nil,_,#[],0,Rb _ rfl,⟨rfl,rfl,rfl⟩,rfl,rfl,Zh⟩),rfl,h _ (I.PQ.fresh (P1 _))⟩
theorem Inv.freeze {σ:St}(I:Inv X ac σ H s)(e:H a=some (.dK kvs)):∃ob,(∃es ep,ob.data=.dict es ep)/\Inv X ac σ (upd H a (.Q2 ob (.dK kvs))) s:=by
 obtain⟨z,hd,vs,rel,dd⟩:=j5 I.PQ e;obtain⟨o,es,ep,d,f,c,r⟩:=id dd;refine⟨o,⟨es,ep,c⟩,?_⟩;have:=I.write (x:=a) (e:=a) (h':=s.heap) (t':=s.toks) (o:=.Q2 o (.dK kvs)) (by rw[e];exact Ti) (.inl rfl) (λb u _ q=>q) ⟨o,d⟩ ⟨d,z,hd,vs,rel,dd⟩;exact this
theorem uB {σ:St}(I:Inv X ac σ H s)(e:H a=some (.Q2 ob (.dK kvs)))(Vz:ob.data=.dict es ep):(a==R8)=false/\∃vs,KV kvs vs/\s.heap.DictAt (aY X.prog X.w) a vs ep:=by
 obtain⟨c,z,hd,vs,rel,j,h,g,d,f,b,r⟩:=(show bt X.prog X.w H s.heap a (.Q2 ob (.dK kvs)) from I.PQ a _ e)
 rw[c] at d;cases d;rw[Vz] at b;cases b;exact⟨hd,vs,rel,ob,es,c,f,Vz,r⟩
noncomputable def Itd (a:D')(ob:J')(kvs:List (Key×V)):It:=
 ⟨λi H=>H a=some (.Q2 ob (.dK kvs))/\i<kvs.length,λi H x H'=>H'=H/\∃kv,kvs[i]?=some kv/\x=kV kv.1,λi H=>H a=some (.Q2 ob (.dK kvs))/\kvs.length<=i⟩
theorem wZ (h:(aY P w).is k u=true):aI (kV k) u:=by
 rw[yd] at h;rcases ck h with⟨i,t,rfl,rfl⟩|⟨x,t,rfl,rfl⟩
 .exact⟨t,rfl⟩
 .exact⟨t,rfl⟩
theorem Ao {K:Po}(a it:D')(ob:J')(kvs:List (Key×V))(Vz:ob.data=.dict es ep):
  Turn P w K tg (Itd a ob kvs) [it] it (λi h=>h.IsKeyIter it a i kvs.length ep) where
 mem:=by simp
 obj:=λi h st b f=>by
  have e:b=it:=by simpa using f
  subst e;obtain⟨o,e,c,d⟩:=st;exact⟨o,e,λv z=>by rw[d] at z;cases z⟩
 keep:=λi h h' st k=>st.at λo e=>k it (by simp) o e
 item:=by
  intro X C x D L i ac s M H E I g st u;subst C x D;obtain⟨e,G⟩:=u;obtain⟨hd,vs,rel,dd⟩:=uB I e Vz;obtain⟨m,t,U,A,n,j⟩:=g it (by simp);have J:kvs[i]?=some kvs[i]:=Q5 G;obtain⟨⟨k,v⟩,T,S,_⟩:=cB (F:=λ(p:Key×V) (q:Key×G')=>p.1=q.1/\aI p.2 q.2) rel J;rw[rel.length] at st;refine wpAny_pyNext_dict_item (knd:=aY X.prog X.w) st dd T λkey h' O y N=>?_;have W:Inv X ac M H { s with heap:=h' }:=I.turned (t':=s.toks) (λb o f e=>(N.2 b f).trans e) m t A n j;obtain⟨o,R,c,d⟩:=id y;rw[<-rel.length] at y;exact⟨key,rfl,sW (s:={ s with heap:=h' }) R c d (by decide) ⟨kV k,H,W,wZ O,⟨rfl,kvs[i],J,by rw[S]⟩,y,λb f=>(g b f).1⟩⟩
 done:=by
  intro X C x D L i ac s M H E I g st u;subst C x D;obtain⟨e,G⟩:=u;obtain⟨hd,vs,rel,dd⟩:=uB I e Vz;obtain⟨m,t,U,A,n,j⟩:=g it (by simp);have Y:=rel.length;rw[rel.length] at st;exact wpAny_pyNext_dict_end (knd:=aY X.prog X.w) (I.ok.hd L) st dd (Ů (by lia)) λh' Q=>⟨rfl,I.turned (t':=s.toks) (λb o f e=>Q b o f e) m t A n j⟩
 self:=λ_ _ _ _ _ st h=>wpAny_pyIter_keyiter st h
def K1 (tl:TE):TI:=λσ H R=>tl σ H λx H1=>∃a kvs,x=.ref a/\H1 a=some (.dK kvs)/\∀ob,R (Itd a ob kvs) (upd H1 a (.Q2 ob (.dK kvs)))
theorem E9 (hl:PE X l tl):PI X tg l (K1 tl):=by
 intro ac s n H R I h;refine PY (hl ac s n H _ I h) λv s1 j=>?_;obtain⟨x,p,m,r1,a,kvs,ex,f,q⟩:=j;subst ex;cases r1;obtain⟨ob,⟨es,ep,d⟩,c⟩:=m.freeze f;obtain⟨hd,vs,rel,dd⟩:=uB c ak d;refine wpAny_pyIter_dict (knd:=aY X.prog X.w) hd dd ?_;refine⟨s1.heap.objs.size,[s1.heap.objs.size],_,_,_,rfl,c.kept (t':=s1.toks) λb o e=>Qn _ e,Ao a _ ob kvs d,⟨_,Rb _ rfl,rfl,by rw[rel.length];rfl⟩,λb g=>?_,q ob⟩;have e:b=s1.heap.objs.size:=by simpa using g
 subst e;exact c.aaw (P1 _) (c.PQ.fresh (P1 _))
theorem Ap (Pv:Nat->List V->Hp->Prop)(h0:Pv 0 [] H)(hl:∀i ys H,i<=kvs.length->Pv i ys H->H a=some (.Q2 ob (.dK kvs))/\ys.length<=i)(hz:kvs.length<=PH)(hs:∀i kv ys H,kvs[i]?=some kv->Pv i ys H->tt (some (kV kv.1)::σ) H λb H4=>if b=true then te (some (kV kv.1)::σ) H4 λy H5=>Pv (i+1) (ys++[y]) H5 else Pv (i+1) ys H4)(hd:∀ys H p,Pv kvs.length ys H->H p=none->Q (.ref p) (upd H p (.lst ys))):oC (Itd a ob kvs) σ tt te Q H:=by
 refine⟨λi m ys H=>m=kvs.length-i/\i<=kvs.length/\Pv i ys H,⟨kvs.length,by simp,RA _,h0⟩,?_⟩;rintro i m ys d ⟨rfl,f,p⟩;obtain⟨q,n⟩:=hl i ys d f p
 by_cases c:i<kvs.length
 .refine .inr ⟨⟨q,c⟩,by lia,Pv (i+1),λj o h=>⟨kvs.length-(i+1),by lia,rfl,c,h⟩,λx s y=>?_⟩;obtain⟨e,kv,y,ex⟩:=y;subst e ex;exact hs i kv ys _ y p
 .have e:i=kvs.length:=by lia
  subst e;exact .inl ⟨⟨q,P1 _⟩,by lia,λb g=>hd ys d b p g⟩
theorem qc (hc:X.calm=true):cF X (.type "list") (λxs H Q=>∃p kvs,xs=[.ref p]/\H p=some (.dK kvs)/\∀l,H l=none->Q (.ref l) (upd H l (.lst (kvs.map λkv=>kV kv.1)))):=by
 intro ac s L H xs us Q I r h;obtain⟨p,kvs,rfl,E,q⟩:=h;obtain⟨u,rfl,j⟩:=dc r;cases j;obtain⟨z,hd,vs,rel,dd⟩:=j5 I.PQ E;obtain⟨ep,m⟩:=dd.dictAt;refine W.kdl_call (W.kdl_dict (knd:=aY X.prog X.w) hd) (I.ok.hd hc) m (by rw[<-rel.length];exact z) λh' G c A n y b=>?_;refine⟨.ref s.heap.objs.size,_,I.laid (o:=.lst (kvs.map λkv=>kV kv.1)) n (P1 _) ⟨by rw[Qx];exact z,c.toList,A,?_,by simpa using y⟩,rfl,q _ (I.PQ.fresh (P1 _))⟩;refine mY (by have J:=b.1;have M:=rel.length;simp;lia) λi x u d e=>?_;have D:c[i]?=some u:=by simpa using e
 obtain⟨k,v,C,f⟩:=b.2 i u D;obtain⟨kv,t,g,_⟩:=gJ (F:=λ(p:Key×V) (q:Key×G')=>p.1=q.1/\aI p.2 q.2) rel C;rw[So,t] at d;cases d;show aI (kV kv.1) u;rw[show kv.1=k from g];exact wZ f
def K3:V->List V->Hp->VK->Prop:=λo vs H Q=>∃p kvs k v,o=.ref p/\vs=[kV k,v]/\H p=some (.dK kvs)/\kvs.length<PH/\(∀y,cj kvs k=some y->Q y H)/\(cj kvs k=none->Q v (upd H p (.dK (du kvs k v))))
theorem sS:MtR X "dict.setdefault" K3:=by
 intro ac s G H o vs v us Q I A u h;obtain⟨p,kvs,k,y,rfl,rfl,d,D,x,n⟩:=h;cases A;obtain⟨E,j,rfl,r1,r2⟩:=u.two;obtain⟨z,hd,C,rel,dd⟩:=j5 I.PQ d;refine call_meetsIn afD dd.typeIs PySem.F.entry_dict_setdefault (PySem.F.args_dict_setdefault_3 _ _ _) (kt_meets_setdefault (aY X.prog X.w) p (ig r1) hd j) ⟨C,dd,by rw[<-rel.length];exact z,λJ t=>?_,λm h' c f=>?_⟩
 .have b:=rel.val k;rw[t] at b;cases e:cj kvs k with
  | none=>rw[e] at b;exact b.elim
  | some y'=>
   rw[e] at b;exact⟨y',H,I.tok _,b,x y' e⟩
 .have b:=rel.val k;rw[m] at b;have e:cj kvs k=none:=by
   cases e:cj kvs k with
   | none=>rfl
   | some y'=>rw[e] at b;exact b.elim
  have g:∃q,h'.get? p=some q:=let ⟨q,_,_,hq,_⟩:=c;⟨q,hq⟩;exact⟨y,_,mh I (by rw[d];exact Ti) f g (oI (by have:=gK kvs k y;lia) hd (rel.put k r2) c),r2,n e⟩
theorem w4:Ss κ xs 1:=λi j c b=>by
 obtain rfl:i=0:=by lia
 obtain rfl:j=0:=by lia
 exact Ç _
theorem Fa (h:Ss κ xs x)(hx:1<=x)(hl:κ.kle (KK κ xs (x-1)) (KK κ xs x)):Ss κ xs (x+1):=λi j b c=>by
 rcases SG j x with z|z
 .exact h i j b z
 obtain rfl:j=x:=by lia
 rcases SG i j with y|y
 .exact Ē (h i (j-1) (by lia) (by lia)) hl
 obtain rfl:i=j:=by lia
 exact Ç _
theorem mv (h:Vk κ xs x)(hx:1<=x)(hl:κ.kle (KK κ xs x) (KK κ xs (x-1))):Vk κ xs (x+1):=λi j b c=>by
 rcases SG j x with z|z
 .exact h i j b z
 obtain rfl:j=x:=by lia
 rcases SG i j with y|y
 .exact Ē hl (h i (j-1) (by lia) (by lia))
 obtain rfl:i=j:=by lia
 exact Ç _
theorem uC (e:∀k,KK κ ys k=KK κ xs k)(h:Vk κ xs n):Vk κ ys n:=λi j c b=>by
 have:=h i j c b;rw[<-e,<-e] at this;exact this
theorem Fb:Vk κ xs 1:=λi j c b=>w4 j i (by lia) (by lia)
theorem Cw (h:Vk κ xs n)(hn:n<=xs.size):Ss κ (mirror xs 0 n ((n-0) / 2)) n:=λi j c b=>by
 rw[KK_mirror hn,KK_mirror hn,PK ⟨by lia,by lia⟩,PK ⟨by lia,by (first|trivial|lia)⟩];exact h _ _ (by lia) (by lia)
structure Sb (kd:aal)(Qo)(st):Prop where
 perm:(Qj st).Perm Qo
 kind:kindOf st=kd
 failed:failedOf st=none
 pend:pendingOf st=#[]
theorem Sb.sz {st:SS}(h:Sb kd Qo st):(Qj st).size=Qo.size:=h.perm.size_eq
theorem Sb.arr {st:SS}(h:Sb kd Qo st)(p:xs.Perm (Qj st)):Sb kd Qo (setArr st xs):=⟨p.trans h.perm,h.kind,h.failed,h.pend⟩
def XT (prog:PU)(w:Pz)(A:P7)(E:G'->N'->Prop)(s:N')(κ:To)(kd:aal)(Qo:Array Vm):Prop:=
 ∀(st:SS) (i j:Nat) (Q:Option Bool->SS->Prop),Sb kd Qo st->i<Qo.size->j<Qo.size->Q (some (κ.blt (KK κ (Qj st) i) (KK κ (Qj st) j))) st->wpS (Px prog w) A E s (ltAt' i j) Q st
theorem Ee (C:XT prog w A E s κ kd Qo){st:SS}(hm:m<=Qo.size)(ha:1<=a)(ham:a<=m)(B:Sb kd Qo st)(hs:Ss κ (Qj st) a)(h:∀n,a<=n->n<=m->Ss κ (Qj st) n->(n=m\/κ.klt (KK κ (Qj st) n) (KK κ (Qj st) (n-1)))->Q (none,n) st):wpS (Px prog w) A E s (ascLoop a m) Q st:=by
 refine Å (λx c b=>b=st/\c=(none,x)/\Ss κ (Qj st) x) (λx c b g j ⟨f,d,r⟩=>?_) (λc b ⟨f,d,r⟩=>?_) ⟨rfl,rfl,hs⟩
 .subst f d;refine Rw (C _ _ _ _ B (by lia) (by lia) ?_);cases e:κ.blt (KK κ (Qj b) x) (KK κ (Qj b) (x-1)) with
  | true=>exact Sz (h x g (by lia) r (.inr e))
  | false=>exact Sz ⟨rfl,rfl,Fa r (by lia) e⟩
 .subst f d;have z:max a m=m:=by lia
  rw[z] at r ⊢;exact h m ham (P1 _) r (.inl rfl)
theorem Aq (C:XT prog w A E s κ kd Qo){st:SS}(hm:m<=Qo.size)(h1:1<=n)(hn:n<=m)(B:Sb kd Qo st)(hs:Vk κ (Qj st) n)(h:∀k P0,Sb kd Qo P0->1<=k->k<=m->Ss κ (Qj P0) k->Q (some k) P0):wpS (Px prog w) A E s (tail3 n m) Q st:=by
 have b:=B.arr (ă (Qj st) 0 n ((n-0) / 2));exact Rw (ą (Rw (Ee C hm h1 hn b (Cw hs (by rw[B.sz];lia)) λk k1 k2 r _=>Sz (h k _ b (by lia) k2 r))))
theorem GN (C:XT prog w A E s κ kd Qo){st:SS}(hm:m<=Qo.size)(h1:1<=n)(hn:n<=m)(B:Sb kd Qo st)(hs:Vk κ (Qj st) n)(h:∀k q P0,Sb kd Qo P0->n<=k->k<=m->Vk κ (Qj P0) k->q+1<=k->(∀i,k-(q+1)<=i->i<k->KK κ (Qj P0) i=KK κ (Qj P0) (k-1))->Q (none,k,q) P0):
  wpS (Px prog w) A E s (descLoop n m) Q st:=by
 have last:∀(ys:Array Vm) (k:Nat),∀i,k+1-(0+1)<=i->i<k+1->KK κ ys i=KK κ ys (k+1-1):=λys k i a b=>by
  obtain rfl:i=k:=by lia
  rfl
 refine Å (λx c P0=>∃q,c=(none,x,q)/\Sb kd Qo P0/\Vk κ (Qj P0) x/\q+1<=x/\∀i,x-(q+1)<=i->i<x->KK κ (Qj P0) i=KK κ (Qj P0) (x-1))
  (λx c P0 j p ⟨q,e,d,r,f,eq⟩=>?_) (λc P0 ⟨q,e,d,r,f,eq⟩=>?_) ⟨0,rfl,B,hs,by (first|trivial|lia),λi a b=>by obtain rfl:i=n-1:=(by lia);rfl⟩
 .subst e;have sz:x<=(Qj P0).size:=by rw[d.sz];lia
  refine Rw (C _ x (x-1) _ d (by lia) (by lia) ?_);cases e:κ.blt (KK κ (Qj P0) x) (KK κ (Qj P0) (x-1)) with
  | true=>
   have g:=mv r (by lia) (đ e);show wpS _ _ _ _ (if q > 0 then _ else _) _ _;rcases bY q with z|z
   .rw[Pr (by lia)];exact Sz ⟨0,rfl,d,g,by lia,last _ _⟩
   .rw[PK z];exact Rw (ą (Sz ⟨0,rfl,d.arr (ă _ _ _ _),uC (ŉ sz eq) g,by lia,last _ _⟩))
  | false=>
   refine Rw (C _ (x-1) x _ d (by lia) (by lia) ?_);cases e2:κ.blt (KK κ (Qj P0) (x-1)) (KK κ (Qj P0) x) with
   | true=>exact Sz (h x q P0 d j (by lia) r f eq)
   | false=>
    have one:KK κ (Qj P0) x=KK κ (Qj P0) (x-1):=agm e2 e;refine Sz ⟨q+1,rfl,d,mv r (by lia) e2,by lia,λi t o=>?_⟩;rw[show x+1-1=x from rfl];rcases SG i x with z|z
    .rw[one];exact eq i (by lia) z
    .obtain rfl:i=x:=by lia
     rfl
 .subst e;have z:max n m=m:=by lia
  rw[z] at r f eq ⊢;exact h m q P0 d hn (P1 _) r f eq
theorem Ar (C:XT prog w A E s κ kd Qo){st:SS}(hm:m<=Qo.size)(hn:n+1<=m)(B:Sb kd Qo st)(hs:Vk κ (Qj st) (n+1))(h:∀k P0,Sb kd Qo P0->1<=k->k<=m->Ss κ (Qj P0) k->Q (some k) P0):wpS (Px prog w) A E s (descPart n m) Q st:=by
 refine Rw (wpS_lift (Tj ⟨rfl,Rw (GN C hm (by lia) hn B hs λk q P0 b k1 k2 r c eq=>?_)⟩));show wpS _ _ _ _ (if q > 0 then _ else _) _ _;rcases bY q with z|z
 .rw[Pr (by lia)];exact Aq (n:=k) C hm (by lia) k2 b r h
 .rw[PK z];exact Rw (ą (Aq (n:=k) C hm (by lia) k2 (b.arr (ă _ _ _ _)) (uC (ŉ (j:=k) (by rw[b.sz];lia) eq) r) h))
theorem K4 (C:XT prog w A E s κ kd Qo){st:SS}(hm:m<=Qo.size)(h1:1<=m)(B:Sb kd Qo st)(h:∀k P0,Sb kd Qo P0->1<=k->k<=m->Ss κ (Qj P0) k->Q (some k) P0):wpS (Px prog w) A E s (countRun' 0 m) Q st:=by
 rw[countRun0_eq];refine Rw (Ee C hm (P1 1) h1 B w4 λn c d r o=>?_);dsimp only;rcases SG n m with z|z
 case inr=>
  rw[PK (by simp;lia)];exact Sz (h n st B c d r)
 rw[Pr (by simp;lia)];have less:κ.klt (KK κ (Qj st) n) (KK κ (Qj st) (n-1)):=o.resolve_left (by lia);rcases SG 1 n with y|y
 case inr=>
  rw[Pr (by lia)];obtain rfl:n=1:=by lia
  exact Ar C hm (by (first|trivial|lia)) B (mv Fb (P1 1) (đ less)) h
 rw[PK y];refine Rw (C _ _ _ _ B (by lia) (by lia) ?_);cases e:κ.blt (KK κ (Qj st) 0) (KK κ (Qj st) (n-1)) with
 | true=>exact Sz (h n st B c d r)
 | false=>
  have all:∀k,0<=k->k<n->KK κ (Qj st) k=KK κ (Qj st) (n-1):=λk _ g=>
   agm (r k (n-1) (by lia) (by lia)) (Ē (show κ.kle _ _ from e) (r 0 k (by (first|trivial|lia)) g))
  have f:Vk κ (Qj st) n:=λi j a b=>by
   rw[all i (by lia) (by lia),all j (by lia) b];exact Ç _
  exact Rw (ą (Ar C hm (by (first|trivial|lia)) (B.arr (ă _ _ _ _)) (uC (ŉ (by rw[B.sz];lia) all) (mv f c (đ less))) h))
theorem Fc (h:Ss κ xs k)(hk:k<xs.size)(hl:l<=k)(lo:∀i,i<l->κ.kle (KK κ xs i) (KK κ xs k))(hi:∀i,l<=i->i<k->κ.klt (KK κ xs k) (KK κ xs i)):
  Ss κ (bubble xs k (k-l)) (k+1):=by
 have at_:∀i,i<k+1->KK κ (bubble xs k (k-l)) i=if i<l then KK κ xs i else if i=l then KK κ xs k else KK κ xs (i-1):=λi d=>by
  rw[KK_bubble hk (by lia),show k-(k-l)=l by lia];rcases ω i l with z|z|z
  .rw[Pr (by lia),Pr (by lia),PK z]
  .rw[PK z,Pr (by lia),PK z]
  .rw[Pr (by lia),PK (by lia),Pr (by lia),Pr (by lia)]
 intro i j b c;rw[at_ i (by lia),at_ j c];rcases ω j l with z|z|z
 .rw[PK (by lia),PK z];exact h i j b (by lia)
 .rw[Pr (show ¬j<l by lia),PK z];rcases SG i l with y|y
  .rw[PK y];exact lo i y
  .rw[Pr (by lia),PK (by lia)];exact Ç _
 .rw[Pr (show ¬j<l by lia),Pr (show ¬j=l by lia)];rcases ω i l with y|y|y
  .rw[PK y];exact h i (j-1) (by lia) (by lia)
  .rw[Pr (by lia),PK y];exact đ (hi (j-1) (by lia) (by lia))
  .rw[Pr (by lia),Pr (by lia)];exact h (i-1) (j-1) (by lia) (by lia)
theorem Cy (C:XT prog w A E s κ kd Qo){st:SS}(hn:n<=Qo.size)(Wz:1<=ok)(PQ:ok<=n)(B:Sb kd Qo st)(hs:Ss κ (Qj st) ok)(h:∀P0,Sb kd Qo P0->Ss κ (Qj P0) n->Q true P0):wpS (Px prog w) A E s (binarySort' 0 n ok) Q st:=by
 rw[binarySort'_eq];simp only[ħ];have y:max ok 1=ok:=by lia
 rw[y];refine Rw (wpS_mono (Å (λk c P0=>c=(none,())/\Sb kd Qo P0/\Ss κ (Qj P0) k) (Q:=λc P0=>c=(none,())/\Sb kd Qo P0/\Ss κ (Qj P0) n)
  (λk c P0 k1 k2 ⟨e,d,r⟩=>?step) (λc P0 ⟨e,d,r⟩=>?fin) ⟨rfl,B,hs⟩) λc P0 ⟨e,d,r⟩=>?post)
 case step=>
  subst e;refine Rw (wpS_mono (Å (λx c b=>b=P0/\∃l u,c=(none,l,u)/\l<=u/\u<=k/\u-l<=k-x/\(∀i,i<l->κ.kle (KK κ (Qj P0) i) (KK κ (Qj P0) k))/\∀i,u<=i->i<k->κ.klt (KK κ (Qj P0) k) (KK κ (Qj P0) i))
   (Q:=λc b=>b=P0/\∃l u,c=(none,l,u)/\l<=k/\(∀i,i<l->κ.kle (KK κ (Qj P0) i) (KK κ (Qj P0) k))/\∀i,l<=i->i<k->κ.klt (KK κ (Qj P0) k) (KK κ (Qj P0) i))
   (λx c b _ D ⟨j,l,u,g,m,o,v,lo,f⟩=>?acS) (λc b ⟨j,l,u,g,m,o,v,lo,f⟩=>?ahn) ⟨rfl,0,k,rfl,by lia,by lia,by lia,λi z=>by (first|trivial|lia),λi t p=>by lia⟩) λc b ⟨j,l,u,g,m,lo,f⟩=>?acT)
  case acS=>
   subst j g;dsimp only;rcases SG l u with z|z
   case inr=>
    rw[PK z];obtain rfl:l=u:=by lia
    exact Sz ⟨rfl,l,l,rfl,o,lo,f⟩
   rw[Pr (by lia)];have mid:l<=(l+u) / 2/\(l+u) / 2<u:=by lia
   refine Rw (C _ k ((l+u) / 2) _ d (by lia) (by lia) ?_);cases e:κ.blt (KK κ (Qj b) k) (KK κ (Qj b) ((l+u) / 2)) with
   | true=>exact Sz ⟨rfl,l,(l+u) / 2,rfl,by lia,by lia,by lia,lo,λi t p=>KeyOrd.klt_of_klt_of_kle e (r _ _ t p)⟩
   | false=>exact Sz ⟨rfl,(l+u) / 2+1,u,rfl,by lia,by (first|trivial|lia),by lia,λi z=>Ē (r i ((l+u) / 2) (by lia) (by lia)) e,f⟩
  case ahn=>
   subst j g;have z:max 0 k=k:=by (first|trivial|lia)
   rw[z] at v;obtain rfl:l=u:=by lia
   exact⟨rfl,l,l,rfl,o,lo,f⟩
  case acT=>
   subst j g;show wpS _ _ _ _ (do moveDown' k l;pure (Ze (none,()))) _ _;rw[moveDown'_eq];exact Rw (wpS_modify (Sz ⟨rfl,d.arr (bubble_perm _ _ _),Fc r (by rw[d.sz];lia) m lo f⟩))
 case fin=>
  subst e;have z:max ok n=n:=by lia
  rw[z] at r;exact⟨rfl,d,r⟩
 case post=>
  subst e;exact Sz (h P0 d r)
theorem GO (C:XT prog w A E s κ kd Qo){st:SS}(B:Sb kd Qo st)(h2:2<=Qo.size)(WE:Qo.size<64)(h:∀P0,(Qj P0).Perm Qo->failedOf P0=none->Ss κ (Qj P0) Qo.size->Q () P0):wpS (Px prog w) A E s sortRuns' Q st:=by
 let Fin:SS->Prop:=λP0=>(Qj P0).Perm Qo/\failedOf P0=none/\pendingOf P0=#[(0,Qo.size,0)]/\Ss κ (Qj P0) Qo.size;have fin:∀P0,Sb kd Qo P0->Ss κ (Qj P0) Qo.size->Fin (setPending P0 ((pendingOf P0).push (0,Qo.size,0))):=λP0 j r=>⟨j.perm,j.failed,by show(pendingOf P0).push _=_;rw[j.pend];rfl,r⟩
 have u:minRun' Qo.size Qo.size 0=Qo.size:=by
  obtain⟨f,hf⟩:∃f,Qo.size=f+1:=⟨Qo.size-1,by lia⟩
  have q:minRun' (f+1) Qo.size 0=Qo.size+0:=by rw[minRun'_succ,PK WE]
  rw[<-hf] at q;exact q
 rw[sortRuns'_eq];refine Rw (Æ ?_);dsimp only;simp only[B.sz,u];refine Rw (wpS_mono (Å (λx c P0=>(x=0/\c=(none,0)/\Sb kd Qo P0)\/(1<=x/\c=(none,Qo.size)/\Fin P0)) (Q:=λc P0=>c=(none,Qo.size)/\Fin P0)
  (λx c P0 _ y o=>?step) (λc P0 o=>?fin) (.inl ⟨rfl,rfl,B⟩)) λc P0 ⟨e,F⟩=>?post)
 case step=>
  rcases o with⟨v,e,j⟩|⟨D,e,F⟩
  .subst v e;dsimp only;rw[Pr (by lia)];simp only[Nat.sub_zero,Nat.min_self,ħ];refine Rw (K4 C (P1 _) (by (first|trivial|lia)) j λk d t k1 k2 r=>?_);dsimp only;have go:∀b,Sb kd Qo b->Ss κ (Qj b) Qo.size->(pendingOf b).back?=none/\Fin (setPending b ((pendingOf b).push (0,Qo.size,0))):=λb g m=>⟨by rw[g.pend];rfl,fin b g m⟩
   rcases SG k Qo.size with z|z
   .rw[PK z];refine Rw (wpS_lift (Tj ⟨rfl,Rw (Cy C (P1 _) k1 k2 t r λb g m=>?_)⟩));simp only[Ui,Q7,if_false];refine Rw (Æ ?_);rw[(go b g m).1];exact Rw (wpS_modify (Sz (.inr ⟨by (first|trivial|lia),rfl,(go b g m).2⟩)))
   .rw[Pr (by lia)];obtain rfl:k=Qo.size:=by lia
    refine Rw (Æ ?_);rw[(go d t r).1];exact Rw (wpS_modify (Sz (.inr ⟨by (first|trivial|lia),rfl,(go d t r).2⟩)))
  .subst e;dsimp only;rw[PK (P1 _)];exact Sz ⟨rfl,F⟩
 case fin=>
  rcases o with⟨G,_⟩|⟨_,e,F⟩
  .omega
  .exact⟨e,F⟩
 case post=>
  subst e;refine Rw (wpS_mono (Å (λ_ c d=>d=P0/\c=(none,())) (Q:=λc d=>d=P0/\c=(none,())) (λx c d _ _ ⟨p,n⟩=>?acS) (λ_ _ q=>q) ⟨rfl,rfl⟩) λc d ⟨p,n⟩=>?acT)
  case acS=>
   subst p n;refine Rw (Æ ?_);rw[PK (by rw[F.2.2.1];exact P1 1)];exact Sz ⟨rfl,rfl⟩
  case acT=>
   subst p n;exact Sz (h _ F.1 F.2.1 F.2.2.2)
theorem oK:∀a:List Int,HT.bW a a=false
 | []=>rfl
 | x::a=>by rw[HT.fb,PK rfl];exact oK a
theorem lq:∀(a b c:List Int),HT.bW a b=true->HT.bW b c=true->HT.bW a c=true
 | [],[],_,h,_=>by cases h
 | [],_::_,[],_,h=>by cases h
 | [],_::_,_::_,_,_=>rfl
 | _::_,[],_,h,_=>by cases h
 | _::_,_::_,[],_,h=>by cases h
 | x::a,y::b,z::c,e,d=>by
  rw[HT.fb] at e d ⊢
  by_cases g:x=y
  .subst g;rw[PK rfl] at e
   by_cases f:x=z
   .subst f;rw[PK rfl] at d ⊢;exact lq a b c e d
   .rw[Pr f] at d ⊢;exact d
  .rw[Pr g] at e;have e:=Wb e
   by_cases f:y=z
   .subst f;rw[Pr g];exact Qk e
   .rw[Pr f] at d;have d:=Wb d;rw[Pr (by lia)];exact Qk (by lia)
theorem ls:∀(a b:List Int),HT.bW a b=false->HT.bW b a=false->a=b
 | [],[],_,_=>rfl
 | [],_::_,h,_=>by cases h
 | _::_,[],_,h=>by cases h
 | x::a,y::b,c,d=>by
  rw[HT.fb] at c d
  by_cases e:x=y
  .subst e;rw[PK rfl] at c d;rw[ls a b c d]
  .rw[Pr e] at c;rw[Pr (λz=>e z.symm)] at d;have c:=of_decide_eq_false c;have d:=of_decide_eq_false d;lia
theorem Fd (a b c)(h:HT.bW a c=true):HT.bW a b=true\/HT.bW b c=true:=by
 cases e:HT.bW a b with
 | true=>exact .inl rfl
 | false=>
  refine .inr ?_;cases e2:HT.bW b a with
  | true=>exact lq b a c e2 h
  | false=>rw[<-ls a b e e2];exact h
noncomputable def gR (kf:G'->List Int):To where
 α:=List Int
 blt:=HT.bW
 irrefl:=oK
 trans:=lq
 negTrans:=Fd
 total:=ls
 keyOf:=λv=>some (kf v)
 dflt:=[]
theorem uD (h:i<xs.size):KK (gR kf) xs i=kf xs[i].1:=by
 unfold KK;rw[getElem?_pos xs i h];rfl
theorem uE (f)(x y):keyLt' (tuples' f) x y=(do
  let xs <-ř x;let ys <-ř y
  for ((p,q),i) in (xs.toList.zip ys.toList).zipIdx do
   if !(<-eqBool p q) then return <-oneLt' (f&&i==0) p q
  return decide (xs.size<ys.size)):=rfl
theorem yH (h:Q (decide (a<b)) s):Pq (Px prog w) A (oneLt' f (.int a t) (.int b u)) Q E s:=by
 cases f with
 | true=>exact oneLt_int h
 | false=>
  rw[oneLt'_eq];simp only[Q7,if_false];exact Pm (lt_int (UA h))
abbrev GQ (v:G')(k:Int):Prop:=∃t,v=Ru k t
theorem Cz (x:bQ s.heap ks a)(y:bQ s.heap RF b)(h:Q (HT.bW ks RF) s):Pq (Px prog w) A (keyLt' (tuples' f) (.ref a) (.ref b)) Q E s:=by
 obtain⟨xs,⟨o,e,_,n,d⟩,r⟩:=x;obtain⟨ys,⟨O,N,_,R,d'⟩,M⟩:=y;rw[uE];refine Pm (Ä e d (Pm (Ä N d' (Pm ?_))));refine UB _ (λrest r I=>r.1=none/\I=s/\∃(m D:List Int) (us vs:List G') (i:Nat),rest=(us.zip vs).zipIdx i/\PR GQ us m/\PR GQ vs D/\HT.bW m D=HT.bW ks RF/\decide (us.length<vs.length)=decide (xs.size<ys.size))
  _ ?turn ?fin _ _ ⟨rfl,rfl,ks,RF,xs.toList,ys.toList,0,rfl,r,M,rfl,by simp⟩
 case turn=>
  rintro⟨⟨p,q⟩,j⟩ rest c I ⟨_,J,m,D,us,vs,i,g,F,C,le,G⟩;subst J;cases F with
  | nil=>simp at g
  | @cons u k us' x'' hu p1'=>
   cases C with
   | nil=>simp at g
   | @cons v k' XU y'' hv p2'=>
    rw[υ,List.zipIdx_cons] at g;injection g with e3 e4
    cases e3;obtain⟨t,rfl⟩:=hu;obtain⟨t',rfl⟩:=hv;rw[HT.fb] at le;refine Pm (wpAny_eqBool_int ?_)
    by_cases z:k=k'
    .subst z;rw[PK rfl] at le;rw[Pr (by simp)];exact Pu ⟨rfl,rfl,x'',y'',us',XU,_,e4,p1',p2',le,by rw[<-G];simp⟩
    .rw[Pr z] at le;rw[PK (by simpa using z)];refine Pm (yH ?_);rw[le];exact Pu (Pu h)
 case fin=>
  rintro⟨c1,P⟩ I ⟨L,J,m,D,us,vs,i,g,F,C,le,G⟩;simp only at L;subst L J;have z:decide (xs.size<ys.size)=HT.bW ks RF:=by
   rw[<-le,<-G];cases F with
   | nil=>cases C with
    | nil=>rfl
    | cons _ _=>simp[HT.pR]
   | cons _ _=>cases C with
    | nil=>simp[HT.pT]
    | cons _ _=>rw[υ,List.zipIdx_cons] at g;cases g
  show Pq _ _ (pure (decide (xs.size<ys.size))) _ _ _;rw[z];exact Pu h
noncomputable def cR (h:Ps)(v:G'):List Int:=@dite (List Int) (∃ks,∃a,v=.ref a/\bQ h ks a) (Ď _) (λz=>Classical.choose z) λ_=>[]
theorem gx (x:bQ h ks a):cR h (.ref a)=ks:=by
 have z:∃ks,∃b,Qu a=.ref b/\bQ h ks b:=⟨ks,a,rfl,x⟩
 unfold cR;rw[dif_pos z];obtain⟨b,e,q⟩:=Classical.choose_spec z;cases e;exact q.inj x
abbrev lu (h:Ps)(v:G')(ks:List Int):Prop:=∃a,v=Qu a/\bQ h ks a
theorem As:∀{vs:List G'}{QD:List (List Int)},PR (lu h) vs QD->vs.map (cR h)=QD
 | _,_,.nil=>rfl
 | _,_,.cons ⟨a,e,x⟩ t=>by rw[QJ,As t,e,gx x]
theorem Fe (p:PR (lu s.heap) vs QD):XT prog w A E s (gR (cR s.heap)) (tuples' f) (pairsOf vs):=by
 intro st i j Q B n G h;have at_:∀k,(g:k<(pairsOf vs).size)->∃v b ks,(Qj st)[k]?=some (v,b)/\lu s.heap v ks/\KK (gR (cR s.heap)) (Qj st) k=ks:=λk g=>by
  have c:k<(Qj st).size:=by rw[B.sz];exact g
  have d:(Qj st)[k]∈(pairsOf vs).toList:=(Œ.mp B.perm).mem_iff.mp (by simp);rw[Ő] at d;have D:=(mem_zip_self d).2;obtain⟨ks,_,a,e,x⟩:=fK p _ D;refine⟨(Qj st)[k].1,(Qj st)[k].2,ks,Vd c,⟨a,e,x⟩,?_⟩;rw[uD c,e,gx x]
 obtain⟨L,O,k1,C,⟨M,rfl,F⟩,u⟩:=at_ i n;obtain⟨N,I,k2,m,⟨J,rfl,t⟩,o⟩:=at_ j G;rw[u,o] at h;rw[ltAt'_eq];refine Rw (Æ ?_);show wpS _ _ _ _ (do let x <-elem' (Qj st) i;let y <-elem' (Qj st) j;lt' x y) Q st;rw[elem'_eq,elem'_eq,C,m];refine Rw (Sz (Rw (Sz ?_)));rw[lt'_eq];refine Rw (Æ ?_);rw[B.kind];exact Rw (wpS_lift (ł (Cz F t ⟨rfl,Sz h⟩)))
theorem w5 {A:P7}{E:G'->N'->Prop}{s:N'}{α β:Type}{f:α->Sem β}{R:α->β->Prop}{M:Xz}:∀(l:List α) {Q:List β->N'->Prop},(∀v∈l,∀Q':β->N'->Prop,(∀b,R v b->Q' b s)->Pq M A (f v) Q' E s)->(∀bs,PR R l bs->Q bs s)->Pq M A (l.mapM f) Q E s
 | [],Q,_,h=>by rw[List.mapM_nil];exact Pu (h [] .nil)
 | a::l,Q,d,h=>by
  rw[List.mapM_cons];refine Pm (d a Qa _ λb e=>?_);exact Pm (w5 l (λv g=>d v (Qr _ g)) λbs c=>Pu (h _ (.cons e c)))
theorem CA (v):firstOfTuple' v=(do
  if (<-typeOf v) != .type "tuple" then return none
  return (<-ř v)[0]?):=rfl
theorem CC (x:bQ s.heap ks a)(QO:ks≠[])(h:∀k t,Q (some (.int k t)) s):Pq (Px prog w) A (firstOfTuple' (.ref a)) Q E s:=by
 obtain⟨xs,f,r⟩:=x;have m:=gh f;obtain⟨o,e,c,n,d⟩:=f;rw[CA];refine Pm (Zp m ?_);rw[Pr (by simp)];refine Pm (Ä e d (Pu ?_));cases ks with
 | nil=>exact Py rfl QO
 | cons k ks=>
  obtain⟨v,j,t,g⟩:=gJ (i:=0) (b:=k) r rfl;have:xs[0]?=some v:=by rw[<-V'];exact j
  rw[this,g];exact h k t
theorem w6:∀{l:List G'}{fs:List (Option G')},PR (λ_ o=>∃k t,o=some (Ru k t)) l fs->fs.all (·.isSome)=true/\∃ns,U1 (fs.filterMap id) ns/\ns.length=l.length
 | _,_,.nil=>⟨rfl,[],.nil,rfl⟩
 | _,_,.cons ⟨k,t,e⟩ r=>by
  obtain⟨c,ns,d,b⟩:=w6 r;subst e;exact⟨by simpa using c,k::ns,.cons k t d,by simp[b]⟩
theorem CD (p:PR (lu s.heap) (TY::TZ::vs) QD)(QO:∀ks∈QD,ks≠[])(h:Q (tuples' true) s):
  Pq (Px prog w) A (keyKind' (TY::TZ::vs).toArray) Q E s:=by
 rw[keyKind'_eq,List.mapM_toArray];refine Pm (wpAny_map (w5 (R:=λ_ o=>∃k t,o=some (Ru k t)) _ (λv m u q=>?_) λfs b=>?_))
 .obtain⟨ks,j,a,e,x⟩:=fK p v m;subst e;exact CC x (QO ks j) λk t=>q _ ⟨k,t,rfl⟩
 .obtain⟨g,ns,c,d⟩:=w6 b;rw[PK (by simpa using g)];refine Pm (Tj ?_);rw[oneTypeOnly'_eq];have e:(List.toArray fs).filterMap id=(fs.filterMap id).toArray:=by simp
  rw[e,List.mapM_toArray,mapM_typeOf_ints c];simp only[map_pure,pure_bind];cases z:fs.filterMap id with
  | nil=>
   rw[z] at c;cases c;simp at d
  | cons f0 fr=>
   have f:(List.map (λ_=>TV "int") (f0::fr)).toArray[0]?=some (TV "int"):=by simp
   have n:((List.map (λ_=>TV "int") (f0::fr)).toArray.all λx=>x==TV "int")=true:=by
    simp only[List.all_toArray,List.all_map,Ve];intro _ _;rfl
   rw[f];simp only[n,if_true,pure_bind];exact Pu h
abbrev uF (QD:List (List Int)):Prop:=QD.Pairwise λa b=>HT.bW b a=false
theorem xa (x:bQ h ks a)(ho:h.get? d=some o)(hc:o.cls≠.type "tuple")(k:∀b u,b≠d->h.get? b=some u->h'.get? b=some u):bQ h' ks a:=by
 obtain⟨i,⟨f,e,c,n,d'⟩,r⟩:=x;refine⟨i,⟨f,k a f ?_ e,c,n,d'⟩,r⟩;rintro rfl;rw[e] at ho;cases ho;exact hc c
theorem Ff (hp:xs.Perm (pairsOf vs))(hs:Ss (gR (cR h)) xs (pairsOf vs).size):(xs.map (·.2)).toList.Perm vs/\uF ((xs.map (·.2)).toList.map (cR h)):=by
 have same:∀q∈xs.toList,q.1=q.2:=λq g=>(mem_zip_self (by rw[<-Ő];exact(Œ.mp hp).mem_iff.mp g)).1;have c:(xs.map (·.2)).toList=xs.toList.map (·.2):=by simp
 have f:(pairsOf vs).toList.map (·.2)=vs:=by
  rw[Ő];exact List.map_snd_zip (by simp)
 refine⟨?_,?_⟩
 .rw[c];have:=(Œ.mp hp).map (·.2);rw[f] at this;exact this
 .rw[c,Yi];unfold uF;rw[Ż];intro i j e d n;rw[Qx] at e d;have m:i<xs.size:=by simpa using e
  have b:j<xs.size:=by simpa using d
  have z:=hs i j (by lia) (by rw[<-hp.size_eq];exact b);have z:HT.bW (KK (gR (cR h)) xs j) (KK (gR (cR h)) xs i)=false:=z;rw[uD m,uD b] at z;have s1:=same xs[i] (by simp);have s2:=same xs[j] (by simp);rw[s1,s2] at z;simpa using z
theorem CF (ho:s.heap.get? a=some (QB "list" vs.toArray n))(p:PR (lu s.heap) vs QD)(QO:∀ks∈QD,ks≠[])(WE:vs.length<64)(h:∀out:Array G',out.toList.Perm vs->uF (out.toList.map (cR s.heap))->P (.done (.ret .none)) { s with heap:=sortedHeap s.heap a vs out }):Pq (Px prog w) A (S7.«list.sort» ⟨[.ref a],[]⟩) P E s:=by
 have lt:a<s.heap.objs.size:=Qf ho;obtain⟨t,o1⟩:∃t,(s.heap.update a (Sr λ_=>#[])).get? a=some (QB "list" #[] t):=⟨_,ā ho _⟩
 have m:(((s.heap.update a (Sr λ_=>#[])).push (QB "tuple" vs.toArray 0)).push (QB "list" #[] 0)).get? a=some (QB "list" #[] t):=Qn _ (Qn _ o1);have keep:∀b u,b≠a->s.heap.get? b=some u->(((s.heap.update a (Sr λ_=>#[])).push (QB "tuple" vs.toArray 0)).push (QB "list" #[] 0)).get? b=some u:=λb u I q=>
  Qn _ (Qn _ ((ξ _ _ (QC I)).trans q))
 have D:PR (lu (((s.heap.update a (Sr λ_=>#[])).push (QB "tuple" vs.toArray 0)).push (QB "list" #[] 0))) vs QD:=bf (λ_ _ ⟨b,e,x⟩=>⟨b,e,xa x ho (by simp) keep⟩) p;have kf:∀v∈vs,cR (((s.heap.update a (Sr λ_=>#[])).push (QB "tuple" vs.toArray 0)).push (QB "list" #[] 0)) v=cR s.heap v:=λv y=>by
  obtain⟨ks,_,b,e,x⟩:=fK p v y;rw[e,gx x,gx (xa x ho (by simp) keep)]
 have fin:∀xs:Array Vm,xs.Perm (pairsOf vs)->Ss (gR (cR (((s.heap.update a (Sr λ_=>#[])).push (QB "tuple" vs.toArray 0)).push (QB "list" #[] 0)))) xs (pairsOf vs).size->
   P (.done (.ret .none)) { s with heap:=sortedHeap s.heap a vs (xs.map (·.2)) }:=λxs g o=>by
  obtain⟨C,G⟩:=Ff g o;refine h _ C ?_;have e:(xs.map (·.2)).toList.map (cR s.heap)=(xs.map (·.2)).toList.map (cR (((s.heap.update a (Sr λ_=>#[])).push (QB "tuple" vs.toArray 0)).push (QB "list" #[] 0))):=
   ä λv y=>(kf v (C.mem_iff.mp y)).symm
  rw[e];exact G
 have sz:∀xs:Array Vm,xs.Perm (pairsOf vs)->((λ(_:Array G')=>xs.map (·.2)) #[]).size<=PH+1:=λxs g=>by
  show(xs.map (·.2)).size<=_;rw[Array.size_map,g.size_eq,Ą,QA];lia
 rw[list_sort_plain];refine Pm (Ä ho rfl (Pm (Ă ho rfl (Pm (seqEpoch_at o1 rfl (Pm (wpAny_newTuple (Pm (Ã (Sq ?_)))))) ) ?_ ?_)))
 case refine_2=>rw[QI,QA];lia
 case refine_3=>show(#[]:Array G').size<=_;simp
 show Pq (Px prog w) A _ P E { s with heap:=((s.heap.update a (Sr λ_=>#[])).push (QB "tuple" vs.toArray 0)).push (QB "list" #[] 0) };dsimp only
 by_cases c:vs.toArray.size<2
 .rw[PK c,PK c];refine Pm (Pu ?_);rw[StateT.run_pure];refine Pm (Pu (Pm (seqEpoch_at m rfl (Pm (Ă m rfl ?_ (RA _) (sz (pairsOf vs) (ő _)))))));simp only[bne_self_eq_false,Q7,if_false];refine Pu (fin (pairsOf vs) (ő _) λi j O F=>?_);rw[Ą] at F;have c:vs.length<2:=by simpa using c
  obtain rfl:i=j:=by lia
  exact Ç _
 .rw[Pr c,Pr c];have c:2<=vs.length:=by simpa using c
  obtain⟨TY,d,rest,rfl⟩:∃TY d rest,vs=TY::d::rest:=by
   match vs,c with
   | [],c=>simp at c
   | [_],c=>simp at c
   | TY::d::rest,_=>exact⟨TY,d,rest,rfl⟩
  refine Pm (CD (s:={ s with heap:=((s.heap.update a (Sr λ_=>#[])).push (QB "tuple" (TY::d::rest).toArray 0)).push (QB "list" #[] 0) }) D QO ?_);refine Pm (UY (GO (Fe D) (st:=SS.mk' (tuples' true) ((TY::d::rest).toArray.zip (TY::d::rest).toArray) #[] 7 none)
   (Q:=λ_ f=>(Qj f).Perm (pairsOf (TY::d::rest))/\failedOf f=none/\Ss (gR (cR _)) (Qj f) (pairsOf (TY::d::rest)).size)
   ⟨ő _,rfl,rfl,rfl⟩ (by rw[Ą];exact c) (by rw[Ą];exact WE) λf M L J=>⟨M,L,J⟩) ?_ λ_ _ e=>e)
  rintro⟨⟨⟩,f⟩ R ⟨rfl,g,N,o⟩;dsimp only;refine Pm (seqEpoch_at m rfl (Pm (Ă m rfl ?_ (RA _) (sz (Qj f) g))));rw[N];simp only[bne_self_eq_false,Q7,if_false];exact Pu (fin (Qj f) g o)
theorem wB (hl:s.heap.IsList l vs.toArray)(p:PR (lu s.heap) vs QD)(QO:∀ks∈QD,ks≠[])(WE:vs.length<64)(h:∀out:Array G',out.toList.Perm vs->uF (out.toList.map (cR s.heap))->Q (.ref (s.heap.objs.size+1)) { s with heap:=sortedAll s.heap vs out }):Pq (Px prog w) A (call (.builtin "sorted") [.ref l]) Q E s:=by
 refine Ŝ kind_sorted plain_sorted entry_sorted (args_sorted1 _) ?_;have hz:((s.heap.push (QB "list" #[] 0)).update s.heap.objs.size (Sr (·++vs.toArray))).objs.size=s.heap.objs.size+1:=by rw[Ps.size_update,size_push']
 have f:(((s.heap.push (QB "list" #[] 0)).update s.heap.objs.size (Sr (·++vs.toArray))).push (QB "list" vs.toArray 0)).get? (s.heap.objs.size+1)=some (QB "list" vs.toArray 0):=by
  rw[<-hz];exact Rb _ rfl
 have t:∀b u,s.heap.get? b=some u->(((s.heap.push (QB "list" #[] 0)).update s.heap.objs.size (Sr (·++vs.toArray))).push (QB "list" vs.toArray 0)).get? b=some u:=λb u q=>
  Qn _ ((ξ _ _ (Wj (Qf q))).trans (Qn _ q))
 have up:∀{ks:List Int}{b:D'},bQ s.heap ks b->bQ (((s.heap.push (QB "list" #[] 0)).update s.heap.objs.size (Sr (·++vs.toArray))).push (QB "list" vs.toArray 0)) ks b:=λ⟨i,⟨o,e,c,n,d⟩,r⟩=>⟨i,⟨o,t _ _ e,c,n,d⟩,r⟩
 unfold S7.«sorted»;refine Pm (m:=checkCount "sorted" 1 1 _) (Pu (Pm (collect_list hl (Pm (Ã ?_)) (by rw[QA];lia))));show Pq _ _ _ _ _ { s with heap:=((s.heap.push (QB "list" #[] 0)).update s.heap.objs.size (Sr (·++vs.toArray))).push (QB "list" vs.toArray 0) };rw[hz];refine Pm (Sq (UU ō ⟨_,f,rfl⟩ ŋ (CF f (bf (λ_ _ ⟨b,e,x⟩=>⟨b,e,up x⟩) p) QO WE λout g j=>⟨_,rfl,Pu ⟨_,rfl,h out g ?_⟩⟩) (ŏ _)));have e:out.toList.map (cR s.heap)=out.toList.map (cR (((s.heap.push (QB "list" #[] 0)).update s.heap.objs.size (Sr (·++vs.toArray))).push (QB "list" vs.toArray 0))):=ä λv y=>by
  obtain⟨ks,_,b,e,x⟩:=fK p v (g.mem_iff.mp y);rw[e,gx x,gx (up x)]
 rw[e];exact j
noncomputable def toV:G'->V
 | .ref a=>.ref a
 | _=>.Qb
theorem wC {K:Po}(f:∀a ks,aV.rep K H (.ref a) ks->bQ h ks a)(r:aL as Pp)(p:PR (aV.rep K H) as QD):
  PR (lu h) Pp QD/\∀v∈Pp,∃a ks,v=.ref a/\aV.rep K H (.ref a) ks/\cR h v=ks:=by
 have q:PR (λv ks=>∃a,v=Qu a/\aV.rep K H (.ref a) ks) Pp QD:=mq (F:=aI) (G:=aV.rep K H) (λx u ks c b=>by
  obtain⟨a,xs,e,q⟩:=id b;subst e;cases c;exact⟨a,rfl,b⟩) r p
 refine⟨bf (λ_ _ ⟨a,e,z⟩=>⟨a,e,f a _ z⟩) q,λv d=>?_⟩;obtain⟨ks,_,a,e,z⟩:=fK q v d;exact⟨a,ks,e,z,by rw[e];exact gx (f a ks z)⟩
theorem uG:cF X (.builtin "sorted") (λxs H Q=>∃(y:V) (QD:List (List Int)),xs=[y]/\(GG aV).rep X.K H y QD/\(∀ks∈QD,ks≠[])/\QD.length<64/\
  ∀(l:D') (as':List V) (U3:List (List Int)),H l=none->PR (aV.rep X.K H) as' U3->U3.Perm QD->uF U3->Q (.ref l) (upd H l (.lst as'))):=by
 intro ac s R H xs us Q I r h;obtain⟨y,QD,rfl,⟨p,as,e,N,hd⟩,A,O,q⟩:=h;subst e;obtain⟨u,rfl,w⟩:=dc r;cases w;obtain⟨f,m,pl,hz⟩:=I.list N;have c:=m.length;have P:=hd.length;obtain⟨pt,back⟩:=wC (h:=s.heap) (λa ks z=>yG I z) m hd;refine wB pl.isList pt A (by lia) λout g x=>?_;obtain⟨e,t⟩:=sortedAll_at s.heap f out;have d:H (s.heap.objs.size+1)=none:=I.PQ.fresh (Zq _);have each:∀v∈out.toList,∃a ks,v=.ref a/\aV.rep X.K H (.ref a) ks/\cR s.heap v=ks:=λv G=>back v (g.mem_iff.mp G);have mk:∀l:List G',(∀v∈l,∃a ks,v=.ref a/\aV.rep X.K H (.ref a) ks/\cR s.heap v=ks)->aL (l.map toV) l/\PR (aV.rep X.K H) (l.map toV) (l.map (cR s.heap)):=by
  intro l
  induction l with
  | nil=>intro _;exact⟨.nil,.nil⟩
  | cons v l ih=>
   intro c;obtain⟨D,M⟩:=ih λu L=>c u (Qr _ L);obtain⟨a,ks,E,n,F⟩:=c v Qa;subst E;exact⟨.cons rfl D,.cons (by rw[F];exact n) M⟩
 obtain⟨C,J⟩:=mk out.toList each;have j:f.map (cR s.heap)=QD:=As pt;have hlen:out.toList.length=f.length:=g.length_eq;refine⟨.ref (s.heap.objs.size+1),_,I.laid (t':=s.toks) (o:=.lst (out.toList.map toV)) (λb o z=>sortedAll_old z) (Zq _) ⟨by rw[Qx,QA];lia,out.toList,e,C,by simpa [QB] using t⟩,rfl,
  q _ _ _ d J (by rw[<-j];exact g.map _) x⟩
end L2
namespace Sa
open PySem PySem.SetTable
noncomputable def Qc (t:QZ)(h:Int):Nat->Probe
 | 0=>t.probeStart h
 | n+1=>t.advance (Qc t h n)
theorem GS {t u:QZ}(e:t.mask=u.mask)(p:Probe):t.advance p=u.advance p:=by
 unfold advance;rw[e]
theorem nH (e:t.mask=u.mask)(h:Int):∀n,Qc t h n=Qc u h n
 | 0=>by unfold Qc probeStart;rw[e]
 | n+1=>by unfold Qc;rw[nH e h n,GS e]
theorem aeO (t)(h:Int):∀n,(Qc t h n).dummy=none
 | 0=>rfl
 | n+1=>by
  have b:=aeO t h n;unfold Qc advance
  split
  .exact b
  .exact b
noncomputable def bc (mask:Nat)(h:Int):Nat->Nat×Nat
 | 0=>(bits h % (mask+1),bits h)
 | r+1=>leap mask (bc mask h r).1 (bc mask h r).2
noncomputable def bU (mask:Nat)(h:Int):Nat->Nat
 | 0=>0
 | r+1=>bU mask h r+(runEnd mask (bc mask h r).1-(bc mask h r).1)+1
theorem lw (mask i:Nat):i<=runEnd mask i/\runEnd mask i<=i+9:=by
 unfold runEnd
 split <;> lia
theorem qZ (mask:Nat)(h:Int):∀r,bU mask h r<=10*r
 | 0=>P1 _
 | r+1=>by
  have b:=qZ mask h r;have:=lw mask (bc mask h r).1;unfold bU;lia
theorem eU (t)(h:Int):∀r k,k<=runEnd t.mask (bc t.mask h r).1-(bc t.mask h r).1->
  Qc t h (bU t.mask h r+k)={ j:=(bc t.mask h r).1+k,more:=runEnd t.mask (bc t.mask h r).1-(bc t.mask h r).1-k,i:=(bc t.mask h r).1,perturb:=(bc t.mask h r).2,dummy:=none }
 | 0,0,_=>rfl
 | r+1,0,_=>by
  have b:=eU t h r (runEnd t.mask (bc t.mask h r).1-(bc t.mask h r).1) (P1 _);have e:bU t.mask h (r+1)+0=(bU t.mask h r+(runEnd t.mask (bc t.mask h r).1-(bc t.mask h r).1))+1:=rfl;rw[e];show t.advance (Qc t h _)=_;rw[b];unfold advance;simp only[iS,Wh,gt_iff_lt,if_false];rfl
 | r,k+1,c=>by
  have b:=eU t h r k (by lia);have e:bU t.mask h r+(k+1)=(bU t.mask h r+k)+1:=rfl;rw[e];show t.advance (Qc t h _)=_;rw[b];unfold advance;have z:runEnd t.mask (bc t.mask h r).1-(bc t.mask h r).1-k > 0:=by lia
  simp only[z,if_true]
  congr 1
theorem wD (t)(h:Int)(r:Nat):(Qc t h (bU t.mask h r)).j=(bc t.mask h r).1:=by
 have:=eU t h r 0 (RA _);rw[Ģ] at this;rw[this];rfl
noncomputable def nx (mask i:Nat):Nat:=(i*5+1) % (mask+1)
noncomputable def Ua (mask:Nat):Nat->Nat->Nat
 | 0,i=>i
 | n+1,i=>Ua mask n (nx mask i)
theorem jJ (mask:Nat):∀a b i,Ua mask (a+b) i=Ua mask b (Ua mask a i)
 | 0,b,i=>by rw[ħ];rfl
 | a+1,b,i=>by
  rw[show a+1+b=(a+b)+1 by lia];show Ua mask (a+b) (nx mask i)=Ua mask b (Ua mask a (nx mask i));exact jJ mask a b _
noncomputable def orb (mask:Nat):Nat->Nat->List Nat
 | 0,_=>[]
 | n+1,i=>i::orb mask n (nx mask i)
theorem qe (mask:Nat):∀n i j,j∈orb mask n i->∃k,k<n/\Ua mask k i=j
 | 0,_,_,h=>by cases h
 | n+1,i,j,h=>by
  rcases Qe.mp h with rfl|h
  .exact⟨0,by lia,rfl⟩
  .obtain⟨k,b,e⟩:=qe mask n _ j h;exact⟨k+1,by lia,e⟩
def Mk (mask:Nat):Prop:=mask=7\/mask=31\/mask=127\/mask=15\/mask=63\/mask=255
theorem K7 {mask:Nat}(h:Mk mask):Ua mask (mask+1) 0=0/\∀j,j<mask+1->j∈orb mask (mask+1) 0:=by
 rcases h with rfl|rfl|rfl|rfl|rfl|rfl <;> decide +kernel
theorem reach {mask i j:Nat}(h:Mk mask)(hi:i<mask+1)(hj:j<mask+1):∃k,k<mask+1/\Ua mask k i=j:=by
 obtain⟨c0,c⟩:=K7 h;obtain⟨a,f,e⟩:=qe _ _ _ _ (c i hi);obtain⟨b,g,d⟩:=qe _ _ _ _ (c j hj);rcases SG b a with z|z
 .refine⟨b+(mask+1)-a,by lia,?_⟩;have:Ua mask (a+(b+(mask+1)-a)) 0=j:=by
   rw[show a+(b+(mask+1)-a)=(mask+1)+b by lia,jJ,c0,d]
  rw[jJ,e] at this;exact this
 .refine⟨b-a,by lia,?_⟩;have:Ua mask (a+(b-a)) 0=j:=by rw[show a+(b-a)=b by lia,d]
  rw[jJ,e] at this;exact this
theorem xf (mask:Nat)(h:Int):∀r,(bc mask h r).1<mask+1
 | 0=>Nat.mod_lt _ (Nat.succ_pos _)
 | r+1=>Nat.mod_lt _ (Nat.succ_pos _)
theorem re (mask:Nat)(h:Int):∀r,(bc mask h r).2=bits h / 32 ^ r
 | 0=>by show bits h=_;rw[Nat.pow_zero,Nat.div_one]
 | r+1=>by
  show(bc mask h r).2 / 32=_;rw[re mask h r,Nat.div_div_eq_div_mul,Nat.pow_succ]
theorem Fh (h:Int):bits h<2 ^ 64:=by
 unfold bits;have c:=Wf h (show(2 ^ 64:Int)≠0 by decide);have b:=Wa h (show(0:Int)<2 ^ 64 by decide);lia
theorem Au (mask:Nat)(h:Int)(hr:13<=r):(bc mask h r).2=0:=by
 rw[re];refine Nat.div_eq_of_lt (Rs (Fh h) ?_);exact RX (show 2 ^ 64<=32 ^ 13 by decide) (agi (by decide) hr)
theorem uH (mask:Nat)(h:Int):∀q,(bc mask h (13+q)).1=Ua mask q (bc mask h 13).1
 | 0=>rfl
 | q+1=>by
  have e:Ua mask (q+1) (bc mask h 13).1=nx mask (Ua mask q (bc mask h 13).1):=by rw[jJ];rfl
  rw[e,<-uH mask h q];show(leap mask (bc mask h (13+q)).1 (bc mask h (13+q)).2).1=_;rw[Au mask h (by lia)];rfl
theorem Ef (t:QZ)(h:Int)(hm:Mk t.mask){j:Nat}(hj:j<t.mask+1):∃r,r<t.mask+14/\(bc t.mask h r).1=j:=by
 obtain⟨k,b,e⟩:=reach hm (xf t.mask h 13) hj;exact⟨13+k,by lia,by rw[uH];exact e⟩
theorem GT (t)(h:Int)(hm:Mk t.mask)(hj:j<t.mask+1):∃n,n<10*(t.mask+14)/\(Qc t h n).j=j:=by
 obtain⟨r,b,e⟩:=Ef t h hm hj;have:=qZ t.mask h r;exact⟨bU t.mask h r,by lia,by rw[wD];exact e⟩
theorem GU {mask:Nat}(i k:Nat)(hi:i<mask+1)(hk:k<=runEnd mask i-i):i+k<mask+1:=by
 unfold runEnd at hk
 split at hk <;> lia
theorem Av (mask:Nat)(h:Int):∀n,∃r k,n=bU mask h r+k/\k<=runEnd mask (bc mask h r).1-(bc mask h r).1
 | 0=>⟨0,0,rfl,RA _⟩
 | n+1=>by
  obtain⟨r,k,e,b⟩:=Av mask h n;rcases SG k (runEnd mask (bc mask h r).1-(bc mask h r).1) with z|z
  .exact⟨r,k+1,by lia,by (first|trivial|lia)⟩
  .refine⟨r+1,0,?_,RA _⟩;show n+1=bU mask h r+(runEnd mask (bc mask h r).1-(bc mask h r).1)+1+0;lia
theorem uI (t)(h:Int)(n:Nat):(Qc t h n).j<t.mask+1:=by
 obtain⟨r,k,e,b⟩:=Av t.mask h n;rw[e,eU t h r k b];exact GU _ _ (xf _ _ _) b
theorem first {p:Nat->Prop}[DecidablePred p]:∀n,p n->∃m,m<=n/\p m/\∀k,k<m->¬p k
 | 0,h=>⟨0,P1 _,h,λk b=>Py b (Ħ _)⟩
 | n+1,h=>by
  by_cases z:∃k,k<=n/\p k
  .obtain⟨k,b,q⟩:=z;obtain⟨m,e,d,c⟩:=first k q
   exact⟨m,by lia,d,c⟩
  .exact⟨n+1,P1 _,h,λk b q=>z ⟨k,by lia,q⟩⟩
def VT (xs:Array Nat):Prop:=xs.toList.Pairwise (· < ·)
theorem Ĵ (r:VT xs)(h:a<b)(hb:b<xs.size):xs[a]'(by lia)<xs[b]:=by
 have:=(Ż.mp r) a b (by simp;lia) (by simpa using hb) h;simpa using this
theorem nK (r:VT xs)(j:Nat):∀fuel lo hi,lo<=hi->hi<=xs.size->hi-lo<=fuel->(∀a,(ha:a<lo)->(hs:a<xs.size)->xs[a]<j)->(∀a,hi<=a->(hs:a<xs.size)->j<=xs[a])->
  below.go xs j fuel lo hi<=xs.size/\(∀a,(ha:a<below.go xs j fuel lo hi)->(hs:a<xs.size)->xs[a]<j)/\∀a,below.go xs j fuel lo hi<=a->(hs:a<xs.size)->j<=xs[a]
 | 0,lo,hi,h,d,g,b,c=>by
  have:lo=hi:=by lia
  subst this;unfold below.go;exact⟨d,b,c⟩
 | fuel+1,lo,hi,h,d,g,b,c=>by
  unfold below.go
  by_cases z:lo<hi
  .rw[PK z];have f:(lo+hi) / 2<xs.size:=by lia
   have e:xs.getD ((lo+hi) / 2) j=xs[(lo+hi) / 2]:=by simp[Uj,f]
   simp only[e]
   split
   .rename_i y;refine nK r j fuel _ _ (by lia) d (by lia) (λa ha hs=>?_) c;rcases SG a ((lo+hi) / 2) with q|q
    .exact è (Ĵ r q f) y
    .obtain rfl:a=(lo+hi) / 2:=by lia
     exact y
   .rename_i y;refine nK r j fuel _ _ (by lia) (by lia) (by lia) b (λa ha hs=>?_);rcases SG ((lo+hi) / 2) a with q|q
    .exact RX (gV y) (Yh (Ĵ r q hs))
    .obtain rfl:a=(lo+hi) / 2:=by lia
     exact gV y
  .rw[Pr z];have:lo=hi:=by lia
   subst this;exact⟨d,b,c⟩
theorem Wm (r:VT xs)(j:Nat):below xs j<=xs.size/\(∀a,(ha:a<below xs j)->(hs:a<xs.size)->xs[a]<j)/\∀a,below xs j<=a->(hs:a<xs.size)->j<=xs[a]:=
 nK r j xs.size 0 xs.size (RA _) (P1 _) (by lia) (λa ha=>Py ha (Ħ _)) λa ha hs=>by lia
theorem CG (r:VT xs)(h:xs[i]?=some j):below xs j=i:=by
 obtain⟨g,f,d⟩:=Wm r j;obtain⟨c,e⟩:=Xg.mp h;rcases ω (below xs j) i with z|z|z
 .have a:=d _ (P1 _) (by lia);have b:=Ĵ r z c;lia
 .exact z
 .have:=f i z c;lia
structure Tab (t:QZ):Prop where
 RG:Mk t.mask
 rise:VT t.place
 le:∀j∈t.place.toList,j<=t.mask
 VA:t.dummies=#[]
theorem rg (j:Nat):has #[] j=false:=by
 unfold has;simp
theorem agF (T:Tab t)(h:j∉t.place.toList):t.slot j=.empty:=by
 unfold slot;have z:(t.place[below t.place j]?==some j)=false:=by
  cases e:t.place[below t.place j]? with
  | none=>rfl
  | some k=>
   have b:k∈t.place.toList:=by
    rw[<-V'] at e;exact Q6 e
   have:k≠j:=λq=>h (q▸b);simpa using this
 simp only[z,T.VA,rg,Q7,if_false]
theorem ò (T:Tab t)(h:t.place[i]?=some j):t.slot j=.live i:=by
 unfold slot;rw[CG T.rise h];simp[h]
theorem agJ {xs:Array Nat}(h:j∈xs.toList):∃i:Nat,xs[i]?=some j:=by
 obtain⟨i,b,e⟩:=ě.mp h;exact⟨i,by rw[<-V',Q5 b,e]⟩
theorem CI {l:List Nat}(h:l.length<n):∃j,j<n/\j∉l:=by
 refine US λz=>?_;have sub:∀j∈Q3 n,j∈l:=λj f=>US λy=>z ⟨j,R7.mp f,y⟩;have key:∀(a b:List Nat),a.Nodup->(∀x∈a,x∈b)->a.length<=b.length:=by
  intro a
  induction a with
  | nil=>intro b _ _;exact RA _
  | cons x a ih=>
   intro b nd e;rw[Tw] at nd;have c:=e x Qa;have:=ih (b.erase x) nd.2 λy d=>by
    refine(ŷ ?_).mpr (e y (Qr _ d));rintro rfl;exact nd.1 d
   rw[ŵ c] at this;have g:0<b.length:=ã c;simp only[QU];lia
 have:=key (Q3 n) l Ĝ sub;rw[Zb] at this;lia
theorem meets (T:Tab t)(h:Int)(hf:t.place.size<=t.mask):∃n,n<10*(t.mask+14)/\(Qc t h n).j∉t.place.toList/\∀m,m<n->(Qc t h m).j∈t.place.toList:=by
 obtain⟨j,f,g⟩:=CI (n:=t.mask+1) (l:=t.place.toList) (by simp;lia);obtain⟨n,o,e⟩:=GT t h T.RG f;obtain⟨m,s,b,c⟩:=first (p:=λn=>(Qc t h n).j∉t.place.toList) n (by rw[e];exact g)
 exact⟨m,by lia,b,λk d=>US λz=>c k d z⟩
def mw (mask:Nat)(P:List Nat)(h:Int)(j:Nat):Prop:=∃(t:QZ) (n:Nat),t.mask=mask/\(Qc t h n).j=j/\∀m,m<n->(Qc t h m).j∈P
theorem mw.more {mask:Nat}(r:mw mask P h j)(s:∀x∈P,x∈P'):mw mask P' h j:=
 let ⟨t,n,e,a,b⟩:=r;⟨t,n,e,a,λm c=>s _ (b m c)⟩
theorem mw.at (r:mw t.mask P h j):∃n,(Qc t h n).j=j/\∀m,m<n->(Qc t h m).j∈P:=by
 obtain⟨u,n,e,a,b⟩:=r;exact⟨n,by rw[nH e.symm];exact a,λm c=>by rw[nH e.symm];exact b m c⟩
abbrev Rp:=Int×G'
structure Full (t:QZ)(es:Array Rp):Prop where
 tab:Tab t
 size:t.place.size=es.size
 reach:∀x∈t.place.toList.zip es.toList,mw t.mask t.place.toList x.2.1 x.1
theorem xg {α β:Type}:∀(p:Nat) (P:List α) (E:List β) (a:α) (b:β),P.length=E.length->p<=P.length->(P.take p++a::P.drop p).zip (E.take p++b::E.drop p)=(P.zip E).take p++(a,b)::(P.zip E).drop p
 | 0,P,E,a,b,_,_=>by simp
 | p+1,[],_,_,_,_,h=>by simp at h
 | p+1,x::P,[],_,_,h,_=>by simp at h
 | p+1,x::P,y::E,a,b,h,c=>by
  have:=xg p P E a b (by simpa using h) (by simpa using c);simp only[ſ,List.drop_succ_cons,List.cons_append,υ];rw[this]
theorem Xv {α:Type}(xs)(p:Nat)(x:α):(insertAt xs p x).toList=xs.toList.take p++x::xs.toList.drop p:=by
 rw[QZ.toList_insertAt]
theorem CJ (r:VT xs)(h:j∉xs.toList):VT (insertAt xs (below xs j) j):=by
 obtain⟨p,o,f⟩:=Wm r j;unfold VT at r ⊢;rw[Xv];have e:=(X9 (below xs j) xs.toList).symm;rw[e] at r;rw[ĝ] at r ⊢;obtain⟨r1,r2,m⟩:=r;refine⟨r1,?_,?_⟩
 .rw[χ];refine⟨λb hb=>?_,r2⟩;obtain⟨k,c,rfl⟩:=ě.mp hb;rw[â] at c;have g:below xs j+k<xs.size:=by simp at c;lia
  rw[List.getElem_drop];have q:=f (below xs j+k) (by lia) g;have ne:xs[below xs j+k]≠j:=λz=>h (by rw[<-z];simp);have:j<xs[below xs j+k]:=by lia
  simpa using this
 .intro a d b hb;have n:a<j:=by
   obtain⟨k,c,rfl⟩:=ě.mp d;rw[SO] at c;rw[List.getElem_take];have q:=o k (by lia) (by simp at c;lia);simpa using q
  rcases Qe.mp hb with rfl|hb
  .exact n
  .exact m a d b hb
theorem qf {α:Type}{l:List α}{p:Nat}{x y:α}:y∈l.take p++x::l.drop p↔y=x\/y∈l:=by
 have e:=X9 p l;rw[QW,Qe];have m:y∈l↔y∈l.take p\/y∈l.drop p:=by
  rw[<-QW,e]
 rw[m];constructor
 .rintro(h|h|h)
  .exact .inr (.inl h)
  .exact .inl h
  .exact .inr (.inr h)
 .rintro(h|h|h)
  .exact .inr (.inl h)
  .exact .inl h
  .exact .inr (.inr h)
theorem Of (T:Tab t)(j:Nat):(t.put j).2=below t.place j/\(t.put j).1.mask=t.mask/\(t.put j).1.place=insertAt t.place (below t.place j) j/\(t.put j).1.dummies=#[]/\(t.put j).1.plain=t.plain/\(t.put j).1.led=t.led/\(t.put j).1.moves=t.moves:=by
 unfold put;refine⟨rfl,rfl,rfl,?_,rfl,rfl,rfl⟩;show(if has t.dummies j=true then _ else t.dummies)=#[];rw[T.VA,rg];rfl
theorem ĵ {α:Type}(xs)(x:α)(h:p<=xs.size):(insertAt xs p x).size=xs.size+1:=by
 rw[<-RT,Xv,Rt,QU,SO,â];simp;lia
theorem aeR (F:Full t es)(hn:(Qc t e.1 n).j∉t.place.toList)(hb:∀m,m<n->(Qc t e.1 m).j∈t.place.toList):
  Full (t.put (Qc t e.1 n).j).1 (insertAt es (t.put (Qc t e.1 n).j).2 e):=by
 obtain⟨d,c,b,g,_⟩:=Of F.tab (Qc t e.1 n).j;obtain⟨f,_,_⟩:=Wm F.tab.rise (Qc t e.1 n).j;have o:(Qc t e.1 n).j<t.mask+1:=uI t e.1 n;have sz:=F.size;refine⟨⟨by rw[c];exact F.tab.RG,by rw[b];exact CJ F.tab.rise hn,λj hj=>?_,g⟩,?_,λx hx=>?_⟩
 .rw[b,Xv,qf] at hj;rw[c];rcases hj with rfl|hj
  .omega
  .exact F.tab.le j hj
 .rw[d,b,ĵ _ _ f,ĵ _ _ (by lia),sz]
 .rw[d,b,Xv,Xv,xg _ _ _ _ _ (by simp[sz]) (by simpa using f),qf] at hx;have up:∀z∈t.place.toList,z∈(t.put (Qc t e.1 n).j).1.place.toList:=λz hz=>by rw[b,Xv,qf];exact .inr hz
  rw[c];rcases hx with rfl|hx
  .exact⟨t,n,rfl,rfl,λm h=>up _ (hb m h)⟩
  .exact(F.reach x hx).more up
noncomputable abbrev tm (mask:Nat):QZ:={ mask,place:=#[],dummies:=#[],finger:=0,led:=true,moves:=0,plain:=true }
def cJ (owner:Array (Option Nat))(j:Nat):Prop:=(owner.getD j (some 0)).isSome=true
instance (owner)(j:Nat):Decidable (cJ owner j):=inferInstanceAs (Decidable (_=true))
theorem rh {mask:Nat}(h:Int):∀fuel r,(∀m,m<bU mask h r->cJ owner (Qc (tm mask) h m).j)->(∃r',r<=r'/\r' < r+fuel/\¬cJ owner (bc mask h r').1)->
  ∃j n,layClean.free mask owner fuel (bc mask h r).1 (bc mask h r).2=some j/\¬cJ owner j/\(Qc (tm mask) h n).j=j/\∀m,m<n->cJ owner (Qc (tm mask) h m).j
 | 0,r,_,⟨r',x,C,_⟩=>by lia
 | fuel+1,r,t,⟨r',x,C,g⟩=>by
  unfold layClean.free;cases e:(Q3 (runEnd mask (bc mask h r).1+1-(bc mask h r).1)).find? λk=>(owner.getD ((bc mask h r).1+k) (some 0)).isNone with
  | some k=>
   have D:=R7.mp (afS e);have w:=lw mask (bc mask h r).1;have u:(owner.getD ((bc mask h r).1+k) (some 0)).isNone=true:=List.find?_some (p:=λk=>(owner.getD ((bc mask h r).1+k) (some 0)).isNone) e;have sk:=eU (tm mask) h r k (by show k<=runEnd mask (bc mask h r).1-(bc mask h r).1;lia);refine⟨_,bU mask h r+k,rfl,?_,by rw[sk],λm o=>?_⟩
   .unfold cJ;intro z;rw[Option.isNone_iff_eq_none] at u;rw[u] at z;cases z
   .rcases SG m (bU mask h r) with y|y
    .exact t m y
    .obtain⟨d,rfl⟩:∃d,m=bU mask h r+d:=⟨m-bU mask h r,by lia⟩
     have b:=eU (tm mask) h r d (by show d<=runEnd mask (bc mask h r).1-(bc mask h r).1;lia);rw[b];show cJ owner ((bc mask h r).1+d);unfold cJ;have hd:d<k:=by lia
     obtain⟨_,as,bs,f,v⟩:=List.find?_eq_some_iff_append.mp e;have A:as.length=k:=by
      have:(Q3 (runEnd mask (bc mask h r).1+1-(bc mask h r).1))[as.length]?=some k:=by rw[f];simp
      rw[agn (by have:=congrArg Xs f;simp at this;lia)] at this;exact UW this
     have c:d∈as:=by
      have:(Q3 (runEnd mask (bc mask h r).1+1-(bc mask h r).1))[d]?=some d:=agn (by lia);rw[f,Xh (by lia)] at this;exact Q6 this
     have:=v d c;cases z:owner.getD ((bc mask h r).1+d) (some 0) with
     | none=>rw[z] at this;simp at this
     | some _=>rfl
  | none=>
   have all:=à.mp e;have w:=lw mask (bc mask h r).1;have s:∀d,d<=runEnd mask (bc mask h r).1-(bc mask h r).1->cJ owner ((bc mask h r).1+d):=λd hd=>by
    have:=all d (R7.mpr (by lia));unfold cJ;cases z:owner.getD ((bc mask h r).1+d) (some 0) with
    | none=>rw[z] at this;simp at this
    | some _=>rfl
   have ne:r'≠r:=λz=>g (by rw[z];exact s 0 (RA _));refine rh h fuel (r+1) (λm o=>?_) ⟨r',by lia,by lia,g⟩;rcases SG m (bU mask h r) with y|y
   .exact t m y
   .have E:m<bU mask h r+(runEnd mask (bc mask h r).1-(bc mask h r).1)+1:=o;obtain⟨d,rfl⟩:∃d,m=bU mask h r+d:=⟨m-bU mask h r,by lia⟩
    have b:=eU (tm mask) h r d (by show d<=runEnd mask (bc mask h r).1-(bc mask h r).1;lia);rw[b];exact s d (by lia)
structure ZN (mask:Nat)(hs:List Int)(owner:Array (Option Nat)):Prop where
 size:owner.size=mask+1
 perm:((Q3 (mask+1)).filterMap λj=>owner.getD j none).Perm (Q3 hs.length)
 reach:∀j q h,owner[j]?=some (some q)->hs[q]?=some h->∃n,(Qc (tm mask) h n).j=j/\∀m,m<n->cJ owner (Qc (tm mask) h m).j
theorem yI {α β:Type}{f g:α->Option β}:∀{l:List α},(∀a∈l,f a=g a)->l.filterMap f=l.filterMap g
 | [],_=>rfl
 | a::l,h=>by rw[TN,TN,h a Qa,yI λb c=>h b (Qr _ c)]
theorem kQ {owner:Array (Option Nat)}(hj:owner.getD j (some 0)=none):∀(l:List Nat),l.Nodup->j∈l->(∀x∈l,x<owner.size)->
  (l.filterMap λi=>(owner.setIfInBounds j (some k)).getD i none).Perm ((l.filterMap λi=>owner.getD i none)++[k])
 | [],_,h,_=>by cases h
 | x::l,nd,h,d=>by
  rw[Tw] at nd;have f:=d x Qa
  by_cases z:x=j
  .subst z;have c:(owner.setIfInBounds x (some k)).getD x none=some k:=by simp[Uj,f]
   have o:owner.getD x none=none:=by
    simp only[Uj,f,dite_true] at hj ⊢;exact hj
   have s:(l.filterMap λi=>(owner.setIfInBounds x (some k)).getD i none)=l.filterMap λi=>owner.getD i none:=by
    refine yI λi m=>?_;have ne:x≠i:=λq=>nd.1 (q▸m);have t:=d i (Qr _ m);simp[Uj,t,afH,ne]
   rw[Y1 (b:=k) (by rw[c]),ĕ (by rw[o]),s];exact(List.perm_append_singleton k _).symm
  .have g:j∈l:=by
    rcases Qe.mp h with q|q
    .exact Py q.symm z
    .exact q
   have n:=kQ (k:=k) hj l nd.2 g λy p=>d y (Qr _ p);have c:(owner.setIfInBounds j (some k)).getD x none=owner.getD x none:=by
    have ne:j≠x:=λq=>z q.symm;simp[Uj,f,afH,ne]
   cases e:owner.getD x none with
   | none=>rw[ĕ (by rw[c,e]),ĕ (by rw[e])];exact n
   | some v=>rw[Y1 (b:=v) (by rw[c,e]),Y1 (b:=v) (by rw[e])];exact n.cons v
theorem ri (h:cJ owner x):cJ (owner.setIfInBounds j (some k)) x:=by
 unfold cJ at h ⊢;rw[Array.getD_eq_getD_getElem?] at h ⊢
 by_cases e:j=x
 .subst e
  by_cases b:j<owner.size
  .rw[afA b];rfl
  .rw[Û (by simpa using b)];rfl
 .rw[afC e];exact h
theorem Aw:∀(l:List Nat),(∀x∈l,cJ owner x/\x<owner.size)->(l.filterMap λj=>owner.getD j none).length=l.length
 | [],_=>rfl
 | x::l,h=>by
  obtain⟨c,d⟩:=h x Qa;unfold cJ at c;simp only[Uj,d,dite_true] at c;obtain⟨v,e⟩:=V9.mp c;rw[Y1 (b:=v) (by simp[Uj,d];exact e),QU,QU,Aw l λy f=>h y (Qr _ f)]
theorem CK {mask:Nat}(M:Mk mask)(O:ZN mask hs owner)(h:Int)(hl:hs.length<=mask):
  ∃j,layClean.free mask owner (turns mask) (bits h % (mask+1)) (bits h)=some j/\ZN mask (hs++[h]) (owner.setIfInBounds j (some hs.length)):=by
 have sz:=O.size;obtain⟨e,E,F⟩:∃e,e<mask+1/\¬cJ owner e:=by
  refine US λz=>?_;have all:∀x∈Q3 (mask+1),cJ owner x/\x<owner.size:=λx d=>by
   have d:=R7.mp d;exact⟨US λy=>z ⟨x,d,y⟩,by lia⟩
  have G:=Aw _ all;have R:=O.perm.length_eq;rw[G,Zb,Zb] at R;lia
 obtain⟨r,A,f⟩:=Ef (tm mask) h M E;obtain⟨j,n,I,t,N,C⟩:=rh (mask:=mask) (owner:=owner) h (turns mask) 0 (λm o=>Py o (Ħ _)) ⟨r,RA _,by
  have:r<mask+14:=A;unfold turns;lia,by
  have f:(bc mask h r).1=e:=f;rw[f];exact F⟩
 have u:owner.getD j (some 0)=none:=by
  unfold cJ at t;cases z:owner.getD j (some 0) with
  | none=>rfl
  | some v=>rw[z] at t;exact Py rfl t
 have s:j<owner.size:=by
  refine US λz=>?_;simp[Uj,z] at u
 refine⟨j,I,by rw[Array.size_setIfInBounds];exact sz,?_,λg q h' b c=>?_⟩
 .have p:=kQ (k:=hs.length) u (Q3 (mask+1)) Ĝ (R7.mpr (by lia)) λx d=>by have:=R7.mp d;lia
  refine p.trans ?_;rw[Rt,Ŷ];have f:Q3 (hs.length+1)=Q3 hs.length++[hs.length]:=Ž;rw[f];exact O.perm.append_right _
 .by_cases z:j=g
  .subst z;rw[afA s] at b;have:hs.length=q:=by
    injection b with b
    injection b
   subst this;rw[YZ (P1 _)] at c;simp at c;subst c;exact⟨n,N,λm o=>ri (C m o)⟩
  .rw[afC z] at b;have Q:q<hs.length:=by
    have P:g < owner.size:=by
     obtain⟨w,_⟩:=Xg.mp b;exact w
    have:q∈(Q3 (mask+1)).filterMap λj=>owner.getD j none:=by
     rw[Ug];refine⟨g,R7.mpr (by lia),?_⟩;have:=(Xg.mp b).2;simp[Uj,P,this]
    exact R7.mp (O.perm.mem_iff.mp this)
   rw[Xh Q] at c;obtain⟨m,J,D⟩:=O.reach g q h' b c;exact⟨m,J,λk L=>ri (D k L)⟩
theorem CL (mask:Nat):ZN mask [] (œ (mask+1) none):=by
 refine⟨by simp,?_,λj q h e=>?_⟩
 .have:((Q3 (mask+1)).filterMap λj=>(œ (mask+1) (none:Option Nat)).getD j none)=[]:=by
   rw[List.filterMap_eq_nil_iff];intro a _;simp only[Uj]
   split <;> simp
  rw[this];exact ç _
 .rw[Xg] at e;obtain⟨_,e⟩:=e;simp at e
theorem uJ {mask:Nat}(M:Mk mask):∀(rest done:List Int) (owner:Array (Option Nat)),ZN mask done owner->(done++rest).length<=mask->
  ∃abm,(rest.foldl (λ(acc:Option (Array (Option Nat)×Nat)) h=>do
   let (owner,k) <-acc;let j <-layClean.free mask owner (turns mask) (bits h % (mask+1)) (bits h)
   pure (owner.setIfInBounds j (some k),k+1)) (some (owner,done.length)))=some (abm,(done++rest).length)/\ZN mask (done++rest) abm
 | [],done,owner,O,_=>⟨owner,by simp,by rw[Vg];exact O⟩
 | h::rest,done,owner,O,d=>by
  simp only[Rt,QU] at d;obtain⟨j,e,f⟩:=CK M O h (by lia);obtain⟨abm,c,b⟩:=uJ M rest (done++[h]) _ f (by simp;(first|trivial|lia));refine⟨abm,?_,by rw[Y'] at b;exact b⟩;rw[Zd];have:(do
   let (owner,k) <-some (owner,done.length);let j <-layClean.free mask owner (turns mask) (bits h % (mask+1)) (bits h)
   pure (owner.setIfInBounds j (some k),k+1))=some (owner.setIfInBounds j (some done.length),done.length+1):=by
   simp[e]
  rw[this];rw[Rt,Ŷ] at c;rw[c];simp
theorem CM {mask:Nat}(M:Mk mask)(hs:List Int)(hl:hs.length<=mask):∃owner,layClean mask hs.toArray=some owner/\ZN mask hs owner:=by
 obtain⟨owner,e,O⟩:=uJ M hs [] _ (CL mask) (by simpa using hl);refine⟨owner,?_,by simpa using O⟩;unfold layClean;rw[<-Array.foldl_toList];have e:Ě _ (some (œ (mask+1) none,0)) hs=_:=e;rw[e];rfl
noncomputable def de (mask:Nat)(owner:Array (Option Nat)):List (Nat×Nat):=(Q3 (mask+1)).filterMap λj=>(owner.getD j none).map (j,·)
theorem lx {mask:Nat}(sz:owner.size=mask+1):x∈de mask owner↔owner[x.1]?=some (some x.2):=by
 unfold de;rw[Ug];constructor
 .rintro⟨j,g,e⟩;have b:j<owner.size:=by have:=R7.mp g;lia
  obtain⟨v,c,d⟩:=Xk.mp e;subst d;rw[Vd b];simp only[Uj,b,dite_true] at c;rw[<-c];rfl
 .intro e;obtain⟨f,h⟩:=Xg.mp e;refine⟨x.1,R7.mpr (by lia),?_⟩;have:owner.getD x.1 none=some x.2:=by simp[Uj,f,h]
  rw[this];rfl
theorem Ax (mask:Nat)(owner):(de mask owner).map (·.2)=(Q3 (mask+1)).filterMap λj=>owner.getD j none:=by
 unfold de;rw[List.map_filterMap];refine yI λj _=>?_;cases owner.getD j none <;> rfl
theorem xh {f:Nat->Option (Nat×Nat)}(hf:∀j x,f j=some x->x.1=j):∀(l:List Nat),l.Pairwise (· < ·)->((l.filterMap f).map (·.1)).Pairwise (· < ·)
 | [],_=>Yb
 | a::l,h=>by
  rw[χ] at h;have d:=xh hf l h.2;cases e:f a with
  | none=>rw[ĕ e];exact d
  | some x=>
   rw[Y1 e,QJ,χ];refine⟨λb n=>?_,d⟩;obtain⟨y,m,rfl⟩:=Qs.mp n;obtain⟨c,o,g⟩:=Ug.mp m;rw[hf a x e,hf c y g];exact h.1 c o
theorem yJ (mask:Nat)(owner):((de mask owner).map (·.1)).Pairwise (· < ·):=by
 unfold de;refine xh (λj x e=>?_) _ Ğ;obtain⟨v,_,b⟩:=Xk.mp e;rw[<-b]
theorem Ay {α:Type}{g:Nat->Option α}:∀(l:List (Nat×Nat)),(∀x∈l,∃a,g x.2=some a)->(l.map (·.1)).zip ((l.map (·.2)).filterMap g)=l.filterMap (λx=>(g x.2).map (x.1,·))/\((l.map (·.2)).filterMap g).length=l.length
 | [],_=>⟨rfl,rfl⟩
 | x::l,h=>by
  obtain⟨a,c⟩:=h x Qa;obtain⟨f,d⟩:=Ay l λy e=>h y (Qr _ e);rw[QJ,QJ,Y1 c,Y1 (b:=(x.1,a)) (by rw[c];rfl),υ,f];exact⟨rfl,by rw[QU,QU,d]⟩
theorem aeS {mask finger moves:Nat}{led plain:Bool}(M:Mk mask)(es:Array Rp)(hl:es.size<=mask):
  ∃t order,laid mask finger moves led plain (es.map (·.1))=some (t,order)/\t.mask=mask/\t.plain=plain/\t.led=led/\(order.filterMap (es[·]?)).size=es.size/\(order.filterMap (es[·]?)).toList.Perm es.toList/\Full t (order.filterMap (es[·]?)):=by
 obtain⟨owner,e,O⟩:=CM M (es.toList.map (·.1)) (by rw[Qx,RT];exact hl);have D:(es.toList.map (·.1)).toArray=es.map (·.1):=by
  apply Array.toList_inj.mp;rw[Array.toList_map]
 rw[D] at e;have h:((de mask owner).map (·.2)).Perm (Q3 es.size):=by
  rw[Ax];have:=O.perm;simpa using this
 refine⟨{ mask,place:=((de mask owner).map (·.1)).toArray,dummies:=#[],finger,led,moves,plain },((de mask owner).map (·.2)).toArray,?_,rfl,rfl,rfl,?_⟩
 .unfold laid;rw[e];rfl
 have perm:(((de mask owner).map (·.2)).toArray.filterMap (es[·]?)).toList.Perm es.toList:=by
  rw[Ŕ];exact(h.filterMap _).trans (by rw[filterMap_getElem?_range])
 have d:∀x∈de mask owner,∃a,es[x.2]?=some a:=λx b=>by
  have:x.2∈(de mask owner).map (·.2):=Qs.mpr ⟨x,b,rfl⟩;have:=R7.mp (h.mem_iff.mp this);exact⟨es[x.2],Vd this⟩
 obtain⟨I,s⟩:=Ay (g:=λi=>es[i]?) (de mask owner) d;refine⟨?_,perm,⟨M,yJ mask owner,λj f=>?_,rfl⟩,?_,λx b=>?_⟩
 .rw[<-RT,perm.length_eq,RT]
 .have f:j∈(de mask owner).map (·.1):=f;obtain⟨x,b,rfl⟩:=Qs.mp f;rw[lx O.size] at b;obtain⟨w,_⟩:=Xg.mp b;have:=O.size;show x.1<=mask;lia
 .show((de mask owner).map (·.1)).toArray.size=_;rw[QI,Qx,<-RT,Ŕ];exact s.symm
 .rw[Ŕ] at b;have b:x∈((de mask owner).map (·.1)).zip (((de mask owner).map (·.2)).filterMap λi=>es[i]?):=b;rw[I,Ug] at b;obtain⟨y,p,E⟩:=b;obtain⟨a,o,F⟩:=Xk.mp E;subst F;have G:(es.toList.map (·.1))[y.2]?=some a.1:=by
   rw[So,V',o];rfl
  obtain⟨n,C,u⟩:=O.reach y.1 y.2 a.1 ((lx O.size).mp p) G;refine⟨tm mask,n,rfl,C,λm A=>?_⟩;show(Qc (tm mask) a.1 m).j∈(de mask owner).map (·.1);have c:=u m A;have lt:(Qc (tm mask) a.1 m).j<mask+1:=uI (tm mask) a.1 m;have lt':(Qc (tm mask) a.1 m).j<owner.size:=by rw[O.size];exact lt
  unfold cJ at c;simp only[Uj,lt',dite_true] at c;obtain⟨v,ev⟩:=V9.mp c;refine Qs.mpr ⟨((Qc (tm mask) a.1 m).j,v),(lx O.size).mpr ?_,rfl⟩;rw[Vd lt'];exact congrArg some ev
end Sa
namespace L2
open PySem PySem.Spec PyProof.Rows PySem.SetTable
theorem Az (a:D')(x:G')(h:Int)(adding:Bool)(fuel:Nat)(st:Option Probe):setSearchFrom a x h adding (fuel+1) st=(do
  let (es,_,t) <-setState a
  if t.gaveWay then unsupported "set:on-a-table-that-gave-way"
  let some met:=t.probe (λi=>(es[i]?.map (·.1)).getD 0) h (st.getD (t.probeStart h))|unsupported "internal:set-table-without-an-empty-slot"
  match met with
  | .empty j dummy=>
   match dummy with
   | none=>return .free j false
   | some d=>
    if adding&&t.slot d != .dummy then rule "set.search.the-dummy-was-taken";return <-setSearchFrom a x h adding fuel none
    return .free d true
  | .candidate j i next=>
   if !t.led then
    if <-searchCouldBeSeen x ((es.filter (·.1==h)).toList.map (·.2)) then unsupported "set:the-search-would-show-the-table"
   let some (_,y):=es[i]? | unsupported "internal:set-entry"
   let equal <-holding [y] (eqBool y x)
   let (RU,_,t') <-setState a
   if adding&&equal then return .there none
   let some same:=t'.sameMemory t.moves t.mask|unsupported "set.changed-during-lookup:is-the-new-block-at-the-old-address"
   let acU <-match (if same then t'.slot j else .empty) with
    | .live i'=>match RU[i']? with
     | some (_,y')=>do pure (if <-isSame y' y then some i' else none)
     | none=>pure none
    | _=>pure none
   match acU with
   | none=>rule "set.search.anew";setSearchFrom a x h adding fuel none
   | some i'=>if equal then return .there (some i') else setSearchFrom a x h adding fuel (some next)):=rfl
theorem qh (T:Sa.Tab t)(hN:(Sa.Qc t h N).j∉t.place.toList)(hb:∀m,m<N->(Sa.Qc t h m).j∈t.place.toList):∀fuel m,m<=N->N-m<fuel->
  ∃m',m<=m'/\m'<=N/\((m'=N/\probe.go t H h fuel (Sa.Qc t h m)=some (.empty (Sa.Qc t h N).j none))\/
   (m' < N/\∃i,t.place[i]?=some (Sa.Qc t h m').j/\H i=h/\probe.go t H h fuel (Sa.Qc t h m)=some (.candidate (Sa.Qc t h m').j i (Sa.Qc t h (m'+1)))))/\
   ∀q,m<=q->q<m'->∀i,t.place[i]?=some (Sa.Qc t h q).j->H i≠h
 | 0,m,_,v=>by (first|trivial|lia)
 | fuel+1,m,o,v=>by
  rcases SG m N with z|z
  .obtain⟨i,g⟩:=Sa.agJ (hb m z);have f:=Sa.ò T g;have uniq:∀c,t.place[c]?=some (Sa.Qc t h m).j->c=i:=λc d=>by
    have:=Sa.ò T d;rw[f] at this;cases this;rfl
   by_cases e:H i=h
   .refine⟨m,P1 _,o,.inr ⟨z,i,g,e,?_⟩,λq a b=>by lia⟩;unfold probe.go;rw[f];simp only[e,beq_self_eq_true,if_true];rfl
   .obtain⟨m',x,s,w,u⟩:=qh T hN hb fuel (m+1) z (by lia);have p:probe.go t H h (fuel+1) (Sa.Qc t h m)=probe.go t H h fuel (Sa.Qc t h (m+1)):=by
     rw[probe.go,f];have:(H i==h)=false:=by simpa using e
     simp only[this,Q7,if_false];rfl
    refine⟨m',by lia,s,?_,λq A n c d=>?_⟩
    .rw[p];exact w
    .rcases SG m q with y|y
     .exact u q (by (first|trivial|lia)) n c d
     .obtain rfl:q=m:=by lia
      rw[uniq c d];exact e
  .obtain rfl:m=N:=by lia
   refine⟨m,P1 _,P1 _,.inl ⟨rfl,?_⟩,λq a b=>by lia⟩;unfold probe.go;rw[Sa.agF T hN,Sa.aeO]
structure TX (prog)(w)(K:Type)[DecidableEq K]where
 knd:HeapKind prog w K
 abp:∀{A:P7}{E:G'->N'->Prop}{s:N'}{k:K}{a:D'}{Q:Bool->N'->Prop},knd.is s.heap k a->Q true s->Pq (Px prog w) A (hashByValue 8 (.ref a)) Q E s
 aav:∀{A:P7}{E:G'->N'->Prop}{s:N'}{k:K}{a:D'}{Q:Bool->N'->Prop},knd.is s.heap k a->Q false s->Pq (Px prog w) A (ofAClassStatement 8 (.ref a)) Q E s
 keep:∀{h h':Ps}{k:K}{a:D'},knd.is h k a->(∀b o,o.cls=.type "tuple"->h.get? b=some o->h'.get? b=some o)->knd.is h' k a
section
variable {prog:PU}{w:Pz}{K:Type} [DecidableEq K] {A:P7}{E:G'->N'->Prop}{s:N'}{X:TX prog w K}
def El (X:TX prog w K)(h:Ps)(e:Sa.Rp)(k:K):Prop:=∃b,e.2=.ref b/\X.knd.is h k b/\e.1=X.knd.hash k
structure U2 (X:TX prog w K)(h:Ps)(a:D')(o:J')(es:Array Sa.Rp)(ep:Nat)(t:QZ)(ks:List K):Prop where
 ob:h.get? a=some o
 ex:o.ExactSet
 dt:o.data=.set es ep t
 full:Sa.Full t es
 Qi:t.place.size*5<t.mask*3
 pl:t.plain=true
 el:PR (El X h) es.toList ks
 nd:ks.Nodup
theorem U2.fits (S:U2 X s.heap a o es ep t ks):t.fits es.size=true:=by
 unfold Į Vh;rw[S.full.tab.VA,S.full.size];have:=S.Qi;rw[S.full.size] at this;simp;lia
theorem odd (h:Sa.Mk m):(m % 2==0)=false:=by rcases h with rfl|rfl|rfl|rfl|rfl|rfl <;> rfl
theorem yK (hx:X.knd.is s.heap k x):∀(l:List G') {Q:Bool->N'->Prop},(∀v∈l,∃b k',v=.ref b/\X.knd.is s.heap k' b)->Q false s->Pq (Px prog w) A (searchCouldBeSeen (.ref x) l) Q E s:=by
 intro l Q m h;unfold searchCouldBeSeen;refine Pm (UB _ (λrest r f=>r.1=none/\f=s/\∀v∈rest,∃b k',v=.ref b/\X.knd.is s.heap k' b) _ ?turn ?fin _ _ ⟨rfl,rfl,m⟩)
 case turn=>
  rintro v rest ⟨r1,r2⟩ f ⟨c,e,g⟩;simp only at c;subst e c;obtain⟨b,k',rfl,j⟩:=g v Qa;have d:∀u∈rest,∃b k',u=.ref b/\X.knd.is f.heap k' b:=λu n=>g u (Qr _ n);dsimp only
  by_cases z:((x==b)||(carriedByValue (.ref x)&&carriedByValue (.ref b)))=true
  .rw[PK z];exact Pu ⟨rfl,rfl,d⟩
  .rw[Pr z];refine Pm (X.knd.quiet hx ?_);simp only[Ui,Q7,if_false];refine Pm (X.knd.quiet j ?_);simp only[Ui,Q7,if_false];refine Pm (X.aav hx ?_);simp only[Q7,if_false];refine Pm (X.aav j ?_);simp only[Q7,if_false];exact Pu ⟨rfl,rfl,d⟩
 case fin=>
  rintro⟨r1,r2⟩ f ⟨c,e,_⟩;simp only at c;subst e c;exact Pu h
end
section
variable {prog:PU}{w:Pz}{K:Type} [DecidableEq K] {A:P7}{E:G'->N'->Prop}{s:N'}{X:TX prog w K}{a:D'}{o:J'}{es:Array Sa.Rp}{ep:Nat}{t:QZ}{ks:List K}
theorem Eg (S:U2 X s.heap a o es ep t ks){i j:Nat}(h:t.place[i]?=some j):∃e k,es[i]?=some e/\ks[i]?=some k/\El X s.heap e k:=by
 have b:i<es.size:=by
  have:=(Xg.mp h).1;rw[S.full.size] at this;exact this
 obtain⟨k,c,el⟩:=cB (i:=i) (a:=es[i]) S.el (by simp[b]);exact⟨es[i],k,Vd b,c,el⟩
theorem GV (S:U2 X s.heap a o es ep t ks)(hk:k∈ks)(hN:(Sa.Qc t (X.knd.hash k) N).j∉t.place.toList):∃(n i:Nat),n<N/\t.place[i]?=some (Sa.Qc t (X.knd.hash k) n).j/\ks[i]?=some k:=by
 obtain⟨i,p,e⟩:=ě.mp hk;have c:ks[i]?=some k:=by rw[Q5 p,e]
 obtain⟨el,d,b,w,v,u⟩:=gJ S.el c;have h:es[i]?=some el:=by rw[<-V'];exact d
 have g:i<t.place.size:=by
  rw[S.full.size];exact(Xg.mp h).1
 have m:t.place[i]?=some t.place[i]:=Vd g;have hz:(t.place[i],el)∈t.place.toList.zip es.toList:=by
  rw[X'];refine⟨i,?_⟩;rw[List.getElem?_zip_eq_some];exact⟨by simpa using m,d⟩
 obtain⟨n,r1,r2⟩:=(S.full.reach _ hz).at;have f:el.1=X.knd.hash k:=u;dsimp only at r1 r2;rw[f] at r1 r2;refine⟨n,i,?_,by rw[r1];exact m,c⟩;rcases ω n N with z|z|z
 .exact z
 .subst z;rw[r1] at hN;exact Py (by simp) hN
 .exact Py (r2 N z) hN
theorem wE (S:U2 X s.heap a o es ep t ks)(hr:X.knd.room A)(hb:X.knd.is s.heap k b)(hN:(Sa.Qc t (X.knd.hash k) N).j∉t.place.toList)(QN:∀m,m<N->(Sa.Qc t (X.knd.hash k) m).j∈t.place.toList)(ahW:N<10*(t.mask+14))(h1:k∈ks->Q (.there none) s)(h2:k∉ks->Q (.free (Sa.Qc t (X.knd.hash k) N).j false) s):
  ∀d m fuel (st:Option Probe),N-m=d->m<=N->d<fuel->st.getD (t.probeStart (X.knd.hash k))=Sa.Qc t (X.knd.hash k) m->(∀q,q<m->∀i:Nat,t.place[i]?=some (Sa.Qc t (X.knd.hash k) q).j->ks[i]?≠some k)->
   Pq (Px prog w) A (setSearchFrom a (.ref b) (X.knd.hash k) true fuel st) Q E s:=by
 intro d
 induction d using Nat.strongRecOn with
 | ind d ih=>
  intro m fuel st hd T hf W pre
  obtain⟨fuel,rfl⟩:∃f,fuel=f+1:=⟨fuel-1,by lia⟩
  rw[Az]
  refine Pm (SE S.ob S.dt S.fits ?_)
  dsimp only
  rw[Pr (by unfold QZ.gaveWay;rw[odd S.full.tab.RG];exact TQ)]
  obtain⟨h,a1,a2,a3,a4⟩:=qh (H:=λi=>(es[i]?.map (·.1)).getD 0) S.full.tab hN QN (10*turns t.mask) m T (by unfold turns;lia)
  have P:∀q,m<=q->q<h->∀i:Nat,t.place[i]?=some (Sa.Qc t (X.knd.hash k) q).j->ks[i]?≠some k:=λq b1 F i p z=>by
   obtain⟨e,L,c1,C,_,_,_,D⟩:=Eg S p
   have:=a4 q b1 F i p
   rw[C] at z
   cases z
   simp[c1] at this
   exact this D
  rw[W]
  unfold probe
  rcases a3 with⟨e0,G⟩|⟨lt,i,p,hh,G⟩
  .rw[G]
   subst e0
   refine Pu (h2 λhk=>?_)
   obtain⟨n,i,n1,O,M⟩:=GV S hk hN
   rcases SG n m with z|z
   .exact pre n z i O M
   .exact P n z n1 i O M
  .rw[G]
   obtain⟨e,L,c1,C,c,D,Z,Y⟩:=Eg S p
   obtain⟨eh,ev⟩:=e
   dsimp only at D Y
   subst D
   dsimp only
   have body:Pq (Px prog w) A (do
     let some (_,y):=es[i]? | unsupported "internal:set-entry"
     let equal <-holding [y] (eqBool y (.ref b))
     let (RU,_,t') <-setState a
     if true&&equal then return .there none
     let some same:=t'.sameMemory t.moves t.mask|unsupported "set.changed-during-lookup:is-the-new-block-at-the-old-address"
     let acU <-match (if same then t'.slot (Sa.Qc t (X.knd.hash k) h).j else .empty) with
      | .live g=>match RU[g]? with
       | some (_,y')=>do pure (if <-isSame y' y then some g else none)
       | none=>pure none
      | _=>pure none
     match acU with
     | none=>rule "set.search.anew";setSearchFrom a (.ref b) (X.knd.hash k) true fuel none
     | some g=>if equal then return .there (some g) else setSearchFrom a (.ref b) (X.knd.hash k) true fuel (some (Sa.Qc t (X.knd.hash k) (h+1)))) Q E s:=by
    rw[c1]
    dsimp only
    refine Pm (Sq (X.knd.eqBool hr Z hb (Pm (SE S.ob S.dt S.fits ?_))))
    dsimp only
    by_cases z:L=k
    .subst z
     rw[Qk rfl]
     exact Pu (h1 (Q6 C))
    .rw[Qd z]
     simp only[Ü,Q7,if_false]
     have U:t.sameMemory t.moves t.mask=some true:=by unfold sameMemory;simp
     rw[U]
     dsimp only
     rw[PK rfl,Sa.ò S.full.tab p]
     dsimp only
     rw[c1]
     dsimp only
     refine Pm (wpAny_isSame_ref_self (Pm (Pu ?_)))
     rw[PK rfl]
     dsimp only
     refine ih (N-(h+1)) (by lia) (h+1) fuel _ rfl (by (first|trivial|lia)) (by lia) rfl λq hq g I=>?_
     rcases SG q m with y|y
     .exact pre q y g I
     .rcases SG q h with x|x
      .exact P q y x g I
      .obtain rfl:q=h:=by lia
       have e1:=Sa.ò S.full.tab p
       have u:=Sa.ò S.full.tab I
       rw[e1] at u
       cases u
       rw[C]
       intro w'
       cases w'
       exact z rfl
   cases abA:t.led with
   | true=>
    simp only[abA,Ui,Q7,if_false]
    exact body
   | false=>
    simp only[abA,Bool.not_false,if_true]
    refine Pm (yK hb _ (λv hv=>?_) ?_)
    .obtain⟨x,J,rfl⟩:=Qs.mp hv
     have XV:x∈es.toList:=by
      rw[Array.toList_filter] at J
      exact(Sd.mp J).1
     obtain⟨k2,_,F,u,R,_⟩:=fK S.el x XV
     exact⟨F,k2,u,R⟩
    .simp only[Q7,if_false]
     exact body
theorem AA (S:U2 X s.heap a o es ep t ks)(hr:X.knd.room A)(hb:X.knd.is s.heap k b)(h1:k∈ks->Q (.there none) s)(h2:k∉ks->∀N,(Sa.Qc t (X.knd.hash k) N).j∉t.place.toList->(∀m,m<N->(Sa.Qc t (X.knd.hash k) m).j∈t.place.toList)->Q (.free (Sa.Qc t (X.knd.hash k) N).j false) s):Pq (Px prog w) A (setSearch a (.ref b) (X.knd.hash k) true) Q E s:=by
 obtain⟨N,f,d,c⟩:=Sa.meets S.full.tab (X.knd.hash k) (by have:=S.Qi;lia);have h:t.mask<=255:=by rcases S.full.tab.RG with e|e|e|e|e|e <;> lia
 exact wE S hr hb d c f h1 (λz=>h2 z N d c) N 0 100000 none rfl (RA _) (by lia) rfl λq g=>Py g (Ħ _)
end
theorem uK (a:D')(x:G')(h:Int)(fuel:Nat):setAddHashedIn a x h (fuel+1)=(do
  let (ae2,_,t₀) <-setState a
  if byScan x ae2 then
   match <-setAddByScan a x h ae2 t₀ with
   | some added=>return added
   | none=>return <-setAddHashedIn a x h fuel
  let .free slot agG <-setSearch a x h (adding:=true)|return false
  let (es,_,t) <-setState a
  let (t,p):=t.put slot
  let byValue <-if t.plain then hashByValue 8 x else pure true
  let t:=if byValue then t else { t with plain:=false }
  storeSet a (QZ.insertAt es p (h,x)) t
  if !agG&&t.tooFull then setRelay a (QZ.grown (es.size+1))
  return true):=rfl
theorem uL (a:D')(wanted:Nat):setRelay a wanted=(do
  let (es,_,t) <-setState a
  if QZ.sizeAbove wanted > PH then unsupported "set:memory"
  let (es,t) <-(do
   let some (t,order):=t.relaid (es.map (·.1)) wanted|unsupported "internal:set-table-without-room"
   let RU:=order.filterMap (es[·]?)
   if RU.size != es.size then unsupported "internal:set-table-lost-an-element"
   pure (RU,t):Sem (Array (Int×G')×QZ))
  storeSet a es t):=rfl
theorem jq {α β:Type}{R:α->β->Prop}{l l':List α}(p:l'.Perm l):∀{m:List β},PR R l m->∃m',PR R l' m'/\m'.Perm m:=by
 induction p with
 | nil=>intro m r;exact⟨m,r,ç _⟩
 | cons x _ g=>
  intro m r;cases r with
  | cons h t=>
   obtain⟨m',d,n⟩:=g t;exact⟨_,.cons h d,n.cons _⟩
 | swap x y l=>
  intro m r;cases r with
  | cons h1 t=>
   cases t with
   | cons h2 t=>exact⟨_,.cons h2 (.cons h1 t),agC _ _ _⟩
 | trans _ _ c b=>
  intro m r;obtain⟨o,r1,f⟩:=b r;obtain⟨e,r2,j⟩:=c r1;exact⟨e,r2,j.trans f⟩
section
variable {prog:PU}{w:Pz}{K:Type} [DecidableEq K] {A:P7}{E:G'->N'->Prop}{s:N'}{X:TX prog w K}{a:D'}{o:J'}{es:Array Sa.Rp}{ep:Nat}{t:QZ}{ks:List K}
theorem my (x:El X h e k)(kp:∀b o,o.cls=.type "tuple"->h.get? b=some o->h'.get? b=some o):El X h' e k:=
 let ⟨b,e1,e2,e3⟩:=x;⟨b,e1,X.keep e2 kp,e3⟩
theorem gS {h:Ps}(ho:h.get? a=some o)(hx:o.ExactSet)(hd:o.data=.set es ep t)(RU:Array Sa.Rp)(t':QZ):
  (h.update a (Zs RU t')).get? a=some { o with data:=.set RU (ep+1) t' }/\(∀b u,b≠a->h.get? b=some u->(h.update a (Zs RU t')).get? b=some u)/\∀b u,u.cls=.type "tuple"->h.get? b=some u->(h.update a (Zs RU t')).get? b=some u:=by
 have d:∀b u,b≠a->h.get? b=some u->(h.update a (Zs RU t')).get? b=some u:=λb u e q=>(ξ _ _ (QC e)).trans q;refine⟨?_,d,λb u c q=>d b u ?_ q⟩
 .have z:=Đ (Zs RU t') ho (by rw[putSet_of RU t' hd];rfl);rw[putSet_of RU t' hd] at z;exact z
 .rintro rfl;rw[ho] at q;cases q;rw[hx.1] at c;injection c with c
  exact Py c (by decide)
def K8 (X:TX prog w K)(a:D')(k:K)(ks:List K)(led:Bool)(h h':Ps):Prop:=
 (∀b u,b≠a->h.get? b=some u->h'.get? b=some u)/\∃o es ep t RF,U2 X h' a o es ep t RF/\t.led=led/\(k∈ks->RF=ks)/\(k∉ks->RF.Perm (k::ks))
theorem CP (ho:s.heap.get? a=some o)(hx:o.ExactSet)(hd:o.data=.set es ep t)(F:Sa.Full t es)(hle:t.place.size<=t.mask)(pl:t.plain=true)(el:PR (El X s.heap) es.toList ks)(nd:ks.Nodup)(hM:Sa.Mk M)(hz:sizeAbove n=M+1)(hs:es.size*5<M*3)(h:∀h',(∀b u,b≠a->s.heap.get? b=some u->h'.get? b=some u)->(∃o es ep t' RF,U2 X h' a o es ep t' RF/\t'.led=t.led/\RF.Perm ks)->Q () { s with heap:=h' }):Pq (Px prog w) A (setRelay a n) Q E s:=by
 have J:t.fits es.size=true:=by
  unfold Į Vh;rw[F.tab.VA,F.size];rw[F.size] at hle;simp;exact hle
 rw[uL];refine Pm (SE ho hd J ?_);dsimp only;have p:M<=255:=by rcases hM with e|e|e|e|e|e <;> lia
 rw[Pr (by rw[hz,QA];lia)];obtain⟨t',order,D,g,G,j,c,y,d⟩:=Sa.aeS (mask:=M) (finger:=t.finger) (moves:=t.movedTo M) (led:=t.led) (plain:=t.plain) hM es (by lia);have v:t.relaid (es.map (·.1)) n=some (t',order):=by
  unfold relaid;rw[hz];exact D
 rw[v];dsimp only;have ne:((order.filterMap (es[·]?)).size != es.size)=false:=by rw[c];simp
 rw[ne];simp only[Q7,if_false];refine Pm (Pu (Ù ho hd ?_ (by rw[c,QA];lia)));obtain⟨x,m,I⟩:=gS ho hx hd (order.filterMap (es[·]?)) t';obtain⟨RF,C,f⟩:=jq y el;refine h _ m ⟨_,_,_,t',RF,⟨x,hx,rfl,d,?_,by rw[G];exact pl,bf (λ_ _ z=>my z I) C,f.nodup_iff.mpr nd⟩,j,f⟩;rw[d.size,g,c];exact hs
theorem GW (S:U2 X s.heap a o es ep t ks)(hr:X.knd.room A)(hb:X.knd.is s.heap k b)(hl:ks.length<70)(h:∀h' f,K8 X a k ks t.led s.heap h'->Q f { s with heap:=h' }):Pq (Px prog w) A (setAddHashed a (.ref b) (X.knd.hash k)) Q E s:=by
 unfold setAddHashed;refine Sq ?_;show Pq _ _ (setAddHashedIn a (.ref b) (X.knd.hash k) (99999+1)) _ _ _;rw[uK];refine Pm (SE S.ob S.dt S.fits ?_);dsimp only;have bs:byScan (.ref b) es=false:=by unfold byScan G'.scannable;rfl
 rw[bs];simp only[Q7,if_false];have len:es.size=ks.length:=by rw[<-RT];exact S.el.length
 refine Pm (AA S hr hb (λm=>?_) λm N n1 n2=>?_)
 .exact Pu (h s.heap false ⟨λ_ _ _ q=>q,o,es,ep,t,ks,S,rfl,λ_=>rfl,λz=>Py m z⟩)
 .dsimp only;refine Pm (SE S.ob S.dt S.fits ?_);dsimp only;obtain⟨p1,J,p3,T,x,O,p7⟩:=Sa.Of S.full.tab (Sa.Qc t (X.knd.hash k) N).j;have v:=Sa.aeR S.full (e:=(X.knd.hash k,.ref b)) n1 n2;dsimp only at v;obtain⟨bl,_,_⟩:=Sa.Wm S.full.tab.rise (Sa.Qc t (X.knd.hash k) N).j;have sz:=v.size;have fs:=S.full.size;have n:(insertAt es (t.put (Sa.Qc t (X.knd.hash k) N).j).2 (X.knd.hash k,Qu b)).size=es.size+1:=Sa.ĵ _ _ (by rw[p1];lia);rw[x,S.pl];simp only[if_true];refine Pm (X.abp hb ?_);simp only[if_true];generalize (t.put (Sa.Qc t (X.knd.hash k) N).j).1=t' at *;generalize (t.put (Sa.Qc t (X.knd.hash k) N).j).2=p at *;refine Pm (Ù S.ob S.dt ?_ (by rw[n,QA];lia));obtain⟨G,F,I⟩:=gS S.ob S.ex S.dt (insertAt es p (X.knd.hash k,Qu b)) t';have d:PR (El X (s.heap.update a (Zs (insertAt es p (X.knd.hash k,Qu b)) t'))) (insertAt es p (X.knd.hash k,Qu b)).toList (ks.take p++k::ks.drop p):=by
   rw[Sa.Xv];have g:=bf (λ_ _ z=>my z I) S.el;exact dG (ti p g) (.cons ⟨b,rfl,X.keep hb I,rfl⟩ (j3 p g))
  have D:(ks.take p++k::ks.drop p).Perm (k::ks):=by
   refine List.perm_middle.trans ?_;rw[X9]
  have R:(ks.take p++k::ks.drop p).Nodup:=D.nodup_iff.mpr (Tw.mpr ⟨m,S.nd⟩);have Qi:=S.Qi;have y:t'.place.size<=t'.mask:=by rw[sz,n,J];lia
  have ps:t'.place.size=es.size+1:=by rw[sz,n]
  by_cases full:t'.tooFull=true
  .rw[PK (by rw[full];rfl)];have full:t'.fill*5 >= t'.mask*3:=by simpa [AT] using full
   unfold Vh at full;rw[T,ps,J] at full;simp only[QI,Xp,Ģ,Array.size_empty] at full;rw[fs] at Qi;have key:∃M,Sa.Mk M/\sizeAbove (grown (es.size+1))=M+1/\(es.size+1)*5<M*3:=by
    rcases S.full.tab.RG with e|e|e|e|e|e
    .rw[e] at Qi full;have:es.size=4:=by lia
     rw[this];exact⟨31,.inr (.inl rfl),by decide,by decide⟩
    .rw[e] at Qi full;have:es.size=18:=by lia
     rw[this];exact⟨127,.inr (.inr (.inl rfl)),by decide,by decide⟩
    .rw[e] at Qi full;lia
    .rw[e] at Qi full;have:es.size=8:=by lia
     rw[this];exact⟨63,.inr (.inr (.inr (.inr (.inl rfl)))),by decide,by decide⟩
    .rw[e] at Qi full;have:es.size=37:=by lia
     rw[this];exact⟨255,.inr (.inr (.inr (.inr (.inr rfl)))),by decide,by decide⟩
    .rw[e] at Qi full;lia
   obtain⟨M,m1,W,m3⟩:=key;refine Pm (CP (s:={ s with heap:=s.heap.update a (Zs (insertAt es p (X.knd.hash k,Qu b)) t') }) G S.ex rfl v y (by rw[x,S.pl]) d R m1 W (by rw[n];exact m3) λh' k1 ⟨o2,SY,Tq,Z,Te,Y,U,C⟩=>?_);exact Pu (h h' true ⟨λL u P q=>k1 L u P (F L u P q),o2,SY,Tq,Z,Te,Y,U.trans O,λz=>Py z m,λ_=>C.trans D⟩)
  .have c:t'.tooFull=false:=by simpa using full
   rw[Pr (by rw[c];simp)];refine Pu (h _ true ⟨F,_,_,_,t',_,⟨G,S.ex,rfl,v,?_,by rw[x,S.pl],d,R⟩,O,λz=>Py z m,λ_=>D⟩);have c:¬t'.fill*5 >= t'.mask*3:=by simpa [AT] using c
   unfold Vh at c;rw[T] at c;simp only[QI,Xp,Ģ,Array.size_empty] at c;lia
end
section
variable {prog:PU}{w:Pz}{K:Type} [DecidableEq K] {A:P7}{E:G'->N'->Prop}{X:TX prog w K}
abbrev CQ (X:TX prog w K)(h:Ps)(v:G')(k:K):Prop:=∃b,v=Qu b/\X.knd.is h k b
structure Ķ (X:TX prog w K)(h:Ps)(S:D')(keys:List K)(led:Bool):Prop where
 ex:∃o es ep t ks,U2 X h S o es ep t ks/\(∀k,k∈ks↔k∈keys)/\t.led=led
theorem CS {led:Bool}(hh:A.in1.handled=none)(hr:X.knd.room A.in1)(hI:I≠l)(hSI:S≠I)(hSl:S≠l)(p:PR (CQ X h0) items.toList keys)(hl:keys.length<70):
  ∀(d i:Nat) (s:N'),items.size-i=d->i<=items.size->(s.heap.IsListIter I l i/\s.heap.IsList l items)->(∀b o,b≠S->b≠I->h0.get? b=some o->s.heap.get? b=some o)->(∀b o,h0.get? b=some o->b≠S/\b≠I)->
   Ķ X s.heap S (keys.take i) led->
   (∀h' tk,(∀b o,b≠S->b≠I->s.heap.get? b=some o->h'.get? b=some o)->Ķ X h' S keys led->R (.ok (.ret .none)) { s with heap:=h',toks:=tk })->
   codeAny (Px prog w) A (.builtin "set.update.loop" ⟨[.ref S,.ref I],[]⟩) R s:=by
 have W:=Walks.list (prog:=prog) (w:=w) hh I l (QC hI) items;have kl:items.size=keys.length:=by rw[<-RT];exact p.length
 intro d
 induction d with
 | zero=>
  intro i s hd hi st U E F h;obtain rfl:i=items.size:=by lia
  refine VJ afB ?_;rw[Y6 tO _];show Pq _ A.in1 (pyNext (.ref I) >>= _) _ _ s;refine Pm (W.done s _ _ st λh' tk k1=>?_);show Pq _ A.in1 (ret Xu) _ _ _;have up:∀b o,b≠I->s.heap.get? b=some o->h'.get? b=some o:=λb o D e=>k1 b o (by simpa using D) e;refine Pu (h h' tk (λb o _ D e=>up b o D e) ?_);obtain⟨o,es,ep,t,ks,g,m,Y⟩:=F;rw[kl,UV] at m;refine⟨o,es,ep,t,ks,⟨up S o hSI g.ob,g.ex,g.dt,g.full,g.Qi,g.pl,bf (λ_ _ z=>my z λb u C q=>?_) g.el,g.nd⟩,m,Y⟩;refine up b u ?_ q;rintro rfl;obtain⟨⟨O,M,N,_⟩,_⟩:=st;rw[M] at q;cases q;rw[N] at C;injection C with C
  exact Py C (by decide)
 | succ d ih=>
  intro i s hd hi st U E F h;have QN:i<items.size:=by lia
  refine VJ afB ?_;rw[Y6 tO _];show Pq _ A.in1 (pyNext (.ref I) >>= _) _ _ s;refine Pm (W.item i s _ _ QN st λv Q tk hv Z k1=>?_);have up:∀b o,b≠I->s.heap.get? b=some o->Q.get? b=some o:=λb o D e=>k1 b o (by simpa using D) e;obtain⟨k,hk,b,rfl,D⟩:=cB (i:=i) (a:=v) p (by rw[V'];exact hv);have J:X.knd.is Q k b:=X.keep D λj n _ q=>up j n (E j n q).2 (U j n (E j n q).1 (E j n q).2 q);obtain⟨o,es,ep,t,ks,g,m,Y⟩:=F;have S2:U2 X Q S o es ep t ks:=⟨up S o hSI g.ob,g.ex,g.dt,g.full,g.Qi,g.pl,bf (λ_ _ z=>my z λj u C q=>up j u (by
   rintro rfl;obtain⟨⟨O,M,N,_⟩,_⟩:=st;rw[M] at q;cases q;rw[N] at C;injection C with C
   exact Py C (by decide)) q) g.el,g.nd⟩
  show Pq _ A.in1 (holding [Qu b] (setAdd S (.ref b)) >>= _) _ _ _;refine Pm (Sq ?_);unfold setAdd;refine Sq (Pm (X.knd.pyHash hr J ?_));have Qi:ks.length<70:=by
   have:ks.length<=(keys.take i).length:=by
    have key:∀(a c:List K),a.Nodup->(∀x∈a,x∈c)->a.length<=c.length:=by
     intro a
     induction a with
     | nil=>intro c _ _;exact RA _
     | cons x a ih'=>
      intro c nd hs;rw[Tw] at nd;have P:=hs x Qa;have:=ih' (c.erase x) nd.2 λy hy=>(ŷ (by rintro rfl;exact nd.1 hy)).mpr (hs y (Qr _ hy));rw[ŵ P] at this;have hp:0<c.length:=ã P;simp only[QU];lia
    exact key ks _ g.nd λx P=>(m x).mp P
   rw[SO] at this;lia
  refine GW (s:={ s with heap:=Q,toks:=tk+X.knd.draws k }) S2 hr J Qi λh2 f Qm=>?_;obtain⟨k2,o2,SY,Tq,t2,Te,S3,T,q1,q2⟩:=Qm;refine Pu ⟨Ð tO _,ih (i+1) _ (by lia) (by (first|trivial|lia)) ?_ (λj n G L q=>k2 j n G (up j n L (U j n G L q))) E ⟨o2,SY,Tq,t2,Te,S3,λx=>?_,T.trans Y⟩ λh3 tk3 k3 F3=>?_⟩
  .obtain⟨⟨O,M,N⟩,ol,el,cl⟩:=Z;exact⟨⟨O,k2 I O (QC hSI) M,N⟩,ol,k2 l ol (QC hSl) el,cl⟩
  .rw[Xm,hk,QW];simp only[ê,Ri]
   by_cases z:k∈ks
   .rw[q1 z,m x];constructor
    .exact .inl
    .rintro(y|rfl)
     .exact y
     .exact(m _).mp z
   .rw[(q2 z).mem_iff,Qe,m x];exact or_comm
  .exact h h3 tk3 (λj n G L q=>k3 j n G L (k2 j n G (up j n L q))) F3
theorem AB {led:Bool}(e:h.get? S=some { cls:=.type "set",dict:=none,data:=.set #[] 0 (.fresh 0 0 led) }):Ķ X h S [] led:=
 ⟨_,#[],0,.fresh 0 0 led,[],⟨e,⟨rfl,rfl,rfl⟩,rfl,⟨⟨.inl rfl,Yb,λj c=>(Rz c).elim,rfl⟩,rfl,λx b=>(Rz b).elim⟩,(by show 0*5<7*3;decide),rfl,.nil,Zh⟩,λ_=>Iff.rfl,rfl⟩
noncomputable abbrev bI (led:Bool):J':={ cls:=.type "set",dict:=none,data:=.set #[] 0 (.fresh 0 0 led) }
noncomputable abbrev bN (w:Pz):Bool:=!(w.params.followText "set-order")
theorem Fj (h:Q₁ (.ref s.heap.objs.size) { s with heap:=s.heap.push (bI (bN w)) }):
  codeAny (Px prog w) A (.call (.builtin "set.__new__") ⟨[.type "set",x],[]⟩) (wants Q₁ E) s:=by
 refine codeAny_of_tree (Pm (wpAny_of_eq (PySem.F.newCall_set_1 x) (Pu ⟨Ð agc _,VJ PySem.F.entry_set_new ?_⟩)));rw[Y6 agc _];have c1:=sub_set_self;unfold S7.«set.__new__» S7.Frozenset.newClass;obtain⟨b,g,d,c,os⟩:=s;dsimp only at h ⊢;wp_walk;refine Ñ (Pu ?_);dsimp only;simp only[newObj];exact Pm (wpAny_alloc (Pu (Pu h)))
theorem AC (h:Pq (Px prog w) A.in1.in1 (S7.«set.__init__» ⟨[.ref s.heap.objs.size,x],[]⟩) (λfin s'=>∃r,fin=.done (.ret r)/\r=.none/\Q (.ref s.heap.objs.size) s') E { s with heap:=s.heap.push (bI (bN w)) }):
  Pq (Px prog w) A (call (.type "set") [x]) Q E s:=by
 have T:=PySem.F.called_set;obtain⟨c,p,m⟩:=T.mro;have c1:=T.made;have t:=T.sub;have C:=T.notType;have v:=T.canCreate;have u:=PySem.F.typeCall_set_1 x;refine Ò (codeAny_of_tree (Pu ⟨Š _ (by decide +kernel),VJ PySem.F.entry_type_call ?_⟩));rw[P7.under_plain (weight_type_call_type "set" [x] []) rfl]
 repeat (any_goals (first|assumption|wp_step))
 refine Xq (Fj (x:=x) (E:=E) (Q₁:=λobj f=>obj=.ref s.heap.objs.size/\f={ s with heap:=s.heap.push (bI (bN w)) }) ⟨rfl,rfl⟩) λr f q=>?_
 match r,q with
 | .error e,q=>exact q
 | .ok (.ret obj),⟨n,j⟩=>
  subst n j;have ty:É { s with heap:=s.heap.push (bI (bN w)) } (.ref s.heap.objs.size) "set":=⟨_,Rb _ rfl,rfl⟩
  have o:=T.init.lookup;have y:=T.init.bind (.ref s.heap.objs.size)
  repeat (any_goals (first|assumption|wp_step))
  refine Xq (ĺ (R:=wants (λr g=>r=.none/\Q (.ref s.heap.objs.size) g) E) T.init.plain PySem.F.entry_set_init (check_set_init_1 ty (UY h (λfin s' ⟨r,e,z⟩=>?_) λ_ _ z=>z))) λd g b=>?_
  .subst e;exact z
  .match d,b with
   | .error e,b=>exact b
   | .ok (.ret r),⟨e3,b⟩=>
    subst e3
    repeat (any_goals (first|assumption|wp_step))
end
section
variable {prog:PU}{w:Pz}{K:Type} [DecidableEq K] {A:P7}{E:G'->N'->Prop}{X:TX prog w K}{s:N'}
theorem wF (hh:A.handled=none)(hr:X.knd.room A.in1.in1.in1)(hl:s.heap.IsList l items)(p:PR (CQ X s.heap) items.toList keys)(hn:keys.length<70)(h:∀h' tk,(∀b o,s.heap.get? b=some o->h'.get? b=some o)->Ķ X h' s.heap.objs.size keys (bN w)->Q (.ref s.heap.objs.size) { s with heap:=h',toks:=tk }):Pq (Px prog w) A (call (.type "set") [.ref l]) Q E s:=by
 refine AC ?_;generalize y:bN w=led at h ⊢;obtain⟨⟨D,m,C,g⟩,v,n,u,c⟩:=hl;simp only at n c;subst n c;have lt:l<s.heap.objs.size:=Qf v;have x:(s.heap.push (bI led)).get? s.heap.objs.size=some (bI led):=Rb _ rfl;have L:É { s with heap:=s.heap.push (bI led) } (.ref s.heap.objs.size) "set":=⟨_,x,rfl⟩
 have f:(s.heap.push (bI led)).get? l=some { cls:=.type "list",dict:=m,data:=.seq items u,slots:=g }:=Qn _ v;have M:=PySem.F.sub_list_set;have J:=PySem.F.sub_list_frozenset;have G:(TV "list"==TV "dict")=false:=by decide
 have t:(s.heap.push (bI led)).IsList l items:=⟨_,f,rfl,u,rfl⟩
 unfold S7.«set.__init__» noKeywords ĉ;generalize j:pyIter=PI;wp_walk;subst j;refine ń t (Pm (Ņ ?_));have d:(s.heap.push (bI led)).objs.size=s.heap.objs.size+1:=Zg ..;refine CS (X:=X) (h0:=s.heap) (S:=s.heap.objs.size) (I:=(s.heap.push (bI led)).objs.size) (l:=l) (items:=items) (keys:=keys) ?_ ?_ (by rw[d];exact Wj (Za lt)) (by rw[d];exact Qw (Yd _)) (Wj lt) p hn (items.size-0) 0 _ rfl (RA _)
  ⟨⟨_,Rb _ rfl,rfl,rfl⟩,t.push _⟩ (λb o _ _ e=>Qn _ (Qn _ e)) (λb o e=>⟨Qw (Qf e),by rw[d];exact Qw (Za (Qf e))⟩)
  (AB (led:=led) (Qn _ x)) λh' tk k1 F=>?_
 .simp[hh]
 .exact hr
 .refine Pu ?_;refine Pu ⟨_,rfl,rfl,h h' tk (λb o e=>?_) F⟩;exact k1 b o (Qw (Qf e)) (by rw[d];exact Qw (Za (Qf e))) (Qn _ (Qn _ e))
end
theorem uM (n:Nat)(tp:s.heap.IsTuple a items)(hv:∀v∈items.toList,∀(Q:Bool->N'->Prop),Q true s->Pq (Px prog w) A (hashByValue n v) Q E s)(h:Q true s):
  Pq (Px prog w) A (hashByValue (n+1) (.ref a)) Q E s:=by
 have d:=gh tp;obtain⟨o,f,j,m,hd⟩:=tp;unfold hashByValue;refine Pm (Zf d Þ.lookup ?_);refine Pm (Ā f hd ?_);refine Pm ?_;show Pq _ _ (forIn items _ _) _ _ s;rw[<-Ú];refine UB _ (λrest r c=>r.1=none/\c=s/\∀v∈rest,v∈items.toList) _ ?turn ?fin _ _ ⟨rfl,rfl,λv hv=>hv⟩
 case turn=>
  rintro v rest ⟨r1,r2⟩ c ⟨b,e,all⟩;simp only at b;subst e b;refine Pm (hv v (all v Qa) _ ?_);simp only[Ui,Q7,if_false];exact Pu ⟨rfl,rfl,λu g=>all u (Qr _ g)⟩
 case fin=>
  rintro⟨r1,r2⟩ c ⟨b,e,_⟩;simp only at b;subst e b;exact Pu h
theorem uN (n:Nat)(tp:s.heap.IsTuple a items)(hv:∀v∈items.toList,∀(Q:Bool->N'->Prop),Q false s->Pq (Px prog w) A (ofAClassStatement n v) Q E s)(h:Q false s):
  Pq (Px prog w) A (ofAClassStatement (n+1) (.ref a)) Q E s:=by
 have d:=gh tp;obtain⟨o,f,j,m,hd⟩:=tp;unfold ofAClassStatement;refine Pm (Zp d ?_);dsimp only;rw[PK (by decide)];refine Pm (Pu ?_);simp only[Ui,Q7,if_false];refine Pm (Ā f hd ?_);dsimp only;refine Pm ?_;rw[<-Ú];refine UB _ (λrest r c=>r.1=none/\c=s/\∀v∈rest,v∈items.toList) _ ?turn ?fin _ _ ⟨rfl,rfl,λv hv=>hv⟩
 case turn=>
  rintro v rest ⟨r1,r2⟩ c ⟨b,e,all⟩;simp only at b;subst e b;refine Pm (hv v (all v Qa) _ ?_);simp only[Q7,if_false];exact Pu ⟨rfl,rfl,λu g=>all u (Qr _ g)⟩
 case fin=>
  rintro⟨r1,r2⟩ c ⟨b,e,_⟩;simp only at b;subst e b;exact Pu h
theorem CT (n:Nat)(x:bQ s.heap ks a)(h:Q true s):Pq (Px prog w) A (hashByValue (n+1) (.ref a)) Q E s:=by
 obtain⟨i,t,r⟩:=x;refine uM n t (λv b c q=>?_) h;obtain⟨k,_,t',e⟩:=fK r v b;subst e;cases n <;> exact Pu q
theorem CU (n:Nat)(x:bQ s.heap ks a)(h:Q false s):Pq (Px prog w) A (ofAClassStatement (n+1) (.ref a)) Q E s:=by
 obtain⟨i,t,r⟩:=x;refine uN n t (λv b c q=>?_) h;obtain⟨k,_,t',e⟩:=fK r v b;subst e;cases n <;> exact Pu q
theorem AD (n:Nat)(x:dB s.heap QD a)(h:Q true s):Pq (Px prog w) A (hashByValue (n+2) (.ref a)) Q E s:=by
 obtain⟨i,t,r⟩:=x;refine uM (n+1) t (λv c d q=>?_) h;obtain⟨ks,_,b,e,g⟩:=fK r v c;subst e;exact CT n g q
theorem AE (n:Nat)(x:dB s.heap QD a)(h:Q false s):Pq (Px prog w) A (ofAClassStatement (n+2) (.ref a)) Q E s:=by
 obtain⟨i,t,r⟩:=x;refine uN (n+1) t (λv c d q=>?_) h;obtain⟨ks,_,b,e,g⟩:=fK r v c;subst e;exact CU n g q
theorem CV (x:bQ h ks a)(k:∀b o,o.cls=.type "tuple"->h.get? b=some o->h'.get? b=some o):bQ h' ks a:=by
 obtain⟨i,⟨o,e,c,n,d⟩,r⟩:=x;exact⟨i,⟨o,k _ _ c e,c,n,d⟩,r⟩
theorem AF (x:dB h QD a)(k:∀b o,o.cls=.type "tuple"->h.get? b=some o->h'.get? b=some o):dB h' QD a:=by
 obtain⟨i,⟨o,e,c,n,d⟩,r⟩:=x;exact⟨i,⟨o,k _ _ c e,c,n,d⟩,bf (λ_ _ ⟨b,e,q⟩=>⟨b,e,CV q k⟩) r⟩
noncomputable def K9 (prog)(w):TX prog w (List (List Int)) where
 knd:=iU prog w
 abp:=λhk h=>AD 6 hk h
 aav:=λhk h=>AE 6 hk h
 keep:=λhk k=>AF hk k
theorem ff:Slot "set_iterator" "__next__" "set_iterator.__next__":=
 .of (owner:="set_iterator") (n:="__next__") (by rw[ŀ,Ĺ];kernel_rfl) (by decide +kernel) (by decide +kernel) (by decide +kernel)
  (by first|exact .inl (by decide +kernel)|exact .inr (by decide +kernel)) (by rw[Ï];kernel_rfl)
theorem mZ:entryFor table "set_iterator.__next__"=some S7.«set_iterator.__next__»:=entryFor_of_tree (by kernel_rfl)
theorem oM (a):argsOk "set_iterator.__next__" ⟨[a],[]⟩:=by unfold argsOk;kernel_rfl
theorem jb:Slot "set_iterator" "__iter__" "set_iterator.__iter__":=
 .of (owner:="set_iterator") (n:="__iter__") (by rw[ŀ,Ĺ];kernel_rfl) (by decide +kernel) (by decide +kernel) (by decide +kernel)
  (by first|exact .inl (by decide +kernel)|exact .inr (by decide +kernel)) (by rw[Ï];kernel_rfl)
theorem qi:entryFor table "set.__iter__"=some S7.«frozenset.__iter__»:=
 Ļ (id':="frozenset.__iter__") (by kernel_rfl) rfl (by decide +kernel) (by kernel_rfl)
theorem oO {α:Type}:∀{l:List α}{i:Nat}(h:i<l.length),(l[i]::l.eraseIdx i).Perm l
 | [],_,h=>by simp at h
 | a::l,0,_=>ç _
 | a::l,i+1,h=>by
  have h':i<l.length:=by simpa using h
  have b:=oO h';show(l[i]::a::l.eraseIdx i).Perm (a::l);exact(agC a l[i] _).trans (b.cons a)
theorem xi {α:Type}(next:Nat->Nat):∀(fuel k:Nat) (left:List α) (out:Array α),fuel=left.length->(IS next fuel k left out).toList.Perm (out.toList++left)
 | 0,k,left,out,h=>by
  have:left=[]:=VH.mp h.symm;subst this;unfold IS;simp
 | fuel+1,k,left,out,h=>by
  have c:0<left.length:=by lia
  have b:next k % left.length<left.length:=Nat.mod_lt _ c;unfold IS;rw[Q5 b];dsimp only;refine(xi next fuel (k+1) (left.eraseIdx (next k % left.length)) _ (by rw[List.length_eraseIdx_of_lt b];lia)).trans ?_;rw[Array.toList_push,Y'];refine List.Perm.append_left _ ?_;exact oO b
theorem rj {α:Type}(next:Nat->Nat)(xs:Array α):(pickOrder next xs).toList.Perm xs.toList:=by
 have:=xi next xs.size 0 xs.toList #[] (by simp);simpa [pickOrder] using this
noncomputable abbrev cO (w:Pz):Bool:=w.params.followText "set-order"
noncomputable def wo (w:Pz)(a:D')(ep:Nat)(es:Array Sa.Rp):Array Sa.Rp:=if cO w=true then pickOrder (w.params.setOrder a ep) es else es
theorem qj (w)(a)(ep:Nat)(es):(wo w a ep es).toList.Perm es.toList:=by
 unfold wo
 split
 .exact rj _ _
 .exact ç _
noncomputable def at_ (w:Pz)(t:QZ)(i:Nat):Nat:=if cO w=true then 0 else match i with
 | 0=>0
 | i+1=>t.place.getD i 0+1
structure ó (h:Ps)(it a:D')(slot i n ep:Nat):Prop where
 ex:∃o,h.get? it=some o/\o.cls=.type "set_iterator"/\o.data=.fields #[.int slot 0,.int i 0,.ref a,.int n 0,.int ep 0]
structure Wk (w:Pz)(h:Ps)(a:D')(es:Array Sa.Rp)(ep:Nat)(t:QZ):Prop where
 ob:∃o,h.get? a=some o/\o.ExactSet/\o.data=.set es ep t
 rise:Sa.VT t.place
 size:t.place.size=es.size
 fits:t.fits es.size=true
 pl:t.plain=true
 led:t.led=bN w
theorem uO (r:Sa.VT t.place)(b:cO w=false):∀i,i<=t.place.size->below t.place (at_ w t i)=i
 | 0,_=>by
  obtain⟨g,c,d⟩:=Sa.Wm r (at_ w t 0);have e:at_ w t 0=0:=by unfold at_;rw[b];rfl
  rw[e] at c ⊢;rcases bY (below t.place 0) with z|z
  .exact z
  .have:=(Sa.Wm r 0).2.1 0 z (by have:=(Sa.Wm r 0).1;lia);(first|trivial|lia)
 | i+1,j=>by
  have f:i<t.place.size:=by (first|trivial|lia)
  have e:at_ w t (i+1)=t.place[i]+1:=by
   unfold at_;rw[b];simp[Uj,f]
  rw[e];obtain⟨g,c,d⟩:=Sa.Wm r (t.place[i]+1);rcases ω (below t.place (t.place[i]+1)) (i+1) with z|z|z
  .have:=d i (by lia) f;lia
  .exact z
  .have hz:i+1<t.place.size:=by lia
   have h:=c (i+1) z hz;have m:=Sa.Ĵ r (show i<i+1 by lia) hz;lia
theorem oP (a)(slot given ep:Nat):setNext a slot given ep=(do
  let (es,acV,t) <-setState a
  if <-setsByText then
   if acV != ep then unsupported "set_iterator.__next__:elements-changed"
   return ((<-setWalk a)[given]?).map λe=>(e.2,slot)
  if (!t.plain&&es.size > 1:Bool) then unsupported "set_iterator.__next__:the-table-is-plain-no-more"
  (do if !t.led&&!es.isEmpty then unsupported "set:maker-not-led":Sem Unit)
  let i:=QZ.below t.place slot
  return match es[i]?,t.place[i]? with
   | some (_,x),some j=>some (x,j+1)
   | _,_=>none):=rfl
theorem j7 (a):setWalk a=(do
  let (es,acV,t) <-setState a
  if <-setsByText then return pickOrder ((<-ask).params.setOrder a acV) es
  if (!t.plain&&es.size > 1:Bool) then return (<-drawOrder es.size es.toList).toArray
  (do if !t.led&&es.size > 1 then unsupported "set:maker-not-led":Sem Unit)
  return es):=rfl
theorem dX (h:Q (cO w) s):Pq (Px prog w) A setsByText Q E s:=by
 unfold setsByText;exact Pm (Ñ (Pu h))
theorem AG (W:Wk w s.heap a es ep t)(he:(wo w a ep es)[i]?=some e)(h:Q (some (e.2,at_ w t (i+1))) s):Pq (Px prog w) A (setNext a (at_ w t i) i ep) Q E s:=by
 obtain⟨o,g,n,hd⟩:=W.ob;rw[oP];refine Pm (SE g hd W.fits (Pm (dX ?_)));dsimp only;cases b:cO w with
 | true=>
  simp only[if_true,bne_self_eq_false,Q7,if_false];rw[j7];refine Pm (Pm (SE g hd W.fits (Pm (dX ?_))));simp only[b,if_true];refine Pm (Ñ (Pu ?_));refine Pu ?_;have d:(pickOrder (w.params.setOrder a ep) es)[i]?=some e:=by unfold wo at he;rw[b] at he;exact he
  show Q (Option.map _ (pickOrder (w.params.setOrder a ep) es)[i]?) s;rw[d];have f:at_ w t i=at_ w t (i+1):=by unfold at_;rw[b];rfl
  show Q (some (e.2,at_ w t i)) s;rw[f];exact h
 | false=>
  have d:es[i]?=some e:=by unfold wo at he;rw[b] at he;exact he
  have m:i<es.size:=(Xg.mp d).1;have c:i<t.place.size:=by rw[W.size];exact m
  have j:t.led=true:=by rw[W.led];show(!cO w)=true;rw[b];rfl
  simp only[Q7,if_false,W.pl,Ui,Ý,j];rw[uO W.rise b i (by lia)];refine Pu ?_;rw[d,Vd c];have f:at_ w t (i+1)=t.place[i]+1:=by unfold at_;rw[b];simp[Uj,c]
  rw[f] at h;exact h
theorem AH (W:Wk w s.heap a es ep t)(h:Q none s):Pq (Px prog w) A (setNext a (at_ w t es.size) es.size ep) Q E s:=by
 obtain⟨o,c,f,hd⟩:=W.ob;rw[oP];refine Pm (SE c hd W.fits (Pm (dX ?_)));dsimp only;cases b:cO w with
 | true=>
  simp only[if_true,bne_self_eq_false,Q7,if_false];rw[j7];refine Pm (Pm (SE c hd W.fits (Pm (dX ?_))));simp only[b,if_true];refine Pm (Ñ (Pu ?_));refine Pu ?_;have d:(pickOrder (w.params.setOrder a ep) es)[es.size]?=none:=by
   refine Û ?_;rw[<-RT,(rj _ _).length_eq,RT];exact P1 _
  show Q (Option.map _ (pickOrder (w.params.setOrder a ep) es)[es.size]?) s;rw[d];exact h
 | false=>
  have e:t.led=true:=by rw[W.led];show(!cO w)=true;rw[b];rfl
  simp only[Q7,if_false,W.pl,Ui,Ý,e];rw[uO W.rise b es.size (by rw[W.size];exact P1 _)];refine Pu ?_;rw[Û (P1 _)];exact h
theorem fM {s:N'}{it:D'}{a:D'}{ep:Nat}{i:Nat}{slot n:Nat}(I:ó s.heap it a slot i n ep):s.TypeIs (.ref it) "set_iterator":=let ⟨o,e,c,_⟩:=I.ex;⟨o,e,c⟩
theorem yL (W:Wk w s.heap a es ep t)(I:ó s.heap it a (at_ w t i) i es.size ep)(he:(wo w a ep es)[i]?=some e)(h:∀h',ó h' it a (at_ w t (i+1)) (i+1) es.size ep->UX it s.heap h'->Q (some e.2) { s with heap:=h' }):Pq (Px prog w) A (pyNext (.ref it)) Q E s:=by
 obtain⟨o,n,u,hd⟩:=W.ob;obtain⟨m,g,p,d⟩:=I.ex;unfold pyNext;refine Pm (ł (Ó (name:=Vi "__next__") (fM I) ff (UU ff (fM I) mZ ?_ (oM _))));unfold S7.«set_iterator.__next__»;refine Pm (Pu ?_);refine Pm (wpAny_fieldsOf g d ?_);dsimp only;refine Pm (Ň n hd W.fits ?_);rw[Pr (by simp)];refine Pm ?_;show Pq _ _ (setNext a (at_ w t i) i ep) _ _ _;refine AG W he ?_;dsimp only;have v:J'.isFreed m=J'.isFreed m:=rfl;refine Pm (ň g d (by simp) ?_);have c:=Đ (oN (·.setIfInBounds 0 (rawInt ((at_ w t (i+1):Nat):Int)))) g (agd (Ĩ d _));have b:=Ĩ d (·.setIfInBounds 0 (rawInt ((at_ w t (i+1):Nat):Int)));refine Pm (ň (s:={ s with heap:=s.heap.update it (oN (·.setIfInBounds 0 (rawInt ((at_ w t (i+1):Nat):Int)))) }) c b (by simp) ?_);have j:=Đ (oN (·.setIfInBounds 1 (rawInt ((i:Int)+1)))) c (agd (Ĩ b _));have f:=Ĩ b (·.setIfInBounds 1 (rawInt ((i:Int)+1)));refine Pu ⟨_,rfl,Pu (h _ ⟨_,j,?_,?_⟩ ((π ..).trans (π ..)))⟩
 .rw[J'.cls_mapFields,J'.cls_mapFields];exact p
 .rw[f];simp[rawInt]
theorem AI (hh:A.handled=none)(W:Wk w s.heap a es ep t)(I:ó s.heap it a (at_ w t es.size) es.size es.size ep)(h:∀h',Ps.ExtBut it s.heap h'->Q none { s with heap:=h' }):Pq (Px prog w) A (pyNext (.ref it)) Q E s:=by
 obtain⟨o,e,f,hd⟩:=W.ob;obtain⟨j,c,g,d⟩:=I.ex;unfold pyNext;refine Pm (ł (Ó (name:=Vi "__next__") (fM I) ff (UU ff (fM I) mZ ?_ (oM _))));unfold S7.«set_iterator.__next__»;refine Pm (Pu ?_);refine Pm (wpAny_fieldsOf c d ?_);dsimp only;refine Pm (Ň e hd W.fits ?_);rw[Pr (by simp)];refine Pm ?_;show Pq _ _ (setNext a (at_ w t es.size) es.size ep) _ _ _;refine AH W ?_;dsimp only;refine Pm (ň c d (by simp) (Pm ?_));simp only[newExc,newTuple];refine Pm (Xl (Pm (m:=firstArgMember _ _) (wpAny_of_eq (a:=Xu) (by first|rfl|(simp only[firstArgMember];rfl)) (Xl ?_ (by size_fits)))) (by size_fits));simp only[raiseNew];refine Pm (wpAny_handled ?_);rw[show A.in1.handled=none from hh];refine Pm (Pu (wpAny_throw ?_));refine Pm (þ (T:="StopIteration") (b:=true) ⟨_,Rb _ rfl,rfl⟩ isSubtype_stop ?_);rw[PK rfl];exact Pu (h _ (((π ..).extBut.push _).push _))
theorem AJ (W:Wk w s.heap a es ep t)(h:Q (.ref s.heap.objs.size) { s with heap:=s.heap.push { cls:=.type "set_iterator",data:=.fields #[.int 0 0,.int 0 0,.ref a,.int es.size 0,.int ep 0] } }):Pq (Px prog w) A (pyIter (.ref a)) Q E s:=by
 obtain⟨o,b,e,hd⟩:=W.ob;have c:s.TypeIs (.ref a) "set":=⟨o,b,e.1⟩
 refine wpAny_pyIter_slot c age (UU age c qi ?_ (PySem.F.args_set_iter_1 _));unfold S7.«frozenset.__iter__» S7.Frozenset.slot0 slotArgs;simp only[List.isEmpty_nil,Ui,Q7,↓reduceIte,bind_assoc,Xp,bne_self_eq_false];unfold ŗ S7.Frozenset.sizeOf;refine Pm (Pu ?_)
 try dsimp only
 refine Pm (Pu ?_);refine Pm (Pm (Ň b hd W.fits (Pu ?_)));unfold setDrawn;refine Pm (Pm (SE b hd W.fits (Pm (dX (Pu ?_)))));have d:(!cO w&&(!t.plain&&decide (es.size > 1)))=false:=by rw[W.pl];simp
 show Pq _ _ (if (!cO w&&(!t.plain&&decide (es.size > 1)))=true then _ else _) _ _ _;rw[d,Pr TQ];refine Pm (Pu ?_);refine Pm (wpAny_setEpoch_of b hd W.fits ?_);simp only[newFields];refine Pm (Xl ?_ (by size_fits));exact Pu ⟨_,rfl,"set_iterator",_,⟨_,Rb _ rfl,rfl⟩,ff.lookup,h⟩
theorem nL:entryFor table "set_iterator.__iter__"=some S7.«dict_keyiterator.__iter__»:=
 Ļ (id':="dict_keyiterator.__iter__") (by kernel_rfl) rfl (by decide +kernel) (by kernel_rfl)
theorem oQ (a):argsOk "set_iterator.__iter__" ⟨[a],[]⟩:=by unfold argsOk;kernel_rfl
theorem CY (hT:s.TypeIs (.ref a) "set")(h:Q false s):Pq (Px prog w) A (afI (.ref a)) Q E s:=by
 unfold afI;refine Pm (Zf hT PySem.F.slot_set_len.lookup ?_);generalize e:("set.__len__":String)=id;wp_delta;rw[show splitId id=some ("set","__len__") from by subst e;decide +kernel];subst e;refine Pm (þ (T:="set") (b:=true) hT (by rw[Ï];kernel_rfl) ?_);refine wpAny_ite_split (λz=>Py z (by decide)) λ_=>wpAny_ite_split (λ_=>Pm (Zp hT (Pu h))) λz=>Py (by decide +kernel) z
theorem Wk.keep (W:Wk w h a es ep t)(k:∀o,h.get? a=some o->h'.get? a=some o):Wk w h' a es ep t:=
 let ⟨o,e,r⟩:=W.ob;⟨⟨o,k o e,r⟩,W.rise,W.size,W.fits,W.pl,W.led⟩
theorem xk:(wo w a ep es).size=es.size:=by rw[<-RT,(qj w a ep es).length_eq,RT]
theorem AK (hh:A.handled=none)(QO:a≠it):Walks prog w A it [it,a] [it] es.size (λi v=>∃e,(wo w a ep es)[i]?=some e/\v=e.2) (λi h=>ó h it a (at_ w t i) i es.size ep/\Wk w h a es ep t) where
 sub:=λb c=>by simp at c;simp[c]
 frame:=λ_ _ _ st f=>⟨⟨let ⟨o,e,r⟩:=st.1.ex;⟨o,f it (by simp) o e,r⟩⟩,st.2.keep λo e=>f a (by simp) o e⟩
 item:=λi s Q E p st d=>by
  have j:i<(wo w a ep es).size:=by rw[xk];exact p
  refine yL st.2 st.1 (Vd j) λh' n g=>?_;exact d _ h' s.toks ⟨_,Vd j,rfl⟩ ⟨n,st.2.keep λo e=>(g.2 a QO).trans e⟩ λb o c e=>(g.2 b (by simpa using c)).trans e
 done:=λs Q E st d=>AI hh st.2 st.1 λh' m=>d h' s.toks λb o c e=>m b o (by simpa using c) e
 self:=λi s Q E st d=>by
  refine wpAny_pyIter_slot (fM st.1) jb (UU jb (fM st.1) nL ?_ (oQ _));exact Pu ⟨_,rfl,"set_iterator",_,fM st.1,ff.lookup,d⟩
theorem Fl:at_ w t 0=0:=by unfold at_;split <;> rfl
theorem Fm:W.KdlSrc prog w "set" a a es.size (λi v=>∃e,(wo w a ep es)[i]?=some e/\v=e.2) (λh=>Wk w h a es ep t) where
 type:=λ_ W=>let ⟨o,e,x,_⟩:=W.ob;⟨o,e,x.1⟩
 there:=λ_ W=>let ⟨o,e,_⟩:=W.ob;⟨Qf e,Qf e⟩
 keep:=λ_ _ W k=>W.keep λo e=>k a (.inl rfl) o e
 notList:=by decide
 notTuple:=by decide
 hint:=λ_ _ _ _ W b=>let ⟨o,e,x,_⟩:=W.ob;CY ⟨o,e,x.1⟩ b
 iter:=λA s c W=>by
  obtain⟨o,e,_⟩:=W.ob;refine⟨_,_,λE Q b=>AJ W b,AK c (Qw (Qf e)),⟨⟨_,Rb _ rfl,rfl,by rw[Fl];rfl⟩⟩,W.keep λo e=>Qn _ e⟩
theorem CZ (h:ItemsOf (λi v=>∃e,(wo w a ep es)[i]?=some e/\v=e.2) acc es.size):acc.toList.Perm (es.toList.map (·.2)):=by
 have e:acc.toList=(wo w a ep es).toList.map (·.2):=by
  refine List.ext_getElem? λi=>?_;rw[So,V',V']
  by_cases f:i<es.size
  .have b:i<acc.size:=by rw[h.1];exact f
   obtain⟨x,d,c⟩:=h.2 i acc[i] (Vd b);rw[Vd b,d,c];rfl
  .rw[Û (by rw[h.1];lia),Û (by rw[xk];lia)];rfl
 rw[e];exact(qj w a ep es).map _
theorem wG (hh:A.handled=none)(W:Wk w s.heap a es ep t)(hn:es.size<64)(h:∀h' tk vs,(∀b o,s.heap.get? b=some o->h'.get? b=some o)->s.heap.objs.size<=h'.objs.size->vs.Perm (es.toList.map (·.2))->Q vs { s with heap:=h',toks:=tk }):Pq (Px prog w) A (collect (.ref a)) Q E s:=by
 obtain⟨o,n,y,hd⟩:=id W.ob;have ne:s.heap.objs.size≠a:=Wj (Qf n);have fin:∀h' tk d g,(∀b o,b≠s.heap.objs.size->(s.heap.push (QB "list" #[] 0)).get? b=some o->h'.get? b=some o)->h'.get? s.heap.objs.size=some { cls:=.type "list",dict:=none,data:=.seq d g,slots:=#[] }->
   ItemsOf (λi v=>∃e,(wo w a ep es)[i]?=some e/\v=e.2) d es.size->Q d.toList { s with heap:=h',toks:=tk }:=λh' tk d g k1 m it=>
  h h' tk d.toList (λb o e=>k1 b o (Qw (Qf e)) (Qn _ e)) (Yh (Qf m)) (CZ it)
 unfold collect;refine Pm (Ņ (VJ entry_proto_collect' ?_));rw[Y6 PySem.F.plain_proto_collect _];refine Pm (Ã ?_ (RA _));refine Pu ⟨Ð af3 _,VJ entry_list_iadd' ?_⟩;rw[Y6 af3 _];refine UY (PySem.W.kdl_extend (A:=A) (s:={ s with heap:=s.heap.push (QB "list" #[] 0) }) (R:=λq j=>∃d g,q=.ok (.ret (.ref s.heap.objs.size))/\j.heap.get? s.heap.objs.size=some { cls:=.type "list",dict:=none,data:=.seq d g,slots:=#[] }/\Q d.toList j) (Fm (a:=a) (es:=es) (ep:=ep) (t:=t)) hh (W.keep λo e=>Qn _ e) s.heap.objs.size ne ne (.ref s.heap.objs.size) 0 (Rb _ rfl)
  (λh' tk d g k1 m it=>⟨d,g,rfl,m,fin h' tk d g k1 m it⟩) (by rw[QA];lia)) (λf j x=>?_) λe j ⟨_,_,z,_⟩=>by cases z
 have done:∀j,(∃d g,j.heap.get? s.heap.objs.size=some { cls:=.type "list",dict:=none,data:=.seq d g,slots:=#[] }/\Q d.toList j)->Pq (Px prog w) A (load s.heap.objs.size >>= λo=>match o.data with | .seq xs _=>pure xs.toList|_=>unsupported "internal:collect") Q E j:=λj ⟨_,_,e,q⟩=>Pm (wpAny_load e (Pu q));cases f with
 | done f=>
  obtain⟨d,g,e,m,q⟩:=x;cases e;exact done j ⟨d,g,m,q⟩
 | again c=>
  refine⟨x.1,Xq x.2 λq u p=>?_⟩;obtain⟨d,g,e,m,q⟩:=p;subst e;exact done u ⟨d,g,m,q⟩
noncomputable def j8 (w:Pz)(a:D')(bs:List D'):HO:=.ext λh=>∃es ep t,Wk w h a es ep t/\es.size<70/\es.toList.map (·.2)=bs.map Qu
theorem Fn (x:∃es ep t,Wk w h a es ep t/\es.size<70/\es.toList.map (·.2)=bs.map Qu):bt P w H h a (j8 w a bs):=by
 refine⟨x,?_,λb c ⟨es,ep,t,W,r⟩ k=>⟨es,ep,t,W.keep λo e=>k o e,r⟩⟩;obtain⟨_,_,_,W,_⟩:=x;obtain⟨o,e,_⟩:=W.ob;exact⟨o,e⟩
noncomputable def TX.only {w:Pz}{K:Type}[DecidableEq K](Y:TX prog w K)(G:K->D'->Prop):TX prog w K where
 knd:={
  is:=λh x b=>Y.knd.is h x b/\G x b
  hash:=Y.knd.hash
  draws:=Y.knd.draws
  room:=Y.knd.room
  inj:=λp q=>Y.knd.inj p.1 q.1
  keeps:=λp ho hd hs=>⟨Y.knd.keeps p.1 ho hd hs,p.2⟩
  pyHash:=λhu hk h=>Y.knd.pyHash hu hk.1 h
  eqBool:=λhu hx hy h=>Y.knd.eqBool hu hx.1 hy.1 h
  quiet:=λhk h=>Y.knd.quiet hk.1 h }
 abp:=λhk h=>Y.abp hk.1 h
 aav:=λhk h=>Y.aav hk.1 h
 keep:=λhk k=>⟨Y.keep hk.1 k,hk.2⟩
theorem dC {K:Type}[DecidableEq K]:∀(a c:List K),a.Nodup->(∀x∈a,x∈c)->a.length<=c.length:=by
 intro a
 induction a with
 | nil=>intro c _ _;exact RA _
 | cons x a b=>
  intro c nd f;rw[Tw] at nd;have d:=f x Qa;have:=b (c.erase x) nd.2 λy e=>(ŷ (by rintro rfl;exact nd.1 e)).mpr (f y (Qr _ e));rw[ŵ d] at this;have g:0<c.length:=ã d;simp only[QU];lia
theorem AL {K:Type}[DecidableEq K](k:Dk K)(Y:TX X.prog X.w K)(hr:Y.knd.room X.A.in1.in1.in1)(hc:X.calm=true)(hk:∀{ac:List (D'×J')}{σ:St}{H:Hp}{s:N'}{b:D'}{x:K},Inv X ac σ H s->k.rep X.K H (.ref b) x->Y.knd.is s.heap x b)(ahs:∀{K':Po}{H:Hp}{v:V}{x:K},k.rep K' H v x->∃b,v=.ref b):
  cF X (.type "set") (λxs H Q=>∃(y:V) (keys:List K),xs=[y]/\(GG k).rep X.K H y keys/\keys.length<70/\∀(p:D') (bs:List D') (ks:List K),H p=none->PR (λb x=>k.rep X.K H (.ref b) x) bs ks->ks.Nodup->(∀x,x∈ks↔x∈keys)->Q (.ref p) (upd H p (j8 X.w p bs))):=by
 intro ac s σ H xs us Q I r h;obtain⟨y,keys,rfl,⟨p,as,e,U,hd⟩,f,q⟩:=h;subst e;obtain⟨u,rfl,D⟩:=dc r;cases D;obtain⟨g,J,pl,hz⟩:=I.list U;have kd:PR (λv x=>∃b,v=Qu b/\k.rep X.K H (.ref b) x) g keys:=mq (F:=aI) (G:=k.rep X.K H) (λx u W c j=>by
  obtain⟨b,rfl⟩:=ahs j;cases c;exact⟨b,rfl,j⟩) J hd
 have d:PR (CQ (Y.only λx b=>k.rep X.K H (.ref b) x) s.heap) g.toArray.toList keys:=bf (λ_ _ ⟨b,e,z⟩=>⟨b,e,hk I z,z⟩) kd;refine wF (X:=Y.only λx b=>k.rep X.K H (.ref b) x) (I.ok.hd hc) hr pl.isList d f λh' Z k1 F=>?_;obtain⟨o,es,ep,t,ks,S,m,R⟩:=F;have len:es.size=ks.length:=by rw[<-RT];exact S.el.length
 have N:ks.length<70:=iF (dC ks keys S.nd λx E=>(m x).mp E) f;have each:∀{l:List Sa.Rp}{js:List K},PR (El (Y.only λx b=>k.rep X.K H (.ref b) x) h') l js->∃bs:List D',l.map (·.2)=bs.map Qu/\PR (λb x=>k.rep X.K H (.ref b) x) bs js:=by
  intro l js O
  induction O with
  | nil=>exact⟨[],rfl,.nil⟩
  | @cons e x l js c _ ih=>
   obtain⟨b,L,n,_⟩:=c;obtain⟨bs,M,P⟩:=ih;exact⟨b::bs,by rw[QJ,QJ,M,L],.cons n.2 P⟩
 obtain⟨bs,T,C⟩:=each S.el;refine⟨.ref s.heap.objs.size,_,I.laid (o:=j8 X.w s.heap.objs.size bs) k1 (P1 _) ?_,rfl,q _ bs ks (I.PQ.fresh (P1 _)) C S.nd m⟩;exact Fn ⟨es,ep,t,⟨⟨o,S.ob,S.ex,S.dt⟩,S.full.tab.rise,S.full.size,U2.fits (s:={ s with heap:=h' }) S,S.pl,R⟩,by lia,T⟩
theorem GX {σ:St}(I:Inv X ac σ H s)(ha:H a=some (j8 X.w a bs)):∃es ep t,Wk X.w s.heap a es ep t/\es.size<70/\es.toList.map (·.2)=bs.map Qu:=(show bt X.prog X.w H s.heap a (j8 X.w a bs) from I.PQ a _ ha).1
theorem AM:cF X (.builtin "len") (λxs H Q=>∃p bs,xs=[V.ref p]/\H p=some (j8 X.w p bs)/\Q (.int bs.length) H):=by
 intro ac s g H xs us Q I r h;obtain⟨p,bs,rfl,f,q⟩:=h;obtain⟨u,rfl,c⟩:=dc r;cases c;obtain⟨es,ep,t,W,lt,eq⟩:=GX I f;obtain⟨o,d,b,e⟩:=id W.ob;have len:es.size=bs.length:=by have:=congrArg Xs eq;simpa using this
 exact call_len_set d b e W.fits (by lia) ⟨.int bs.length,H,I.tok _,⟨_,by rw[len]⟩,q⟩
end L2
namespace L2
open PySem PySem.Spec PyProof.Rows
theorem oW (a b:Nat):Č (a:Int) (b:Int)=((a &&& b:Nat):Int):=rfl
theorem rK (a b:Nat):č (a:Int) (b:Int)=((a ||| b:Nat):Int):=by
 rw[<-PyProof.Rows.bitOr_eq];unfold Spec.bitOr Spec.bitAnd;have e:decide (0<=Zr (a:Int))=false:=by unfold Zr;exact Qd (by lia)
 have d:decide (0<=Zr (b:Int))=false:=by unfold Zr;exact Qd (by lia)
 rw[e,d];have c:∀x:Int,Zr (Zr x)=x:=λx=>by unfold Zr;lia
 simp only[c,UT]
theorem yN (h:m.testBit t=false):2 ^ t &&& m=0:=by
 refine aT λi=>?_;rw[Nat.testBit_and,ago,Nat.zero_testBit]
 by_cases e:t=i
 .subst e;rw[h];simp
 .simp[e]
theorem bJ {α:Type}{x:α}{xs:List α}:SJ (x::xs) 0=some x:=cH (j:=0) rfl
theorem fO {α:Type}{x y:α}{xs:List α}:SJ (x::y::xs) 1=some y:=cH (j:=1) rfl
theorem nO {α:Type}{x y z:α}{xs:List α}:SJ (x::y::z::xs) 2=some z:=cH (j:=2) rfl
theorem qk (hN:X.N.Nodup)(hi0:X.N[i0]?=some y)(hx:Loc X.env.scope y)(hc:X.calm=true)(S:Uk X.env.scope X.N scope x)(hi:PI X (.Name x px) iter wi)(ht:∀(cl:List (M'×D')) (C:D') (Qy:N') (RI:Hp) (fp:List D') (ac:List (D'×J')),PTs (RJ X scope cl x C Qy RI fp ac) ifs tt)(he:∀(cl:List (M'×D')) (C:D') (Qy:N') (RI:Hp) (fp:List D') (ac:List (D'×J')),PE (RJ X scope cl x C Qy RI fp ac) elt te)(ZQ:swapsWith (.ListComp elt [⟨.Name x px,iter,ifs,0⟩] scope pos) (some (.Name y py)) afg.line X.env=pure true)(hs:∀v,foldedSetIterable iter X.env v=pure v:=by intro _;rfl)(hf:X.fn y=true\/X.env.scope.names.lookup y=some .local :=by first|exact .inl rfl|exact .inr rfl|assumption):
  PS X (.Assign [.Name y py] (.ListComp elt [⟨.Name x px,iter,ifs,0⟩] scope pos) afg) (tQ (D8 wi tt te) (yg i0)):=by
 intro ac s M H D0 I h;obtain⟨cl,ac1,Yt,ac2⟩:=oB (scope:=scope) (env:=X.env) (λy hy hf=>I.ok.has y.1 (S.free y hy hf));rw[exec_Assign_Name_used _ _ _ _ ZQ];refine Pm (Ø (Pm ?_));show Pq _ X.A (do let _ <-comprehension (.ListComp elt [⟨.Name x px,iter,ifs,0⟩] scope pos) scope X.env _ (newList []) false (eval iter X.env) (some (assign (.Name y py) X.env))) _ _ s;refine Pm (UY (OR (use:=some (assign (.Name y py) X.env)) (E:=X.xe) (Q:=λ_ F=>SP X ac D0 .next F) rfl hs ac1 S.kind S.names
  (PY (hi ac s M H _ I h) λP s1 h1=>PY h1 λitv s2 h2=>?_)) (λ_ F hq=>Pu (Pu hq)) λ_ _ e=>e)
 obtain⟨it,fp,tn,J,g,e,m,T,RN,f2,W,⟨m0,w0⟩,turn⟩:=h2;subst e;refine Xl (Ń S.cell (by intro y hy;cases hy) (λSI Ur T7=>?_) S.kind);dsimp only at Ur T7 ⊢;generalize hP:s2.heap.push { cls:=.type "list",dict:=none,data:=.seq ([]:List G').toArray }=P2 at Ur T7 ⊢;have hC:P2.objs.size=s2.heap.objs.size+1:=by rw[<-hP,Zg]
 have XN:s2.heap.objs.size≠P2.objs.size:=by rw[hC];exact Qw (Yd _)
 have L:s2.heap.objs.size<=P2.objs.size:=by rw[hC];exact Zq _
 have old:∀b o,s2.heap.get? b=some o->SI.get? b=some o:=λb o e=>by
  have f:=Qf e;exact T7.extBut b o (by rw[hC];exact Qw (Za f)) (Qn _ (hP▸Qn _ e))
 have hd:SI.get? s2.heap.objs.size=some (bZ [] 0):=T7.extBut _ _ XN (Qn _ (hP▸Rb _ rfl));have fo:∀b∈fp,∃o,s2.heap.get? b=some o:=λb f=>by
  obtain⟨o,e,_⟩:=T.obj _ _ RN b f;exact⟨o,e⟩
 have YG:∀b∈fp,b≠s2.heap.objs.size:=λb f=>by
  obtain⟨o,e⟩:=fo b f;exact Qw (Qf e)
 have JY:Inv (RJ X scope cl x P2.objs.size s2 g fp ac) [(s2.heap.objs.size,bZ [] 0)] (none::M) g { s2 with heap:=SI,toks:=s2.toks+([]:List (M'×G')).length }:=
  qS m S f2 fo Yt ac2 (P1 _) L XN ⟨_,Ur⟩ hd old
 have Vp:∀{G:Hp}{j:List G'}{n:Nat},(∀b∈fp,G b=none)->∀b∈fp,jn (RJ X scope cl x P2.objs.size s2 g fp ac) [(s2.heap.objs.size,bZ j n)] G b:=λ{G j n} hn b f=>by
  obtain⟨_,g1,g2,g3,g4,g5⟩:=f2 b f;obtain⟨o,e⟩:=fo b f;refine⟨hn b f,?_,λz=>?_,.inl f,λy c q=>g4 y c (Yt y c q),λp t=>?_⟩
  .show b≠P2.objs.size;exact Qw (Rs (Qf e) L)
  .rcases Qe.mp (m.Vl b z) with r|r
   .exact g1 r
   .exact g2 r
  .rcases QW.mp t with z|z
   .exact g5 p z
   .rw[Ri.mp z];exact λq=>YG b f q.symm
 have nodup:(RJ X scope cl x P2.objs.size s2 g fp ac).N.Nodup:=Tw.mpr ⟨S.fresh,hN⟩;have loc:Loc (RJ X scope cl x P2.objs.size s2 g fp ac).env.scope x:=.inl (ù S.var);have loop:∀s4:N',s4={ s2 with heap:=SI,toks:=s2.toks+([]:List (M'×G')).length }->
   codeAny (Px X.prog X.w) X.A (.compLoop (.ListComp elt [⟨.Name x px,iter,ifs,0⟩] scope pos) 0 (.ref it) (.ref s2.heap.objs.size) (compEnvC scope cl P2.objs.size X.env))
    (compPost (Px X.prog X.w) X.A X.xe (some (assign (.Name y py) X.env)) (λ_ F=>SP X ac D0 .next F) (.ref s2.heap.objs.size) P2.objs.size) s4:=by
  rintro s4 rfl;refine codeAny_loop rfl (λn F=>∃i ys j c G v0,Inv (RJ X scope cl x P2.objs.size s2 g fp ac) [(s2.heap.objs.size,bZ j c)] (v0::M) G F/\tn i F.heap/\(∀b∈fp,G b=none)/\aL ys j/\W i n ys G) ?_ m0
   ⟨0,[],[],0,g,none,JY,T.keep _ _ _ RN (λb _ o e=>old b o e),λb f=>(f2 b f).1,.nil,w0⟩
  rintro n s3 ⟨i,ys,j,c,H3,v0,I3,SU,XJ,rv,w3⟩;show Pq _ _ ((compTurn (.ListComp elt [⟨.Name x px,iter,ifs,0⟩] scope pos) 0 (.ref it) (.ref s2.heap.objs.size) (compEnvC scope cl P2.objs.size X.env)).onRaise (λz=>do noteFrame z (compEnvC scope cl P2.objs.size X.env);theTreesLotGoes z)) _ _ s3;refine wpAny_noted ?_;rw[compTurn_list];rcases turn i n ys H3 w3 with⟨stop,hz,qn⟩|⟨go,hz,NN,Z,step⟩
  .refine Pm (Ø (Pm (PY (T.done (RJ X scope cl x P2.objs.size s2 g fp ac) rfl rfl rfl hc i _ s3 _ H3 _ I3 (Vp XJ) SU stop) λr s5 O=>?_)));obtain⟨hr,I5⟩:=O;subst hr;refine Pu ?_;obtain⟨mC,hmC,_⟩:=I5.loc;obtain⟨I6,nD⟩:=uc m f2 (P1 _) L I5 (UX.refl _ _) rv hz;have fC:H3 P2.objs.size=none:=I5.free;have q:=qn _ nD;have ZM:∀b o,s2.heap.get? b=some o->b≠P2.objs.size:=λb o e=>Qw (Rs (Qf e) L);have afh:∀z c,X.env.cells.lookup z=some c->c≠P2.objs.size:=λz c e=>by
    obtain⟨v,q⟩:=m.cell z c e;exact Qw (Rs q.lt L)
   have U:X.env.locals≠P2.objs.size:=Qw (Rs m.lt L);refine ü (qL (v:=.ref s2.heap.objs.size) I6 hN hi0 hx rfl (λs7 I7 ⟨a,sb,ha⟩=>?_) hf);have UK:P2.objs.size≠a:=by
    rcases ha with ha|ha
    .rw[ha];exact QC U
    .exact QC (afh _ _ ha)
   exact⟨mC,hmC.sameBut sb UK,λh' hs'=>⟨_,_,I7.turned (t':=s7.toks) (it:=P2.objs.size) (λb o f e=>(hs'.2 b f).trans e) (by rw[al (QC XN)];exact fC) (QC U) (.inr (RX m.sz L)) afh (λp t=>ZM _ _ (m.pin p t).1),q⟩⟩
  .refine Pm (Ø (Pm (PY (T.item (RJ X scope cl x P2.objs.size s2 g fp ac) rfl rfl rfl hc i _ s3 _ H3 _ I3 (Vp XJ) SU go) λr s5 O=>?_)));obtain⟨u,hr,h5⟩:=O;subst hr;refine Pm (PY h5 λ_ s6 O=>?_);obtain⟨P,H6,I6,r6,y6,YH,fr6⟩:=O;have I6':=I6.pinned (Vp fr6) (T.obj _ _ YH);refine Pm (ü (iI (i:=0) I6' nodup rfl loc r6 (λs7 I7=>?_) (.inr (ù S.var))));have q7:=step P H6 y6;refine Pm (ge (PY (ht cl P2.objs.size s2 g fp ac _ s7 _ H6 _ I7 q7) λok s8 O=>?_));obtain⟨H8,I8,q8⟩:=O;have back:∀{D:Hp}{s9:N'},Inv (RJ X scope cl x P2.objs.size s2 g fp ac) ([(s2.heap.objs.size,bZ j c)]++jA fp s6.heap) (some P::M) D s9->tn (i+1) s9.heap/\∀b∈fp,D b=none:=λ{D s9} R=>by
    refine⟨T.keep _ _ _ YH λb f o e=>(R.pin (b,o) (Sc _ (Sc _ (e8 f e)))).1,λb f=>?_⟩;obtain⟨o,e,d⟩:=T.obj _ _ YH b f;exact(R.pin (b,o) (Sc _ (Sc _ (e8 f e)))).2.1
   cases ok with
   | false=>
    obtain⟨m',hm,w8⟩:=Z ys H8 q8;obtain⟨t8,fr8⟩:=back I8;exact Pu ⟨rfl,m',hm,i+1,ys,j,c,H8,_,I8.Ym,t8,fr8,rv,w8⟩
   | true=>
    refine Pm (Pm (ge (PY (he cl P2.objs.size s2 g fp ac _ s8 _ H8 _ I8 q8) λyv s9 hh=>QK hh λy D R r9 q9=>?_)));obtain⟨m',hm,w9⟩:=Z _ _ q9;obtain⟨t9,fr9⟩:=back R;have Y:=R.Ym;obtain⟨eD,nD,XG,nf,_⟩:=Y.pin (s2.heap.objs.size,bZ j c) (Sc _ Qa);refine Pm (ST (items:=j.toArray) ⟨c,eD⟩ (λXO ac3 Yu=>?_) (by rw[QI,<-rv.length];exact Yh hz));obtain⟨c',e10⟩:=ac3;have ac4:XO.get? s2.heap.objs.size=some (bZ (j++[yv]) c'):=by rw[e10];simp
    have I10:Inv (RJ X scope cl x P2.objs.size s2 g fp ac) [] (some P::M) D { s9 with heap:=XO }:=by
     have I9e:Inv (RJ X scope cl x P2.objs.size s2 g fp ac) [] (some P::M) D s9:=Y.Zu λp t=>Py t (by simp);refine I9e.turned (t':=s9.toks) (it:=s2.heap.objs.size) (λb o f q=>(Yu.2 b f).trans q) nD XG (.inr (P1 _)) (λy cc q=>?_) λp t=>?_
     .obtain⟨v,z⟩:=m.cell y cc (Yt y cc q);exact Qw z.lt
     .have XQ:p∈X.pn++ac:=by
       have z:p∈(X.pn++ac)++[]:=t;simpa using z
      exact Qw (Qf (m.pin p XQ).1)
    have I11:Inv (RJ X scope cl x P2.objs.size s2 g fp ac) [(s2.heap.objs.size,bZ (j++[yv]) c')] (some P::M) D { s9 with heap:=XO }:=
     I10.Zu λp t=>by rw[Ri.mp t];exact⟨ac4,nD,XG,nf,λv q=>nomatch q⟩
    refine Pu (Pu ⟨rfl,m',hm,i+1,ys++[y],j++[yv],c',D,_,I11,?_,fr9,rv.append (.cons r9 .nil),w9⟩);exact T.keep _ _ _ t9 λb f o q=>(Yu.2 b (YG b f)).trans q
 exact codeAny_compStart_list (loop _ rfl) (T.self X.A 0 _ _ _ (T.keep _ _ _ RN (λb _ o e=>old b o e)) (loop _ rfl))
end L2
namespace L2
theorem ar.R0 (e:ar H H')(h:PX K H a xs):PX K H' a xs:=by
 rcases h with(h|⟨o,h⟩)|h
 .exact .inl (.inl (e _ _ h))
 .exact .inl (.inr ⟨o,e _ _ h⟩)
 .exact .inr h
end L2
namespace L2
open PySem
def dh (d:D')(H H':Hp):Prop:=∀b o,b≠d->H b=some o->H' b=some o
theorem dh.refl (d)(H):dh d H H:=λ_ _ _ e=>e
theorem dh.trans (e:dh d H H')(e':dh d H' TB):dh d H TB:=λb o n h=>e' b o n (e b o n h)
theorem dh.upd (o):dh d H (L2.upd H d o):=λb u n h=>by rw[al n];exact h
theorem dh.P6 (e:dh d H H')(hd:H d=some (.dK kvs))(h:PM K H a xs):PM K H' a xs:=by
 rcases h with(h|⟨o,h⟩)|h
 .exact .inl (.inl (e _ _ (by rintro rfl;rw[hd] at h;cases h) h))
 .exact .inl (.inr ⟨o,e _ _ (by rintro rfl;rw[hd] at h;cases h) h⟩)
 .exact .inr h
theorem dh.R0 (e:dh d H H')(hd:H d=some (.dK kvs))(h:PX K H a xs):PX K H' a xs:=by
 rcases h with(h|⟨o,h⟩)|h
 .exact .inl (.inl (e _ _ (by rintro rfl;rw[hd] at h;cases h) h))
 .exact .inl (.inr ⟨o,e _ _ (by rintro rfl;rw[hd] at h;cases h) h⟩)
 .exact .inr h
theorem cC {α:Type}{l:List α}{i:Nat}{x:α}(h:l[i]?=some x):l.take (i+1)=l.take i++[x]:=by rw[Xm,h];rfl
noncomputable def UO (ws:List Int):List (Key×V):=ws.map λk=>(RH k,V.bl true)
theorem qo (ws)(k:Int):(cj (UO ws) (.inl k)).isSome=decide (k∈ws):=by
 induction ws with
 | nil=>rfl
 | cons x ws b=>
  by_cases h:x=k
  .subst h;show(cj ((RH x,V.bl true)::UO ws) (.inl x)).isSome=_;rw[ed rfl];simp
  .show(cj ((RH x,V.bl true)::UO ws) (.inl k)).isSome=_;rw[ef (by intro e;exact h (Ê e)),b];simp[QC h]
theorem Fu (h:k∉ws):du (UO ws) (.inl k) (.bl true)=UO (ws++[k]):=by
 unfold du;rw[j4,qo,Qd h,Pr (by decide)];unfold UO;rw[UC];rfl
theorem cX (h:PM K H p (o.map V.int)):aV.rep K H (.ref p) o:=by
 refine⟨p,_,rfl,h,?_⟩;clear h
 induction o with
 | nil=>exact .nil
 | cons x o b=>exact .cons rfl b
theorem dH (h:aV.rep K H x o):∃p,x=.ref p/\PM K H p (o.map V.int):=by
 obtain⟨p,xs,e,q,r⟩:=h;have:xs=o.map V.int:=by
  clear q e
  induction r with
  | nil=>rfl
  | cons h _ ih=>rw[ih,QJ];cases h;rfl
 exact⟨p,e,this▸q⟩
theorem G3:∀{i:Nat}{kv:Key×V},(kvs.map (·.1)).Nodup->kvs[i]?=some kv->cj kvs kv.1=some kv.2:=by
 induction kvs with
 | nil=>intro i kv _ h;simp at h
 | cons k0 kvs b=>
  intro i kv nd h;rw[QJ,Tw] at nd;cases i with
  | zero=>simp at h;subst h;exact ed rfl
  | succ i=>
   have h':kvs[i]?=some kv:=by simpa using h
   rw[ef (λz=>nd.1 (by rw[z];exact Qs.mpr ⟨kv,Q6 h',rfl⟩))];exact b nd.2 h'
end L2
namespace L2
open PySem PySem.Spec PyProof.Rows
noncomputable def gm (base h:Ps)(as:List D'):Ps:=Yl h ((Q3 h.objs.size).filter λb=>(base.get? b).isNone&&!as.contains b)
theorem nT (e:(gm base h as).get? b=some o):h.get? b=some o/\((base.get? b).isSome=true\/b∈as):=by
 have c:=ð _ e;refine⟨c,US λd=>?_⟩;have:(gm base h as).get? b=none:=İ _ (Sd.mpr ⟨R7.mpr (Qf c),by
  cases q:base.get? b with
  | some o'=>exact Py (.inl (by rw[q];rfl)) d
  | none=>
   have:b∉as:=λz=>d (.inr z);simp[this]⟩)
 rw[this] at e;cases e
theorem lG (e:h.get? b=some o)(hb:(base.get? b).isSome=true\/b∈as):(gm base h as).get? b=some o:=Zj _ e λm=>by
 have:=(Sd.mp m).2;rcases hb with q|q
 .cases z:base.get? b with
  | none=>rw[z] at q;cases q
  | some o'=>rw[z] at this;cases this
 .simp[q] at this
theorem Mod.more {K:Po}(M:Mod K mg base)(k:∀b o,base.get? b=some o->h.get? b=some o):Mod K mg (gm base h as):=by
 have c:∀b o,base.get? b=some o->(gm base h as).get? b=some o:=λb o e=>lG (k b o e) (.inl (by rw[e];rfl));obtain⟨f,g,d⟩:=M.blt;exact⟨M.XE.keeps c,M.glob.keeps c,⟨f,g.keeps c,d⟩,M.nolimit.keeps c⟩
theorem nq {base h:Ps}:∀{l:List RD},h.FunFrames base l->(∀b∈QS l,b∉as)->h.FunFrames (gm base h as) l
 | [],_,_=>trivial
 | env::r,⟨g,⟨L,o,e,m,j,hd⟩,f⟩,c=>⟨g,⟨L,o,e,by
   cases q:(gm base h as).get? L with
   | none=>rfl
   | some o'=>
    rcases(nT q).2 with z|z
    .rw[m] at z;cases z
    .exact Py z (c L (by unfold QS;rw[TN,e];exact Qa)),j,hd⟩,nq f λb d=>c b (by
   unfold QS at d ⊢;rw[TN]
   split
   .exact d
   .exact Qr _ d)⟩
theorem VR.more {K:Po}(e:VR P w K mg base A outer s H)(hn:∀b∈as,H b=none)(hf:∀b∈QS outer,b∉as):
  VR P w K mg (gm base s.heap as) A outer s H:=
 ⟨e.frames,e.mod.more λb o q=>(e.bs b o q).1,λb o q=>⟨(nT q).1,(nT q).2.elim (λz=>by
  obtain⟨c,z⟩:=V9.mp z;exact(e.bs b c z).2) (hn b)⟩,Zo (W.hideAll_size _ _),nq e.Tk hf,e.Vu,e.PQ,e.bare⟩
structure YN (base:Ps)(f:D')(fd:P5)(x:M')(ys:List M')(QR:List V)(qual:M')(params:Zt)(body:PZ)(scope:Su)(cl:List (M'×D'))(c:D'):Prop where
 fn:∃pm Ts,base.get? f=some (ï "<lambda>" qual params body scope cl pm c Ts)/\fd=W.kla_fn "<lambda>" qual params body scope cl pm (.ref c) Ts
 kind:scope.kind=.function
 co:scope.isCoroutine=false
 gen:scope.isGenerator=false
 abn:∀y∈scope.names,y.2≠.cell
 par:scope.names.lookup x=some .local
 inj:∀y z a,cl.lookup y=some a->cl.lookup z=some a->y=z
 has:∀y,scope.names.lookup y=some .free->∃a,cl.lookup y=some a
 cell:∀y a,cl.lookup y=some a->∃v,base.IsCell a v
 vals:PR (λy v=>scope.names.lookup y=some .free/\∃a u,cl.lookup y=some a/\base.IsCell a (some u)/\aI v u) ys QR
noncomputable def cxL (CX:Si)(P:PU)(w:Pz)(K:Po)(mg:M'->Option G')(base:Ps)(N:List M')(env:RD)(A:P7)(outer:List RD)(s:N')(H:Hp)(E:XK):Cx where
 prog:=P
 w:=w
 K:=K
 mg:=mg
 base:=base
 A:=A.deeper env
 N:=N
 QY:=s
 Yr:=H
 env:=env
 outer:=outer
 stack:=env::outer
 ex:=[]
 calm:=true
 fn:=λ_=>false
 pn:=[]
 xe:=λe s'=>Pq (Px P w) (A.deeper env) (leaving env e) (λ_ RE=>CX outer H s E e RE) (λe' RE=>CX outer H s E e' RE) s'
theorem vi {h h':Ps}(k:∀b o,h.get? b=some o->h'.get? b=some o)(p:h.IsCell a v):h'.IsCell a v:=let ⟨o,e,d⟩:=p;⟨o,k _ _ e,d⟩
theorem AW {K:Po}(L:YN base f fd x ys QR qual params body scope cl c)(hxy:x∉ys)(len:∀vs H Q E,sp vs H Q E->vs.length=1)(code:∀vs H Q E,sp vs H Q E->H c=some (.Q2 oc (.own 0)))(VP:∃vs t,oc.data=.fields vs/\vs[1]?=some (.str qual t))(Ws:∀(A:P7) (outer:List RD) (s:N') (H:Hp) (v:V) (Q:VK) (E:XK),Pn k (A.deeper (W.envX qual scope s.heap.objs.size f (.ref c) cl))->sp [v] H Q E->
   ∃t,PE (cxL CX P w K mg base (x::ys) (W.envX qual scope s.heap.objs.size f (.ref c) cl) A outer s H E) body t/\t (some v::QR.map some) H Q):
  P4 P w K mg base CX (k+1) f fd [x] sp:=by
 refine⟨len,λA outer s H args us vs Q E n d hb r C=>?_⟩;obtain⟨v,rfl⟩:∃v,vs=[v]:=by
  have:=len _ _ _ _ C
  match vs,this with
  | [v],_=>exact⟨v,rfl⟩
 obtain⟨u,rfl,Y⟩:=dc r;obtain⟨pm,Ts,hf,rfl⟩:=L.fn;have lim:s.heap.NoLimit:=d.mod.nolimit.keeps λb o e=>(d.bs b o e).1;have R5:s.heap.CodeRec (.ref c) qual:=by
  obtain⟨ws,t,Z,d2⟩:=VP;have q:=d.PQ c _ (code _ _ _ _ C);exact⟨c,oc,ws,t,rfl,q.1,Z,d2⟩
 refine W.kla_callFunE n.depth (d.bs _ _ hf).1 rfl L.co L.gen rfl R5 (hb _ _ _ _ ?_);refine Ń L.abn (λy hy=>?_) (λF Ur S=>?_) L.kind
 .obtain rfl:y=(x,u):=by simpa using hy
  exact L.par
 have g:∀b o,s.heap.get? b=some o->F.get? b=some o:=λb o e=>S.extBut b o (Qw (Qf e)) (Qn _ e);refine⟨lim.keeps g,?_⟩;show codeAny _ _ (.expr body (W.envX qual scope s.heap.objs.size f (.ref c) cl)) _ _;obtain⟨t,ht,hq⟩:=Ws A outer s H v Q E (n.deeper _) C;refine W.kla_codeExpr ?_;have m:∀y a,cl.lookup y=some a->∀v,base.IsCell a v->F.IsCell a v:=λy a _ v p=>vi (λb o e=>g b o (d.bs b o e).1) p;have D:∀b:D',b∉(cxL CX P w K mg base (x::ys) (W.envX qual scope s.heap.objs.size f (.ref c) cl) A outer s H E).ex:=λb z=>Py (show b∈([]:List D') from z) (by simp);have I:Inv (cxL CX P w K mg base (x::ys) (W.envX qual scope s.heap.objs.size f (.ref c) cl) A outer s H E) [] (some v::QR.map some) H { s with heap:=F,toks:=s.toks+([x].zip [u]).length }:=by
  refine⟨⟨d.mod,L.kind,rfl,rfl,P1 _,L.inj,λy hy=>?_,λy a z _=>(by cases z),λ_=>n.hd,agg d.frames,.inr ⟨rfl,rfl⟩,λb z=>Py z (D b),d.bs,d.Vt,λb _ _=>D b,λb z=>Py z (D b),d.Tk,d.Vu⟩,
   rfl,d.bare,Un.kept g,⟨_,Ur,λi y G h j h3=>?_⟩,λy a e=>?_,d.PQ.fresh (P1 _),λy a e=>?_,λp hp=>Py (show p∈([]:List (D'×J')) from hp) (by simp),d.PQ.kept g,?_⟩
  .have hy:scope.names.lookup y=some .cell\/scope.names.lookup y=some .free:=hy;rcases hy with hy|hy
   .exact Py rfl (L.abn _ (Uf hy))
   .exact L.has y hy
  .cases i with
   | zero=>
    simp only[ŭ,Option.some.injEq] at j;have h:x=y:=by simpa [cxL] using h
    subst h j;exact⟨u,Y,.inl ⟨L.par,by simp⟩⟩
   | succ i=>
    have h:ys[i]?=some y:=by simpa [cxL] using h
    have j:(QR.map some)[i]?=some (some G):=by simpa using j
    rw[So] at j;obtain⟨w',e1,R⟩:=Xk.mp j;cases R;obtain⟨b,N,k,a,M,O,T,l3⟩:=cB L.vals h;rw[e1] at N;cases N;exact⟨M,l3,.inr ⟨.inr k,a,O,m y a O _ T⟩⟩
  .obtain⟨z,p⟩:=L.cell y a e;exact⟨z,m y a e _ p⟩
  .obtain⟨z,o,p,_⟩:=L.cell y a e;exact(d.bs a o p).2
  .have:=L.vals.length;show(some v::QR.map some).length=(x::ys).length;simp[this]
 exact UY (ht [] _ _ H _ I hq) (λM s' ⟨G,X,J,rv,q⟩=>⟨G,X,J.os,J.bare,J.base,J.PQ,rv,q⟩) λe s' U=>U
theorem Da {k i:Nat}(F:P4 X.prog X.w X.K X.mg X.base CX k f fd ps sp)(hr:Pn k X.A)(ho:X.base.get? f=some o)(XZ:o.data=.func fd)(hN:X.N[i]?=some x)(hv:Vis X.env.scope x)(hb:∀us:List G',us.length=ps.length->bindArgs fd ⟨us,[]⟩=pure (ps.zip us))(hx:dS CX X E)(ha:PA X (e::es) t)(T4:(x==("__debug__":M'))=false:=by decide)(R5:(x==("__classdict__":M'))=false:=by decide)(he:QX (e::es) X.env=(false,eval e X.env)::QX es X.env:=by rfl)(S8:(backTo pos (QX es X.env)).any (·.1)=false:=by rfl):
  PE X (.Call (.Name x p) (e::es) [] pos) (λσ H Q=>σ[i]?=some (some (.ref f))/\t σ H λvs H1=>sp vs H1 Q (E σ)):=by
 intro ac s σ H Q I ⟨h0,h⟩;refine τ (PY (zJ hN hv T4 R5 ac s σ H (λv g=>v=.ref f/\t σ g λvs H1=>sp vs H1 Q (E σ)) I ⟨_,h0,rfl,h⟩) λu s1 ⟨v,H1,C,m,ev,n⟩=>?_);subst ev;cases m;show Pq _ _ (callWith pos (.ref f) [] (backTo pos (QX (e::es) X.env)) []) _ _ _;rw[he];refine W.callWith_of (P:=λh=>h.get? f=some o) (by show((false||(backTo pos (QX es X.env)).any (·.1))||false)=false;rw[S8];rfl) (λh D=>⟨.frame,.inl rfl,?_⟩) (afQ ?_)
 .obtain⟨G,od,dd,J⟩:=o;dsimp only at XZ;subst XZ;exact(IF (part:=none) D).andThen .now
 .have b:=ha pos ac s1 σ H1 _ C n;rw[he] at b;refine PY b λus s2 ⟨vs,y,d,r,j⟩=>⟨d.bk f o ho,?_⟩
  have c:sp (vs++[]) y Q (E σ):=by rw[Vg];exact j
  exact wU (RV:=[]) (ds:=[]) F hr (bA.all hb) .nil hx d r c
structure VKd (prog)(w)(κ:Type)[DecidableEq κ]where
 is:Ps->κ->G'->Prop
 hash:κ->Int
 draws:κ->Nat
 room:P7->Prop
 one:∀{h:Ps}{v:G'}{k k':κ},is h k v->is h k' v->k=k'
 abE:∀{h:Ps}{v:G'}{k:κ},is h k v->(∃i t,v=.int i t)\/∃a,v=.ref a
 keeps:∀{h h':Ps}{k:κ}{v:G'}{d:D'}{o:J'}{es ep},is h k v->h.get? d=some o->o.data=.dict es ep->UX d h h'->is h' k v
 hashes:∀{A:P7}{E:G'->N'->Prop}{s:N'}{k:κ}{v:G'}{Q:Int->N'->Prop},room A->is s.heap k v->Q (hash k) { s with toks:=s.toks+draws k }->Pq (Px prog w) A (pyHash v) Q E s
 ZT:∀{A:P7}{E:G'->N'->Prop}{s:N'}{k k':κ}{u v:G'}{Q:Bool->N'->Prop},room A->is s.heap k u->is s.heap k' v->Q (decide (k=k')) s->Pq (Px prog w) A (eqBool u v) Q E s
 quiet:∀{A:P7}{E:G'->N'->Prop}{s:N'}{k:κ}{v:G'}{Q:Bool->N'->Prop},is s.heap k v->Q true s->Pq (Px prog w) A (eqIsQuiet 8 v) Q E s
section
variable {prog:PU}{w:Pz}{κ:Type} [DecidableEq κ] (kd:VKd prog w κ)
noncomputable def iW (x:κ×G'×G'):Ro:=⟨kd.hash x.1,x.2.1,x.2.2⟩
structure VQ (h:Ps)(es:Array Ro)(xs:List (κ×G'×G')):Prop where
 all:es.toList=xs.map (iW kd)
 keys:∀x∈xs,kd.is h x.1 x.2.1
 nd:(xs.map (·.1)).Nodup
noncomputable def Tt (xs:List (κ×G'×G'))(k:κ):Option G':=(xs.find? λx=>decide (x.1=k)).map (·.2.2)
variable {kd}{A:P7}{E:G'->N'->Prop}{s:N'}
theorem VQ.get (e:VQ kd h es xs)(i:Nat):es[i]?=(xs[i]?).map (iW kd):=by rw[<-V',e.all,So]
theorem VQ.size (e:VQ kd h es xs):es.size=xs.length:=by rw[<-RT,e.all,Qx]
theorem VQ.uniq (e:VQ kd h es xs){i j:Nat}(hi:xs[i]?=some x)(hj:xs[j]?=some y)(q:x.1=y.1):i=j:=by
 have a:(xs.map (·.1))[i]?=some x.1:=by rw[So,hi];rfl
 have b:(xs.map (·.1))[j]?=some x.1:=by rw[So,hj,q];rfl
 exact(ů (Rh.mp a).1 e.nd).mp (a.trans b.symm)
def jN (xs:List (κ×G'×G'))(k:κ)(l:List Nat):Prop:=∀i∈l,∀x,xs[i]?=some x->x.1≠k
theorem o0 (hu:kd.room A)(Sg:kd.is s.heap k v)(ho:s.heap.get? d=some o)(hd:o.data=.dict es ep)(en:VQ kd s.heap es xs)(q0:(∀x∈xs,x.1≠k)->Q none s)(q1:∀j x,xs[j]?=some x->x.1=k->Q (some j) s):Pq (Px prog w) A (dictFind d v (kd.hash k)) Q E s:=by
 have at_:=en.get;have sz:=en.size;have T:∀{j x},xs[j]?=some x->x.1=k->j∈placesWithHash es.size (λi=>es[i]?.map (·.hash)) (kd.hash k):=λ{j x} p e=>by
  unfold placesWithHash;refine Sd.mpr ⟨R7.mpr (by rw[sz];exact(Rh.mp p).1),?_⟩;dsimp only;rw[at_ j,p];simp[iW,e]
 have R:∀{j},j∈placesWithHash es.size (λi=>es[i]?.map (·.hash)) (kd.hash k)->∃x,xs[j]?=some x/\kd.hash x.1=kd.hash k:=λ{j} p=>by
  unfold placesWithHash at p;obtain⟨G,F⟩:=Sd.mp p;have U:j<xs.length:=by rw[<-sz];exact R7.mp G
  refine⟨xs[j],Q5 U,?_⟩;dsimp only at F;rw[at_ j,Q5 U] at F;simpa [iW] using F
 have keyed:∀x∈es,∃I,kd.is s.heap I x.key/\x.hash=kd.hash I:=λx c=>by
  have:x∈xs.map (iW kd):=en.all▸ć.mpr c;obtain⟨y,f,rfl⟩:=Qs.mp this;exact⟨y.1,en.keys y f,rfl⟩
 have stored:∀u∈(placesWithHash es.size (λi=>es[i]?.map (·.hash)) (kd.hash k)).filterMap (λi=>es[i]?.map (·.key)),∃I,kd.is s.heap I u:=λu hu=>by
  obtain⟨i,_,e⟩:=Ug.mp hu;obtain⟨x,c,rfl⟩:=Xk.mp e;obtain⟨I,h,_⟩:=keyed x (Array.mem_of_getElem? c);exact⟨I,h⟩
 have same:∀e∈es,¬(e.key==v&&e.hash != kd.hash k)=true:=λe he h=>by
  obtain⟨I,G,F⟩:=keyed e he;simp only[Tv,beq_iff_eq,bne_iff_ne,ne_eq] at h;rw[h.1] at G;exact h.2 (by rw[F,kd.one G Sg])
 generalize W:placesWithHash es.size (λi=>es[i]?.map (·.hash)) (kd.hash k)=pl at T R stored;have M:jN xs k pl->∀x∈xs,x.1≠k:=λh x c hk=>by
  obtain⟨j,p⟩:=X'.mp c;exact h j (T p hk) x p hk
 have plain:Pq (Px prog w) A (dictWalkPlain d v (kd.hash k) es pl) Q E s:=by
  unfold dictWalkPlain;refine Pm ?_;refine UB _ (λrest b t=>t=s/\b=(none,())/\∃done,pl=done++rest/\jN xs k done) _ ?_ ?_ _ _ ⟨rfl,rfl,[],rfl,λi J=>nomatch J⟩
  .rintro i rest b t ⟨rfl,rfl,done,g,Y⟩;obtain⟨x,c,N⟩:=R (j:=i) (by rw[g];simp);rw[at_ i,c];simp only[é,iW];rw[PK (by rw[N];simp)];refine Pm (VL ho hd (Pm (kd.ZT hu (en.keys x (Q6 c)) Sg (Pm (VL ho hd ?_)))));rw[Pr (by simp)]
   by_cases z:x.1=k
   .rw[Qk z];simp only[if_true]
    first
     | exact Pm (Tj (Pu (Pu (q1 i x c z))))
     | exact Pm (Pu (Pm (Tj (Pu (Pu (q1 i x c z))))))
   .rw[Qd z];simp only[Q7,if_false]
    first
     | exact Pm (Tj (Pu ⟨rfl,rfl,done++[i],by rw[g];simp,λj p y f=>(QW.mp p).elim (λh=>Y j h y f) λh=>by
       obtain rfl:j=i:=by simpa using h
       rw[c] at f;cases f;exact z⟩))
     | skip
  .rintro b t ⟨rfl,rfl,done,g,Y⟩;rw[Vg] at g;exact Pu (q0 (M (by rw[g];exact Y)))
 have tell:∀{l:List G'}{Q:Bool->N'->Prop},(∀u∈l,∃I,kd.is s.heap I u)->Q false s->Pq (Px prog w) A (tableMayTell v l) Q E s:=λ{l Q} U hq=>by
  unfold tableMayTell
  split
  .exact Pu hq
  .refine Pm (kd.quiet Sg ?_);simp only[Ui,Q7,if_false];refine Pm (UB _ (λrest r t=>t=s/\r=(none,())/\∀u∈rest,∃I,kd.is s.heap I u) _ ?_ ?_ _ _ ⟨rfl,rfl,U⟩)
   .rintro u rest r t ⟨rfl,rfl,Z⟩;obtain⟨I,Td⟩:=Z u Qa;refine Pm (kd.quiet Td ?_);simp only[Ui,Q7,if_false];exact Pu ⟨rfl,rfl,λz hz=>Z z (Qr _ hz)⟩
   .rintro r t ⟨rfl,rfl,_⟩;exact Pu hq
 have X:¬(es.any λe=>e.key==v&&e.hash != kd.hash k)=true:=λh=>by
  obtain⟨i,J,h⟩:=Array.any_eq_true.mp h;exact same es[i] (Array.getElem_mem J) h
 have O:pl.Nodup:=by
  rw[<-W];exact(Ĝ (n:=es.size)).sublist Y9
 rcases kd.abE Sg with⟨i0,t0,rfl⟩|⟨a0,rfl⟩
 .unfold dictFind
  try with_reducible refine Sq ?_
  refine Pm (Ô ho hd ?_);dsimp only;rw[W]
  by_cases S:((Ru i0 t0::pl.filterMap λi=>es[i]?.map (·.key)).all carriedByValue)=true
  .rw[PK S];exact plain
  rw[Pr S]
  by_cases L:((pl.filterMap λi=>es[i]?.map (·.key))==[Ru i0 t0])=true
  .rw[PK L];refine Pm (Pu ?_);rw[Pr (by simp)];refine Pm (UB _ (λrest b t=>t=s/\∃hit done,b=(none,hit)/\pl=done++rest/\((hit=none/\jN xs k done)\/∃j x,hit=some j/\j∈done/\xs[j]?=some x/\x.1=k)) _ ?_ ?_ _ _ ⟨rfl,none,[],rfl,rfl,.inl ⟨rfl,λi J=>nomatch J⟩⟩)
   .rintro i rest b t ⟨rfl,hit,done,rfl,g,C⟩;obtain⟨x,c,N⟩:=R (j:=i) (by rw[g];simp);rw[at_ i,c];simp only[é,iW];rw[PK (by rw[N];simp)];refine Pm (VL ho hd (Pm (kd.ZT hu (en.keys x (Q6 c)) Sg (Pm (VL ho hd ?_)))));rw[Pr (by simp)]
    by_cases z:x.1=k
    .rw[Qk z,PK rfl];rcases C with⟨rfl,_⟩|⟨j,y,_,p,f,D⟩
     .rw[Pr (by simp)];refine Pm (Tj ?_)
      split
      .exact Pu (Pu (q1 i x c z))
      .exact Pu ⟨rfl,some i,done++[i],rfl,by rw[g];simp,.inr ⟨i,x,rfl,by simp,c,z⟩⟩
     .have e:=en.uniq f c (by rw[D,z]);subst e;rw[g] at O;exact Py rfl ((Xn.mp O).2.2 j p j Qa)
    .rw[Qd z,Pr (by simp)];refine Pm (Tj ?_);rw[Pr (by simp)];refine Pu ⟨rfl,hit,done++[i],rfl,by rw[g];simp,C.imp (λh=>⟨h.1,λj p y f=>(QW.mp p).elim (λm=>h.2 j m y f) λm=>?_⟩) λ⟨j,y,G,F,P⟩=>⟨j,y,G,Ue _ F,P⟩⟩;obtain rfl:j=i:=by simpa using m
     rw[c] at f;cases f;exact z
   .rintro b t ⟨rfl,hit,done,rfl,g,C⟩;rw[Vg] at g;rcases C with⟨rfl,h⟩|⟨j,y,rfl,_,f,D⟩
    .exact Pu (q0 (M (by rw[g];exact h)))
    .exact Pu (q1 j y f D)
  .rw[Pr L];refine Pm (tell stored ?_);rw[Pr (by simp)];refine Pm (UB _ (λrest b t=>t=s/\∃hit done,b=(none,hit)/\pl=done++rest/\((hit=none/\jN xs k done)\/∃j x,hit=some j/\j∈done/\xs[j]?=some x/\x.1=k)) _ ?_ ?_ _ _ ⟨rfl,none,[],rfl,rfl,.inl ⟨rfl,λi J=>nomatch J⟩⟩)
   .rintro i rest b t ⟨rfl,hit,done,rfl,g,C⟩;obtain⟨x,c,N⟩:=R (j:=i) (by rw[g];simp);rw[at_ i,c];simp only[é,iW];rw[PK (by rw[N];simp)];refine Pm (VL ho hd (Pm (kd.ZT hu (en.keys x (Q6 c)) Sg (Pm (VL ho hd ?_)))));rw[Pr (by simp)]
    by_cases z:x.1=k
    .rw[Qk z,PK rfl];rcases C with⟨rfl,_⟩|⟨j,y,_,p,f,D⟩
     .rw[Pr (by simp)];refine Pm (Tj ?_)
      split
      .exact Pu (Pu (q1 i x c z))
      .exact Pu ⟨rfl,some i,done++[i],rfl,by rw[g];simp,.inr ⟨i,x,rfl,by simp,c,z⟩⟩
     .have e:=en.uniq f c (by rw[D,z]);subst e;rw[g] at O;exact Py rfl ((Xn.mp O).2.2 j p j Qa)
    .rw[Qd z,Pr (by simp)];refine Pm (Tj ?_);rw[Pr (by simp)];refine Pu ⟨rfl,hit,done++[i],rfl,by rw[g];simp,C.imp (λh=>⟨h.1,λj p y f=>(QW.mp p).elim (λm=>h.2 j m y f) λm=>?_⟩) λ⟨j,y,G,F,P⟩=>⟨j,y,G,Ue _ F,P⟩⟩;obtain rfl:j=i:=by simpa using m
     rw[c] at f;cases f;exact z
   .rintro b t ⟨rfl,hit,done,rfl,g,C⟩;rw[Vg] at g;rcases C with⟨rfl,h⟩|⟨j,y,rfl,_,f,D⟩
    .exact Pu (q0 (M (by rw[g];exact h)))
    .exact Pu (q1 j y f D)
 .unfold dictFind
  try with_reducible refine Sq ?_
  refine Pm (Ô ho hd ?_);dsimp only;rw[W]
  by_cases S:((Qu a0::pl.filterMap λi=>es[i]?.map (·.key)).all carriedByValue)=true
  .rw[PK S];exact plain
  rw[Pr S];rw[Pr X]
  by_cases L:((pl.filterMap λi=>es[i]?.map (·.key))==[Qu a0])=true
  .rw[PK L];refine Pm (Pu ?_);rw[Pr (by simp)];refine Pm (UB _ (λrest b t=>t=s/\∃hit done,b=(none,hit)/\pl=done++rest/\((hit=none/\jN xs k done)\/∃j x,hit=some j/\j∈done/\xs[j]?=some x/\x.1=k)) _ ?_ ?_ _ _ ⟨rfl,none,[],rfl,rfl,.inl ⟨rfl,λi J=>nomatch J⟩⟩)
   .rintro i rest b t ⟨rfl,hit,done,rfl,g,C⟩;obtain⟨x,c,N⟩:=R (j:=i) (by rw[g];simp);rw[at_ i,c];simp only[é,iW];rw[PK (by rw[N];simp)];refine Pm (VL ho hd (Pm (kd.ZT hu (en.keys x (Q6 c)) Sg (Pm (VL ho hd ?_)))));rw[Pr (by simp)]
    by_cases z:x.1=k
    .rw[Qk z,PK rfl];rcases C with⟨rfl,_⟩|⟨j,y,_,p,f,D⟩
     .rw[Pr (by simp)];refine Pm (Tj ?_)
      split
      .exact Pu (Pu (q1 i x c z))
      .exact Pu ⟨rfl,some i,done++[i],rfl,by rw[g];simp,.inr ⟨i,x,rfl,by simp,c,z⟩⟩
     .have e:=en.uniq f c (by rw[D,z]);subst e;rw[g] at O;exact Py rfl ((Xn.mp O).2.2 j p j Qa)
    .rw[Qd z,Pr (by simp)];refine Pm (Tj ?_);rw[Pr (by simp)];refine Pu ⟨rfl,hit,done++[i],rfl,by rw[g];simp,C.imp (λh=>⟨h.1,λj p y f=>(QW.mp p).elim (λm=>h.2 j m y f) λm=>?_⟩) λ⟨j,y,G,F,P⟩=>⟨j,y,G,Ue _ F,P⟩⟩;obtain rfl:j=i:=by simpa using m
     rw[c] at f;cases f;exact z
   .rintro b t ⟨rfl,hit,done,rfl,g,C⟩;rw[Vg] at g;rcases C with⟨rfl,h⟩|⟨j,y,rfl,_,f,D⟩
    .exact Pu (q0 (M (by rw[g];exact h)))
    .exact Pu (q1 j y f D)
  .rw[Pr L];refine Pm (tell stored ?_);rw[Pr (by simp)];refine Pm (UB _ (λrest b t=>t=s/\∃hit done,b=(none,hit)/\pl=done++rest/\((hit=none/\jN xs k done)\/∃j x,hit=some j/\j∈done/\xs[j]?=some x/\x.1=k)) _ ?_ ?_ _ _ ⟨rfl,none,[],rfl,rfl,.inl ⟨rfl,λi J=>nomatch J⟩⟩)
   .rintro i rest b t ⟨rfl,hit,done,rfl,g,C⟩;obtain⟨x,c,N⟩:=R (j:=i) (by rw[g];simp);rw[at_ i,c];simp only[é,iW];rw[PK (by rw[N];simp)];refine Pm (VL ho hd (Pm (kd.ZT hu (en.keys x (Q6 c)) Sg (Pm (VL ho hd ?_)))));rw[Pr (by simp)]
    by_cases z:x.1=k
    .rw[Qk z,PK rfl];rcases C with⟨rfl,_⟩|⟨j,y,_,p,f,D⟩
     .rw[Pr (by simp)];refine Pm (Tj ?_)
      split
      .exact Pu (Pu (q1 i x c z))
      .exact Pu ⟨rfl,some i,done++[i],rfl,by rw[g];simp,.inr ⟨i,x,rfl,by simp,c,z⟩⟩
     .have e:=en.uniq f c (by rw[D,z]);subst e;rw[g] at O;exact Py rfl ((Xn.mp O).2.2 j p j Qa)
    .rw[Qd z,Pr (by simp)];refine Pm (Tj ?_);rw[Pr (by simp)];refine Pu ⟨rfl,hit,done++[i],rfl,by rw[g];simp,C.imp (λh=>⟨h.1,λj p y f=>(QW.mp p).elim (λm=>h.2 j m y f) λm=>?_⟩) λ⟨j,y,G,F,P⟩=>⟨j,y,G,Ue _ F,P⟩⟩;obtain rfl:j=i:=by simpa using m
     rw[c] at f;cases f;exact z
   .rintro b t ⟨rfl,hit,done,rfl,g,C⟩;rw[Vg] at g;rcases C with⟨rfl,h⟩|⟨j,y,rfl,_,f,D⟩
    .exact Pu (q0 (M (by rw[g];exact h)))
    .exact Pu (q1 j y f D)
theorem Db {xs:List (κ×G'×G')}(h:∀x∈xs,x.1≠k):Tt xs k=none:=by
 unfold Tt;rw[à.mpr λx b=>by simpa using h x b];rfl
theorem VQ.Tt (e:VQ kd h es xs){j:Nat}(hj:xs[j]?=some x):L2.Tt xs x.1=some x.2.2:=by
 unfold L2.Tt;cases q:xs.find? λy=>decide (y.1=x.1) with
 | none=>exact Py (à.mp q x (Q6 hj)) (by simp)
 | some y=>
  obtain⟨i,b⟩:=X'.mp (afS q);have c:y.1=x.1:=by simpa using List.find?_some q
  have:=e.uniq b hj c;subst this;rw[b] at hj;cases hj;rfl
def jf (kd:VKd prog w κ)(h:Ps)(d:D')(xs:List (κ×G'×G')):Prop:=∃o es ep,h.get? d=some o/\o.ExactDict/\o.data=.dict es ep/\VQ kd h es xs
theorem jf.type (m:jf kd s.heap d xs):s.TypeIs (.ref d) "dict":=let ⟨o,_,_,ho,hc,_⟩:=m;⟨o,ho,hc.1⟩
theorem rQ (hu:kd.room A)(Sg:kd.is s.heap k v)(m:jf kd s.heap d xs)(h:Q (Tt xs k) { s with toks:=s.toks+kd.draws k }):
  Pq (Px prog w) A (dictGet d v) Q E s:=by
 obtain⟨o,es,ep,c,_,hd,b⟩:=m;unfold dictGet
 try with_reducible refine Sq ?_
 refine Pm (kd.hashes hu Sg (Pm (o0 (s:={ s with toks:=s.toks+kd.draws k }) hu Sg c hd b (λq=>?_) λj x e f=>?_)))
 .rw[Db q] at h;exact Pu h
 .subst f;rw[b.Tt e] at h;refine Pm (Ô (s:={ s with toks:=s.toks+kd.draws x.1 }) c hd ?_);rw[b.get j,e];exact Pu h
theorem Fx (hu:kd.room A.in1)(Sg:kd.is s.heap k v)(hd:(d==R8)=false)(m:jf kd s.heap d xs)(h:Q (.bool (!(Tt xs k).isSome)) { s with toks:=s.toks+kd.draws k }):Pq (Px prog w) A (R9 .NotIn v (.ref d)) Q E s:=by
 show Pq _ _ (contains (.ref d) v >>= λb=>pure (UE (!b))) Q E s;refine Pm ?_;unfold contains
 try with_reducible refine Sq ?_
 refine Pm (Zf m.type ľ.lookup ?_);rw[show(some (Zm "dict.__contains__")==some Xu)=false from rfl];refine Pm (wpAny_callSpecialUnlessNone?_slot (name:=Vi "__contains__") m.type ľ (UU ľ m.type entry_dict_contains ?_ (args_dict_contains _ _)));refine Pm (m:=dictGet d v) (rQ hu Sg m ?_);cases hf:Tt xs k with
 | some p=>
  rw[hf] at h;exact Pu ⟨.bool true,rfl,UA (Pu h)⟩
 | none=>
  rw[hf] at h;exact Pm (m:=S7.Dict.pendingKey? d v) (wpAny_pendingKey_other hd (Pu ⟨.bool false,rfl,UA (Pu h)⟩))
theorem AX (hu:kd.room A.in1)(Sg:kd.is s.heap k v)(m:jf kd s.heap d xs)(hp:Tt xs k=some u)(h:Q u { s with toks:=s.toks+kd.draws k }):
  Pq (Px prog w) A (getItem (.ref d) v) Q E s:=by
 unfold getItem
 try with_reducible refine Sq ?_
 refine Pm (ņ m.type (by decide) (Pm (Ó (name:=Vi "__getitem__") m.type slot_dict_getitem (UU slot_dict_getitem m.type entry_dict_getitem ?_ (args_dict_getitem _ _)))));refine Pm (m:=dictGet d v) (rQ hu Sg m ?_);rw[hp];exact Pu ⟨u,rfl,Pu h⟩
theorem AY (hu:kd.room A.in1)(Sg:kd.is s.heap k v)(m:jf kd s.heap d xs)(new:∀x∈xs,x.1≠k)(hsz:xs.length<=PH)(hQ:∀h',jf kd h' d (xs++[(k,v,u)])->UX d s.heap h'->Q () { s with heap:=h',toks:=s.toks+kd.draws k }):Pq (Px prog w) A (setItem (.ref d) v u) Q E s:=by
 have ty:=m.type;obtain⟨o,es,ep,f,p,hd,c⟩:=m;have sz:=c.size;unfold setItem
 try with_reducible refine Sq ?_
 refine Pm (ņ ty (by decide) (Pm (Ó (name:=Vi "__setitem__") ty slot_dict_setitem (UU slot_dict_setitem ty entry_dict_setitem ?_ (args_dict_setitem _ _ _)))));refine Pm (m:=S7.Dict.notOrdered "__setitem__" ⟨[.ref d,v,u],[]⟩) (wpAny_notOrdered_dict ty ?_);refine Pm (m:=dictSet d v u) ?_;unfold dictSet
 try with_reducible refine Sq ?_
 refine Pm (kd.hashes hu Sg ?_);unfold dictSetHashed
 try with_reducible refine Sq ?_
 refine Pm (o0 (s:={ s with toks:=s.toks+kd.draws k }) hu Sg f hd c (λ_=>?_) λj x t h=>Py h (new x (Q6 t)));refine Pm (Tj (wpAny_updateDictKeys (hz:=by lia) (s:={ s with toks:=s.toks+kd.draws k }) f hd (Pu ⟨.none,rfl,Pu (hQ _ ⟨_,_,ep+1,Đ _ f (J'.isFreed_of_dict (agj hd _)),p.mapDictKeys _,agj hd _,?_,?_,?_⟩ (π ..))⟩)))
 .simp[c.all,iW]
 .intro x hx;rcases QW.mp hx with hx|hx
  .exact kd.keeps (c.keys x hx) f hd (π ..)
  .obtain rfl:x=(k,v,u):=by simpa using hx
   exact kd.keeps Sg f hd (π ..)
 .rw[UC,Xn];refine⟨c.nd,by simp,λa n b g e=>?_⟩;obtain⟨x,hx,rfl⟩:=Qs.mp n;obtain rfl:b=k:=by simpa using g
  exact new x hx e
end
abbrev SK:=Sum Int (List Int)
def TF (h:Ps):SK->G'->Prop
 | .inl i,v=>∃t,v=Ru i t
 | .inr l,v=>∃a,v=Qu a/\bQ h l a
noncomputable def mH:SK->Int
 | .inl i=>hashInt i
 | .inr l=>gQ l
noncomputable def Ej:SK->Nat
 | .inl _=>1
 | .inr l=>l.length+1
theorem TF.keeps {es ep}(ho:h.get? d=some o)(hd:o.data=.dict es ep)(hs:UX d h h'):∀{k:SK}{v:G'},TF h k v->TF h' k v
 | .inl _,_,p=>p
 | .inr _,_,⟨a,e,q⟩=>⟨a,e,q.keeps ho hd hs⟩
theorem TF.one:∀{k k':SK},TF h k v->TF h k' v->k=k'
 | .inl _,.inl _,⟨_,e⟩,⟨_,b⟩=>by subst e;cases b;rfl
 | .inl _,.inr _,⟨_,e⟩,⟨_,b,_⟩=>by subst e;cases b
 | .inr _,.inl _,⟨_,e,_⟩,⟨_,b⟩=>by subst e;cases b
 | .inr _,.inr _,⟨_,e,p⟩,⟨_,b,c⟩=>by subst e;cases b;rw[p.inj c]
theorem TF.abE:∀{k:SK},TF h k v->(∃i t,v=.int i t)\/∃a,v=.ref a
 | .inl i,⟨t,e⟩=>.inl ⟨i,t,e⟩
 | .inr _,⟨a,e,_⟩=>.inr ⟨a,e⟩
theorem eqK (hu:A.units<Qv):∀{k k':SK},TF s.heap k u->TF s.heap k' v->VM A s u v (decide (k=k'))
 | .inl i,.inl j,⟨_,e⟩,⟨_,c⟩=>by
  subst e c;have z:decide ((RH i:SK)=RH j)=(i==j):=by
   rw[iB]
   by_cases h:i=j
   .subst h;simp
   .simp[h]
  rw[z];exact ī _ _ _ _
 | .inl i,.inr l,⟨t,e⟩,⟨a,c,p⟩=>by
  subst e c;obtain⟨f,d,_⟩:=p;exact VM.int_tuple i t d hu
 | .inr l,.inl i,⟨a,c,p⟩,⟨t,e⟩=>by
  subst e c;obtain⟨f,d,_⟩:=p;exact VM.tuple_int i t d hu
 | .inr l,.inr m,⟨a,e,p⟩,⟨b,c,q⟩=>by
  subst e c;have z:decide ((UH l:SK)=UH m)=decide (l=m):=by
   by_cases h:l=m
   .subst h;simp
   .simp[h]
  rw[z];exact Ed hu p q
theorem Dc (hu:A.units<Qv):∀{k:SK},TF s.heap k v->Q (mH k) { s with toks:=s.toks+Ej k }->Pq (Px prog w) A (pyHash v) Q E s
 | .inl _,⟨_,e⟩,h=>by subst e;exact wpAny_pyHash_int h
 | .inr _,⟨_,e,p⟩,h=>by subst e;exact qY hu p h
theorem Lb (h:Q true s):∀{k:SK},TF s.heap k v->Pq (Px prog w) A (eqIsQuiet 8 v) Q E s
 | .inl _,⟨_,e⟩=>by subst e;rw[eqIsQuiet_byValue 8 rfl];exact Pu h
 | .inr _,⟨_,e,p⟩=>by subst e;exact uz 7 p h
noncomputable def o4 (prog)(w):VKd prog w SK where
 is:=TF
 hash:=mH
 draws:=Ej
 room:=λA=>A.units<Qv
 one:=TF.one
 abE:=TF.abE
 keeps:=λp ho hd hs=>p.keeps ho hd hs
 hashes:=λhu p h=>Dc hu p h
 ZT:=λhu p q h=>eqK hu p q _ _ _ _ h
 quiet:=λp h=>Lb h p
def cx (K:Po)(H:Hp)(x:V):SK->Prop
 | .inl i=>x=.int i
 | .inr l=>aV.rep K H x l
theorem cx.mono {K:Po}(h:ar H H'):∀{k:SK},cx K H x k->cx K H' x k
 | .inl _,p=>p
 | .inr _,p=>aV.mono h p
abbrev KL:=List (SK×V×Int)
def PKL (L:KL)(xs:List (SK×G'×G')):Prop:=PR (λ(p:SK×V×Int) (q:SK×G'×G')=>p.1=q.1/\aI p.2.1 q.2.1/\∃t,q.2.2=Ru p.2.2 t) L xs
def G4 (d:D')(L:KL)(h:Ps):Prop:=(d==R8)=false/\∃xs,PKL L xs/\∃o es ep,h.get? d=some o/\o.ExactDict/\o.data=.dict es ep/\es.toList=xs.map (λx=>(⟨mH x.1,x.2.1,x.2.2⟩:Ro))/\(xs.map (·.1)).Nodup
noncomputable def Sm (d:D')(L:KL):HO:=.ext (G4 d L)
theorem AZ (x:G4 d L h):bt P w H h d (Sm d L):=by
 refine⟨x,?_,λb c ⟨y,xs,p,o,es,ep,e,r⟩ k=>⟨y,xs,p,o,es,ep,k _ e,r⟩⟩;obtain⟨_,_,_,o,_,_,e,_⟩:=x;exact⟨o,e⟩
noncomputable def fP (L:KL)(k:SK):Option Int:=(L.find? λe=>decide (e.1=k)).map (·.2.2)
theorem o5:∀{L:KL}{xs:List (SK×G'×G')},PKL L xs->(fP L k=none/\Tt xs k=none)\/∃n t,fP L k=some n/\Tt xs k=some (.int n t)
 | _,_,.nil=>.inl ⟨rfl,rfl⟩
 | e::L,x::xs,.cons r t=>by
  obtain⟨k1,j,b⟩:=e;obtain⟨k2,h,s⟩:=x;obtain⟨f,p,d,c⟩:=r;dsimp only at f p c;subst f c
  by_cases z:k1=k
  .subst z;exact .inr ⟨b,d,by simp[fP],by simp[Tt]⟩
  .have o:=o5 (k:=k) t;have m:fP ((k1,j,b)::L) k=fP L k:=by simp[fP,z]
   have g:Tt ((k1,h,Ru b d)::xs) k=Tt xs k:=by simp[Tt,z]
   rw[m,g];exact o
def jg (K:Po)(H:Hp)(L:KL):Prop:=∀e∈L,cx K H e.2.1 e.1
theorem o6 {σ:St}(I:Inv X ac σ H s)(r:aI x u):∀{k:SK},cx X.K H x k->TF s.heap k u
 | .inl _,p=>by
  have p:x=_:=p;subst p;exact r
 | .inr _,p=>by
  obtain⟨a,xs,e,q⟩:=id p;subst e;cases r;exact⟨a,rfl,yG I p⟩
theorem yY {σ:St}(I:Inv X ac σ H s)(e:H d=some (Sm d L))(hk:jg X.K H L):(d==R8)=false/\∃xs,PKL L xs/\jf (o4 X.prog X.w) s.heap d xs:=by
 obtain⟨⟨y,xs,p,o,es,ep,m,c,n,f,h⟩,_⟩:=(show bt X.prog X.w H s.heap d (Sm d L) from I.PQ d _ e)
 refine⟨y,xs,p,o,es,ep,m,c,n,f,?_,h⟩;intro x g;obtain⟨j,u⟩:=X'.mp g;obtain⟨l,b,r1,r2,_⟩:=gJ (F:=λ(p:SK×V×Int) (q:SK×G'×G')=>p.1=q.1/\aI p.2.1 q.2.1/\∃t,q.2.2=Ru p.2.2 t) p u;have:=o6 I r2 (hk l (Q6 b));rw[r1] at this;exact this
def qv (K:Po):R2:=λx y H Q=>∃d L k,y=.ref d/\H d=some (Sm d L)/\jg K H L/\cx K H x k/\Q (.bl (!(fP L k).isSome)) H
theorem rR (hu:X.A.units+1<Qv):QG X (R9 .NotIn) (qv X.K):=by
 intro ac s o H x y v u Q I m f h;obtain⟨d,L,k,rfl,e,j,g,q⟩:=h;cases f;obtain⟨hd,xs,p,dd⟩:=yY I e j;refine Fx (kd:=o4 X.prog X.w) (by show X.A.units+1<Qv;(first|trivial|lia)) (o6 I m g) hd dd ⟨.bl (!(fP L k).isSome),H,I.tok _,?_,q⟩;show _=UE _;rcases o5 (k:=k) p with⟨c,b⟩|⟨n,t,c,b⟩
 .rw[c,b];rfl
 .rw[c,b];rfl
def Lc (K:Po)(td ty:TE):TE:=λσ H Q=>td σ H λx H1=>ty σ H1 λy H2=>∃d L k n,x=.ref d/\H2 d=some (Sm d L)/\jg K H2 L/\cx K H2 y k/\fP L k=some n/\Q (.int n) H2
theorem xG (hu:X.A.units+1<Qv)(ho:PE X o td)(hi:PE X i ty)(hs:ut i):PE X (.Subscript o i pos) (Lc X.K td ty):=by
 intro ac s j H Q I h;refine mj ď.lookup hs (PY (ho ac s j H _ I h) λu s1 ⟨x,M,J,G,D⟩=>PY (hi ac s1 j M _ J D) λN s2 ⟨y,F,c,m,d,L,k,n,ex,e,E,C,b,v⟩=>?_);subst ex;cases G;obtain⟨hd,xs,p,dd⟩:=yY c e E;refine⟨dd.type,?_⟩;rcases o5 (k:=k) p with⟨f,g⟩|⟨O,t,f,g⟩
 .rw[f] at b;cases b
 .rw[f] at b;cases b;exact AX (kd:=o4 X.prog X.w) (by show X.A.units+1<Qv;(first|trivial|lia)) (o6 c m C) dd g ⟨.int n,F,c.tok _,⟨t,rfl⟩,v⟩
def Ld (K:Po)(td ty tv:TE):TS:=λD σ H=>tv σ H λv H1=>td σ H1 λx H2=>ty σ H2 λy H3=>∃d L k n,v=.int n/\x=.ref d/\H3 d=some (Sm d L)/\jg K H3 L/\cx K H3 y k/\fP L k=none/\L.length<PH/\
 D.nx σ (upd H3 d (Sm d (L++[(k,y,n)])))
theorem Fy (hu:X.A.units+1<Qv)(ho:PE X o td)(hi:PE X i ty)(hv:PE X value tv)(hs:swapsWith value (some (.Subscript o i pos')) pos.line X.env=pure false):
  PS X (.Assign [.Subscript o i pos'] value pos) (Ld X.K td ty tv):=by
 intro ac s c H D I h;refine Ł (PY (hv ac s c H _ I h) λr s1 ⟨v,H1,I1,W,Z⟩=>PY (ho ac s1 c H1 _ I1 Z) λu s2 ⟨x,H2,M,rx,S⟩=>PY (hi ac s2 c H2 _ M S) λiv s3 ⟨y,H3,g,C,d,L,k,n,ev,ex,e,hk,m,E,hl,N⟩=>?_) hs;subst ev ex;obtain⟨t,rfl⟩:=W;cases rx;obtain⟨hd,xs,p,dd⟩:=yY g e hk;have new:∀x∈xs,x.1≠k:=λx R z=>by
  obtain⟨j,hj⟩:=X'.mp R;obtain⟨_,_,_,_,_,_,T⟩:=dd;have f:=T.Tt hj;rw[z] at f;rcases o5 (k:=k) p with⟨_,z3⟩|⟨n',t',U,_⟩
  .rw[z3] at f;cases f
  .rw[U] at E;cases E
 refine AY (kd:=o4 X.prog X.w) (by show X.A.units+1<Qv;(first|trivial|lia)) (o6 g C m) dd new (by rw[<-Zi p];lia) λh' Q J=>⟨c,_,?_,N⟩
 obtain⟨P,es,ep,F,G,e3,O,_,Y⟩:=Q;refine g.write (x:=d) (e:=d) (by rw[e];exact Ti) (.inl rfl) (λb q m z=>(J.2 b m).trans z) ⟨_,F⟩ (AZ ⟨hd,_,dG p (.cons ⟨rfl,C,t,rfl⟩ .nil),P,es,ep,F,G,e3,O,Y⟩)
noncomputable abbrev Q9 (l:List (Int×Int)):List (Key×V):=l.map λp=>(.inl p.1,.int p.2)
noncomputable abbrev UP (l:List (Int×Int)):KL:=l.map λp=>(.inl p.1,.int p.1,p.2)
theorem nX:∀{l:List (Int×Int)}{vs:List (Key×G')}{es:List Ro},KV (Q9 l) vs->Pairs (aY P w) es vs->(∀e∈es,∃k,i7 k e.key=true/\e.hash=F8 w k)->
  ∃xs,PKL (UP l) xs/\es=xs.map (λx=>(⟨mH x.1,x.2.1,x.2.2⟩:Ro))/\xs.map (·.1)=l.map λp=>RH p.1
 | [],vs,es,r,p,h=>by
  rw[show Q9 []=[] from rfl] at r;cases r;cases p;exact⟨[],.nil,rfl,rfl⟩
 | (i,j)::l,vs,es,r,p,h=>by
  rw[show Q9 ((i,j)::l)=(.inl i,.int j)::Q9 l from rfl] at r;cases r with
  | @cons _ b _ bs r1 r2=>
   obtain⟨k0,A⟩:=b;obtain⟨d,t,c⟩:=r1;dsimp only at d c;subst d c;cases p with
   | @cons e _ es _ q1 q2 q3=>
    obtain⟨xs,u,o,y⟩:=nX r2 q3 λe g=>h e (Qr _ g);obtain⟨k,s,f⟩:=h e Qa;have m:k=.inl i:=(aY P w).inj e.key k (.inl i) s q1;subst m;obtain⟨t',n⟩:=BY (k:=i) (v:=e.key) q1;refine⟨(.inl i,e.key,e.val)::xs,.cons ⟨rfl,⟨t',n⟩,t,q2⟩ u,?_,by rw[QJ,y,QJ]⟩;rw[QJ,<-o]
    congr 1
    obtain⟨d,c,C⟩:=e;dsimp only at f;subst f;rfl
theorem Inv.toK {σ:St}(I:Inv X ac σ H s)(e:H a=some (.dK (Q9 l))):Inv X ac σ (upd H a (Sm a (UP l))) s:=by
 obtain⟨z,hd,vs,rel,o,es,ep,d,y,f,g,t,c⟩:=j5 I.PQ e;obtain⟨xs,n,m,v⟩:=nX (P:=X.prog) (w:=X.w) rel t λe j=>g e (ć.mp j);have nd:(xs.map (·.1)).Nodup:=by
  rw[v];have:vs.map (·.1)=(l.map λp=>RH p.1):=by
   have:∀{l:List (Int×Int)}{vs:List (Key×G')},KV (Q9 l) vs->vs.map (·.1)=l.map λp=>RH p.1:=by
    intro l
    induction l with
    | nil=>intro vs r;rw[show Q9 []=[] from rfl] at r;cases r;rfl
    | cons p l ih=>
     intro vs r;rw[show Q9 (p::l)=(.inl p.1,.int p.2)::Q9 l from rfl] at r;cases r with
     | cons r1 r2=>rw[QJ,ih r2,QJ,<-r1.1]
   exact this rel
  rw[this] at c;unfold È at c ⊢;rw[Wc] at c ⊢;exact c.imp λh q=>h (by injection q with q;rw[q])
 exact I.write (x:=a) (e:=a) (h':=s.heap) (t':=s.toks) (o:=Sm a (UP l)) (by rw[e];exact Ti) (.inl rfl) (λb u _ q=>q) ⟨o,d⟩ (AZ ⟨hd,xs,n,o,es,ep,d,y,f,m,nd⟩)
theorem G5 (h:PE X e t):PE X e (λσ H Q=>t σ H λv H2=>∃p l,v=.ref p/\H2 p=some (.dK (Q9 l))/\Q v (upd H2 p (Sm p (UP l)))):=by
 intro ac s σ H Q I c;refine PY (h ac s σ H _ I c) λu s1 ⟨v,f,b,r,p,l,ev,d,q⟩=>?_;exact⟨v,_,b.toK d,r,q⟩
end L2
namespace L2
open PySem PySem.Spec PyProof.Rows PySem.SetTable
def ElI (e:Sa.Rp)(k:Int):Prop:=e.1=hashInt k/\∃t,e.2=Ru k t
structure Rc (h:Ps)(a:D')(o:J')(es:Array Sa.Rp)(ep:Nat)(t:QZ)(ks:List Int):Prop where
 ob:h.get? a=some o
 ex:o.ExactSet
 dt:o.data=.set es ep t
 full:Sa.Full t es
 Qi:t.place.size*5<t.mask*3
 pl:t.plain=true
 el:PR ElI es.toList ks
 nd:ks.Nodup
theorem A7 (F:Sa.Full t es)(h:Int)(Qi:t.place.size*5<t.mask*3):∃N,t.freeSlot h=some ((Sa.Qc t h N).j,false)/\(Sa.Qc t h N).j∉t.place.toList/\∀m,m<N->(Sa.Qc t h m).j∈t.place.toList:=by
 obtain⟨N,f,d,b⟩:=Sa.meets F.tab h (by lia);refine⟨N,?_,d,b⟩;obtain⟨g,_,_,c,_⟩:=qh (H:=λ_=>h+1) F.tab d b (10*turns t.mask) 0 (RA _) (by unfold turns;lia);unfold QZ.freeSlot QZ.probe;rcases c with⟨_,e⟩|⟨_,i,_,z,_⟩
 .have e:probe.go t (λ_=>h+1) h (10*turns t.mask) (t.probeStart h)=_:=e;rw[e];rfl
 .exact Py z (by lia)
theorem Rc.fits (S:Rc h a o es ep t ks):t.fits es.size=true:=by
 unfold Į Vh;rw[S.full.tab.VA,S.full.size];have:=S.Qi;rw[S.full.size] at this;simp;lia
theorem Rc.elems (S:Rc h a o es ep t ks):ElemsOf (intKind prog w) es.toList:=λe d=>by
 obtain⟨k,_,c,f,b⟩:=fK S.el e d;refine⟨⟨k,by rw[b];simp[intKind,Ë],c⟩,?_⟩;rw[b];rfl
theorem Rc.len (S:Rc h a o es ep t ks):es.size=ks.length:=by rw[<-RT];exact S.el.length
theorem Rc.keep (S:Rc h a o es ep t ks)(k:∀u,h.get? a=some u->h'.get? a=some u):Rc h' a o es ep t ks:=⟨k _ S.ob,S.ex,S.dt,S.full,S.Qi,S.pl,S.el,S.nd⟩
theorem add_int (S:Rc s.heap a o es ep t ks)(room:k∉ks->(ks.length+1)*5<t.mask*3)(Qi:ks.length<70)(h:∀h' f,(∀b u,b≠a->s.heap.get? b=some u->h'.get? b=some u)->(∃o es ep t' RF,Rc h' a o es ep t' RF/\t'.led=t.led/\t'.mask=t.mask/\(∀x,x∈RF↔x=k\/x∈ks))->Q f { s with heap:=h' }):
  Pq (Px prog w) A (setAddHashed a (.int k tk) (hashInt k)) Q E s:=by
 have d:=S.elems (prog:=prog) (w:=w);have len:=S.len;unfold setAddHashed;refine Sq ?_;show Pq _ _ (setAddHashedIn a (.int k tk) (hashInt k) (99999+1)) _ _ _;rw[uK];refine Pm (SE S.ob S.dt S.fits ?_);dsimp only;rw[byScan_of rfl (by unfold scanBound;lia) d];simp only[↓reduceIte];unfold setAddByScan;refine Pm (Pm (Tj (Pm (wpAny_setScan_of (knd:=intKind prog w) (k:=k) (by simp[intKind,Ë]) S.ob S.dt S.fits d ?_))));have c:∀e∈es.toList,((intKind prog w).is k e.2=true↔∃tk,e.2=Ru k tk):=λe _=>by
  constructor
  .intro q;exact BY q
  .rintro⟨tk,q⟩;rw[q];simp[intKind,Ë]
 cases hr:List.findIdx? (λe=>(intKind prog w).is k e.2) es.toList with
 | some j=>
  dsimp only;obtain⟨y,D,_⟩:=List.findIdx?_eq_some_iff_getElem.mp hr;obtain⟨X2,e1⟩:=(c _ (Xo y)).mp D;obtain⟨k',P,_,g,m⟩:=cB S.el (Q5 y);rw[e1] at m;cases m;exact Pu (Pu (h s.heap false (λ_ _ _ q=>q) ⟨o,es,ep,t,ks,S,rfl,rfl,λx=>⟨.inr,λz=>z.elim (λz=>by rw[z];exact Q6 P) id⟩⟩))
 | none=>
  dsimp only;have L:k∉ks:=λz=>by
   obtain⟨j,y⟩:=X'.mp z;obtain⟨e,I,_,g,m⟩:=gJ S.el y;have:=List.findIdx?_eq_none_iff.mp hr e (Q6 I);rw[(c e (Q6 I)).mpr ⟨g,m⟩] at this;cases this
  obtain⟨N,T,Z,W⟩:=A7 S.full (hashInt k) S.Qi;have Y:=room L;obtain⟨U,v,p3,M,J,p6,p7⟩:=Sa.Of S.full.tab (Sa.Qc t (hashInt k) N).j;have F:=Sa.aeR S.full (e:=(hashInt k,.int k tk)) Z W;dsimp only at F;obtain⟨bl,_,_⟩:=Sa.Wm S.full.tab.rise (Sa.Qc t (hashInt k) N).j;have sz:=F.size;have fs:=S.full.size;have n:(insertAt es (t.put (Sa.Qc t (hashInt k) N).j).2 (hashInt k,Ru k tk)).size=es.size+1:=Sa.ĵ _ _ (by rw[U];lia);have lay:layNew t es (hashInt k) (.int k tk)=(insertAt es (t.put (Sa.Qc t (hashInt k) N).j).2 (hashInt k,Ru k tk),(t.put (Sa.Qc t (hashInt k) N).j).1,false,false):=by
   have G:(t.put (Sa.Qc t (hashInt k) N).j).1.fits (insertAt es (t.put (Sa.Qc t (hashInt k) N).j).2 (hashInt k,Ru k tk)).size=true:=by
    unfold Į Vh;rw[M,sz,n,v];simp;lia
   unfold layNew;rw[T];dsimp only;unfold QZ.orStandIn;rw[PK G,G];rfl
  rw[lay];dsimp only;refine Pm (Pu ?_);rw[J,S.pl];simp only[if_true];refine Pm (Pu ?_);simp only[if_true];generalize (t.put (Sa.Qc t (hashInt k) N).j).1=t' at *;generalize (t.put (Sa.Qc t (hashInt k) N).j).2=p at *;refine Pm (Ù S.ob S.dt ?_ (by rw[n,QA];lia));obtain⟨X,R,g3⟩:=gS S.ob S.ex S.dt (insertAt es p (hashInt k,Ru k tk)) t';have C:PR ElI (insertAt es p (hashInt k,Ru k tk)).toList (ks.take p++k::ks.drop p):=by
   rw[Sa.Xv];exact dG (ti p S.el) (.cons ⟨rfl,tk,rfl⟩ (j3 p S.el))
  have O:(ks.take p++k::ks.drop p).Perm (k::ks):=by
   refine List.perm_middle.trans ?_;rw[X9]
  have ZO:(ks.take p++k::ks.drop p).Nodup:=O.nodup_iff.mpr (Tw.mpr ⟨L,S.nd⟩);have nf:t'.tooFull=false:=by
   unfold AT Vh;rw[M,sz,n,v];simp;lia
  rw[nf];simp only[Bool.not_false,Ü,Q7,if_false];refine Pu (Pu (h _ true R ⟨_,_,_,t',_,⟨X,S.ex,rfl,F,by rw[sz,n,v,len];exact Y,by rw[J,S.pl],C,ZO⟩,p6,v,λx=>?_⟩));rw[O.mem_iff,Qe]
theorem sg {led:Bool}(e:h.get? S=some (bI led)):Rc h S (bI led) #[] 0 (.fresh 0 0 led) []:=
 ⟨e,⟨rfl,rfl,rfl⟩,rfl,⟨⟨.inl rfl,Yb,λj b=>(Rz b).elim,rfl⟩,rfl,λx c=>(Rz c).elim⟩,(by show 0*5<7*3;decide),rfl,.nil,Zh⟩
theorem vv:isSubtype (.type "dict") (.type "set")=pure false:=by rw[Ï];kernel_rfl
theorem vw:isSubtype (.type "dict") (.type "frozenset")=pure false:=by rw[Ï];kernel_rfl
theorem wJ (hd:(d==R8)=false)(ho:s.heap.get? d=some o)(hx:o.ExactDict)(hdt:o.data=.dict ds ep)(p:PR (λ(e:Ro) k=>e.hash=hashInt k/\∃t,e.key=.int k t) ds.toList l)(nd:l.Nodup)(Qi:l.length<=4)(h:∀h' tk,(∀b o,s.heap.get? b=some o->h'.get? b=some o)->(∃o es ep t ks,Rc h' s.heap.objs.size o es ep t ks/\t.led=bN w/\t.mask=7/\∀x,x∈ks↔x∈l)->Q (.ref s.heap.objs.size) { s with heap:=h',toks:=tk }):Pq (Px prog w) A (call (.type "set") [.ref d]) Q E s:=by
 refine AC ?_;generalize abA:bN w=led at h ⊢;obtain⟨oc,od,odt,SV⟩:=o;obtain⟨T,N,U⟩:=hx;simp only at T N U hdt;subst T N U hdt;have lt:d<s.heap.objs.size:=Qf ho;have P:(s.heap.push (bI led)).get? s.heap.objs.size=some (bI led):=Rb _ rfl;have hT:É { s with heap:=s.heap.push (bI led) } (.ref s.heap.objs.size) "set":=⟨_,P,rfl⟩
 have M:(s.heap.push (bI led)).get? d=some { cls:=.type "dict",dict:=none,data:=.dict ds ep,slots:=#[] }:=Qn _ ho;have WX:É { s with heap:=s.heap.push (bI led) } (.ref d) "dict":=⟨_,M,rfl⟩
 have n1:=vv;have n2:=vw;have n3:(TV "dict"==TV "dict")=true:=by decide
 unfold S7.«set.__init__» noKeywords ĉ;generalize L:setRoomFor=PI;wp_walk;subst L;have dl:ds.size=l.length:=by rw[<-RT];exact p.length
 have Z:=sg P;unfold setRoomFor;refine Pm (SE (s:={ s with heap:=s.heap.push (bI led) }) Z.ob Z.dt Z.fits ?_);have nr:(QZ.fresh 0 0 led).roomFor ds.size=none:=by
  unfold At Vh;rw[Pr (by show ¬(0+0+ds.size)*5 >= 7*3;lia)]
 dsimp only;rw[nr];refine Pu ?_;refine Pm (m:=dictEntries d) (Ô (s:={ s with heap:=s.heap.push (bI led) }) M rfl (Pm ?_));rw[Std.Legacy.Range.forIn_eq_forIn_range'];refine UB _ (λrest _ J=>∃i c o es v t ks,i+rest.length=ds.size/\rest=List.range' i (ds.size-i)/\J={ s with heap:=c }/\(∀b o,s.heap.get? b=some o->c.get? b=some o)/\Rc c s.heap.objs.size o es v t ks/\t.led=led/\t.mask=7/\∀x,x∈ks↔x∈l.take i) _ ?_ ?_ _ _
  ⟨0,_,_,_,_,_,_,by simp,by simp,rfl,λb o e=>Qn _ e,Z,rfl,rfl,λx=>by simp⟩
 .rintro j rest b J ⟨i,c,o,es,v,t,ks,g,D,rfl,k1,S,G,y,mem⟩;have R:i<ds.size:=by rw[QU] at g;lia
  obtain⟨n,hn⟩:∃n,ds.size-i=n+1:=⟨ds.size-i-1,by lia⟩
  rw[hn,List.range'_succ] at D;injection D with e1 e2
  subst e1;have od:=k1 _ _ ho;refine Pm (Ô (s:={ s with heap:=c }) od rfl ?_);obtain⟨k,O,q1,tk,q2⟩:=cB p (show ds.toList[j]?=some ds[j] by simp[R]);rw[Vd R];dsimp only;rw[q1,q2];have kl:k∉ks:=λz=>by
   obtain⟨q,C⟩:=X'.mp ((mem k).mp z);have X:q<j:=by
    have:=(Rh.mp C).1;rw[SO] at this;lia
   rw[Ų X] at C;have:=(ů (Rh.mp C).1 nd).mp (C.trans O.symm);lia
  have ksl:ks.length<=j:=by
   have c:=dC ks (l.take j) S.nd λx hx=>(mem x).mp hx;rw[SO] at c;lia
  refine Pm (Sq (add_int (s:={ s with heap:=c }) S (λ_=>by rw[y];lia) (by lia) λW f k2 ⟨o2,SY,Tq,t2,Te,S2,Y,m2,I⟩=>?_));have F:=k2 d _ (Qw lt) od;refine Pm (VL (s:={ s with heap:=W }) F rfl ?_);rw[Pr (by simp)];refine Pu ⟨j+1,W,o2,SY,Tq,t2,Te,by rw[QU] at g;lia,by rw[e2];congr 1;lia,rfl,λb u e=>k2 b u (Qw (Qf e)) (k1 b u e),S2,Y.trans G,m2.trans y,λx=>?_⟩;rw[I,mem,Xm,O,ê,QW,Ri];exact or_comm
 .rintro b J ⟨i,c,o,es,v,t,ks,g,D,rfl,k1,S,G,y,mem⟩;refine Pu (Pu ⟨_,rfl,rfl,h c _ k1 ⟨o,es,v,t,ks,S,G,y,λx=>?_⟩⟩);rw[mem];have:l.take i=l:=æ (by simp at g;lia);rw[this]
theorem A8 (S:Rc s.heap a o es ep t ks)(hM:Sa.Mk M)(hz:sizeAbove n=M+1)(hs:es.size*5<M*3)(h:∀h',(∀b u,b≠a->s.heap.get? b=some u->h'.get? b=some u)->(∃o es ep t' RF,Rc h' a o es ep t' RF/\t'.led=t.led/\t'.mask=M/\RF.Perm ks)->Q () { s with heap:=h' }):Pq (Px prog w) A (setRelay a n) Q E s:=by
 rw[uL];refine Pm (SE S.ob S.dt S.fits ?_);dsimp only;have p:M<=255:=by rcases hM with e|e|e|e|e|e <;> lia
 rw[Pr (by rw[hz,QA];lia)];obtain⟨t',order,D,d,F,j,c,y,f⟩:=Sa.aeS (mask:=M) (finger:=t.finger) (moves:=t.movedTo M) (led:=t.led) (plain:=t.plain) hM es (by lia);have v:t.relaid (es.map (·.1)) n=some (t',order):=by
  unfold relaid;rw[hz];exact D
 rw[v];dsimp only;have ne:((order.filterMap (es[·]?)).size != es.size)=false:=by rw[c];simp
 rw[ne];simp only[Q7,if_false];refine Pm (Pu (Ù S.ob S.dt ?_ (by rw[c,QA];lia)));obtain⟨x,m,G⟩:=gS S.ob S.ex S.dt (order.filterMap (es[·]?)) t';obtain⟨RF,C,g⟩:=jq y S.el;refine h _ m ⟨_,_,_,t',RF,⟨x,S.ex,rfl,f,?_,by rw[F];exact S.pl,C,g.nodup_iff.mpr S.nd⟩,j,d,g⟩;rw[f.size,d,c];exact hs
theorem Di (S:Rc s.heap a o es ep t ks)(m7:t.mask=7)(h4:ks.length<=4)(m4:more<=4)(h:∀h',(∀b u,b≠a->s.heap.get? b=some u->h'.get? b=some u)->(∃o es ep t' RF,Rc h' a o es ep t' RF/\t'.led=t.led/\7<=t'.mask/\(ks=[]->t'=t)/\RF.Perm ks)->Q () { s with heap:=h' }):Pq (Px prog w) A (setRoomFor a more) Q E s:=by
 have len:=S.len;unfold setRoomFor;refine Pm (SE S.ob S.dt S.fits ?_);dsimp only
 by_cases c:(es.size+more)*5 >= 21
 .have d:t.roomFor more=some ((es.size+more)*2):=by
   unfold At Vh;rw[S.full.tab.VA,S.full.size,m7,PK (by simp;(first|trivial|lia))]
  rw[d];have key:∃M,Sa.Mk M/\sizeAbove ((es.size+more)*2)=M+1/\es.size*5<M*3/\7<=M:=by
   have m:es.size+more=5\/es.size+more=6\/es.size+more=7\/es.size+more=8:=by lia
   rcases m with e|e|e|e <;> rw[e]
   .exact⟨15,.inr (.inr (.inr (.inl rfl))),by decide,by lia,by decide⟩
   .exact⟨15,.inr (.inr (.inr (.inl rfl))),by decide,by lia,by decide⟩
   .exact⟨15,.inr (.inr (.inr (.inl rfl))),by decide,by lia,by decide⟩
   .exact⟨31,.inr (.inl rfl),by decide,by lia,by decide⟩
  obtain⟨M,k1,k2,k3,p⟩:=key;dsimp only;refine A8 S k1 k2 k3 λh' q ⟨g,f,j,t',RF,x,v,n,y⟩=>h h' q ⟨g,f,j,t',RF,x,v,by rw[n];exact p,λz=>?_,y⟩;rw[z] at len;have:es.size=0:=len;lia
 .have d:t.roomFor more=none:=by
   unfold At Vh;rw[S.full.tab.VA,S.full.size,m7,Pr (by simp;lia)]
  rw[d];exact Pu (h s.heap (λ_ _ _ q=>q) ⟨o,es,ep,t,ks,S,rfl,by lia,λ_=>rfl,ç _⟩)
theorem Dj (S:Rc s.heap a o es ep t ks)(hl:t.led=bN w)(h:Q (wo w a ep es) s):Pq (Px prog w) A (setWalkUnseen a others f) Q E s:=by
 have c:(cO w||(t.led&&t.plain))=true:=by
  rw[hl,S.pl];show(cO w||(!cO w&&true))=true;cases cO w <;> rfl
 unfold setWalkUnseen;refine Pm (SE S.ob S.dt S.fits (Pm (dX ?_)));dsimp only;rw[PK (by rw[c];rfl),j7];refine Pm (SE S.ob S.dt S.fits (Pm (dX ?_)));cases b:cO w with
 | true=>
  simp only[if_true];refine Pm (Ñ (Pu ?_));unfold wo at h;rw[b] at h;exact h
 | false=>
  have lt:t.led=true:=by rw[hl];show(!cO w)=true;rw[b];rfl
  simp only[Q7,if_false,S.pl,Ui,Ý,lt];unfold wo at h;rw[b] at h;exact Pu h
theorem qy {ks:List Int}(nd:ks.Nodup)(h:∀x∈ks,0<=x/\x<4):ks.length<=4:=dC ks [0,1,2,3] nd λx b=>by
 have:=h x b;have:x=0\/x=1\/x=2\/x=3:=by lia
 rcases this with rfl|rfl|rfl|rfl <;> simp
theorem si (S1:Rc s.heap r o1 Z1 Z2 t1 Ux)(S2:Rc s.heap a o2 SY Tq t2 Te)(ne:r≠a)(m1:t1.mask=7)(m2:t2.mask=7)(l1:t1.led=bN w)(l2:t2.led=bN w)(small:∀x,x∈Ux\/x∈Te->0<=x/\x<4)(he:∀(s':N') (Q:Unit->N'->Prop),s'.heap.get? a=some o2->Q () s'->Pq (Px prog w) A each Q E s')(h:∀h',(∀b u,b≠r->s.heap.get? b=some u->h'.get? b=some u)->(∃o es ep t ks,Rc h' r o es ep t ks/\t.led=bN w/\(Ux=[]->t.mask=7)/\∀x,x∈ks↔x∈Ux\/x∈Te)->Q () { s with heap:=h' }):Pq (Px prog w) A (setMerge r a each) Q E s:=by
 have f1:=qy S1.nd λx hx=>small x (.inl hx);have f2:=qy S2.nd λx hx=>small x (.inr hx);have n2:=S2.len;unfold setMerge;rw[Pr (by simpa using ne)];refine Pm (SE S2.ob S2.dt S2.fits ?_);dsimp only
 by_cases z:SY.isEmpty=true
 .rw[PK z];have:Te=[]:=VH.mp (by rw[<-n2];simpa using z);exact Pu (h s.heap (λ_ _ _ q=>q) ⟨o1,Z1,Z2,t1,Ux,S1,l1,λ_=>m1,λx=>by rw[this];simp⟩)
 rw[Pr z];refine Pm (Di S1 m1 f1 (by lia) λj k1 ⟨o,es,ep,t,ks,S,l,m,e0,M⟩=>?_);have U:Rc j a o2 SY Tq t2 Te:=S2.keep λu e=>k1 a u (QC ne) e;refine Pm (SE (s:={ s with heap:=j }) S.ob S.dt S.fits ?_);dsimp only
 by_cases p:Ux=[]
 .have Z:=e0 p;subst Z;have G:es.size=0:=by
   have:=S.len;rw[this,M.length_eq,p];rfl
  have C:t.road t2=.slotForSlot:=by
   unfold QZ.road Vh;rw[S.full.tab.VA,S.full.size,G,m1,m2,S2.full.tab.VA];rfl
  rw[C];dsimp only;refine Ù (s:={ s with heap:=j }) S.ob S.dt ?_ (by rw[QA];lia);obtain⟨g1,X,g3⟩:=gS S.ob S.ex S.dt SY { t2 with finger:=t.finger,led:=t.led&&t2.led,moves:=t.moves,plain:=t.plain&&t2.plain };refine h _ (λb u c e=>X b u c (k1 b u c e)) ⟨_,_,_,_,Te,⟨g1,S.ex,rfl,⟨⟨S2.full.tab.RG,S2.full.tab.rise,S2.full.tab.le,S2.full.tab.VA⟩,S2.full.size,S2.full.reach⟩,S2.Qi,by show(t.plain&&t2.plain)=true;rw[S.pl,S2.pl];rfl,S2.el,S2.nd⟩,?_,λ_=>m2,λx=>by rw[p];simp⟩;show(t.led&&t2.led)=bN w;rw[l1,l2,Bool.and_self]
 .have G:es.size≠0:=by
   have:=S.len;rw[this,M.length_eq];intro q;exact p (VH.mp q)
  have C:t.road t2=.oneByOne:=by
   unfold QZ.road Vh;rw[S.full.tab.VA,S.full.size,PK (by simpa using G)]
  rw[C];dsimp only;refine Pm (Dj (s:={ s with heap:=j }) U l2 ?_);rw[<-Ú];have pw:=qj w a Tq SY;obtain⟨I,N,d⟩:=jq pw S2.el;refine Pm (UB _ (λrest _ s'=>∃i g o es ep t ks,(wo w a Tq SY).toList.drop i=rest/\s'={ s with heap:=g }/\(∀b u,b≠r->j.get? b=some u->g.get? b=some u)/\Rc g r o es ep t ks/\t.led=bN w/\7<=t.mask/\∀x,x∈ks↔x∈Ux\/x∈I.take i) _ ?_ ?_ (wo w a Tq SY).toList _
   ⟨0,j,o,es,ep,t,ks,by simp,rfl,λ_ _ _ q=>q,S,l.trans l1,m,λx=>by simp[M.mem_iff]⟩)
  .rintro⟨hh,x⟩ rest b s' ⟨i,g,o,es,ep,t,ks,y,rfl,k2,S,lt,mt,mem⟩;have Y:(wo w a Tq SY).toList[i]?=some (hh,x):=by
    have:=congrArg List.head? y;rw[List.head?_drop] at this;exact this
   obtain⟨k,R,T,tk,P⟩:=cB N Y;dsimp only at T P;subst T P;have XE:k∈Te:=d.mem_iff.mp (Q6 R);have O:∀x∈k::ks,0<=x/\x<4:=λx hx=>by
    rcases Qe.mp hx with rfl|hx
    .exact small _ (.inr XE)
    .rcases(mem x).mp hx with q|q
     .exact small x (.inl q)
     .exact small x (.inr (d.mem_iff.mp (Ÿ q)))
   refine Pm (Sq (add_int (s:={ s with heap:=g }) S (λW=>?_) ?_ λv f k3 ⟨o3,D,J,t3,F,S3,l3,m3,L⟩=>?_))
   .have:=qy (Tw.mpr ⟨W,S.nd⟩) O;rw[QU] at this;have:(ks.length+1)*5<=20:=by lia
    have:21<=t.mask*3:=by lia
    lia
   .have:=qy S.nd λx hx=>O x (Qr _ hx);lia
   .have n:v.get? a=some o2:=k3 a _ (QC ne) (k2 a _ (QC ne) U.ob);refine Pm (he { s with heap:=v } _ n ?_);refine Pm (SE (s:={ s with heap:=v }) n S2.dt S2.fits ?_);dsimp only;rw[Pr (by simp)];refine Pu ⟨i+1,v,o3,D,J,t3,F,?_,rfl,λb u c e=>k3 b u c (k2 b u c e),S3,l3.trans lt,by rw[m3];exact mt,λx=>?_⟩
    .have:=congrArg List.tail y;rw[List.tail_drop] at this;exact this
    .rw[L,mem,Xm,R,ê,QW,Ri];constructor
     .rintro(q|q|q)
      .exact .inr (.inr q)
      .exact .inl q
      .exact .inr (.inl q)
     .rintro(q|q|q)
      .exact .inr (.inl q)
      .exact .inr (.inr q)
      .exact .inl q
  .rintro b s' ⟨i,g,o,es,ep,t,ks,y,rfl,k2,S,lt,mt,mem⟩;have il:(wo w a Tq SY).toList.length<=i:=List.drop_eq_nil_iff.mp y;have kl:=N.length;refine Pu (h g (λb u c e=>k2 b u c (k1 b u c e)) ⟨o,es,ep,t,ks,S,lt,λq=>Py q p,λx=>?_⟩);rw[mem,æ (by lia),d.mem_iff]
theorem Le (args):S7.«frozenset.__or__» args=(do
  let (self,other) <-S7.Frozenset.slot1 "__or__" args
  if !(<-(Ř self <&&> Ř other)) then
   rule s!"frozenset.{"__or__"}.declined"
   return <-ret .notImplemented
  ret (<-(λ(l:D')=>(do
   let result <-Ĉ l
   if other != .ref l then holding [result] (ĉ s!"frozenset.{"__or__"}" (<-ŗ result) other)
   return result:Sem G')) (<-ŗ self))):=rfl
theorem vx:entryFor table "set.__or__"=some S7.«frozenset.__or__»:=
 Ļ (id':="frozenset.__or__") (by kernel_rfl) rfl (by decide +kernel) (by kernel_rfl)
theorem Dl (S:Rc s.heap a o1 Z1 Z2 t1 Ux)(m1:t1.mask=7)(l1:t1.led=bN w)(small:∀x∈Ux,0<=x/\x<4)(h:∀h',(∀b u,s.heap.get? b=some u->h'.get? b=some u)->(∃o es ep t ks,Rc h' s.heap.objs.size o es ep t ks/\t.led=bN w/\t.mask=7/\∀x,x∈ks↔x∈Ux)->Q (.ref s.heap.objs.size) { s with heap:=h' }):Pq (Px prog w) A (Ĉ a) Q E s:=by
 have lt:a<s.heap.objs.size:=Qf S.ob;have f:s.TypeIs (.ref a) "set":=⟨_,S.ob,S.ex.1⟩
 have g:=sub_set_self;unfold Ĉ S7.Frozenset.baseOf;refine Pm (Pm (þ f g (Pu ?_)));simp only[if_true];have new:∀{Q:G'->N'->Prop},Q (.ref s.heap.objs.size) { s with heap:=s.heap.push (bI (bN w)) }->Pq (Px prog w) A (newSet (.type "set")) Q E s:=λ{Q} c=>by
  unfold newSet;refine Pm (dX ?_);simp only[newObj];exact Pm (wpAny_alloc (Pu c))
 refine Pm (new ?_);have m:(s.heap.push (bI (bN w))).get? s.heap.objs.size=some (bI (bN w)):=Rb _ rfl;have Z:=sg m;refine Pm (Pu (Pm (si (s:={ s with heap:=s.heap.push (bI (bN w)) }) Z (S.keep λu e=>Qn _ e) (Wj lt) rfl m1 rfl l1 (λx d=>small x (d.resolve_left (by simp))) (λv Q _ c=>Pu c) λh' k ⟨o,es,ep,t,ks,p,n,j,mem⟩=>?_)));exact Pu (h h' (λb u e=>k b u (Qw (Qf e)) (Qn _ e)) ⟨o,es,ep,t,ks,p,n,j rfl,λx=>by rw[mem];simp⟩)
theorem or_int (S1:Rc s.heap a o1 Z1 Z2 t1 Ux)(S2:Rc s.heap b o2 SY Tq t2 Te)(ne:a≠b)(m1:t1.mask=7)(m2:t2.mask=7)(l1:t1.led=bN w)(l2:t2.led=bN w)(small:∀x,x∈Ux\/x∈Te->0<=x/\x<4)(h:∀h',(∀b u,s.heap.get? b=some u->h'.get? b=some u)->(∃o es ep t ks,Rc h' s.heap.objs.size o es ep t ks/\t.led=bN w/\∀x,x∈ks↔x∈Ux\/x∈Te)->Q (.ref s.heap.objs.size) { s with heap:=h' }):Pq (Px prog w) A (binaryOp .BitOr (.ref a) (.ref b)) Q E s:=by
 have d:s.TypeIs (.ref a) "set":=⟨_,S1.ob,S1.ex.1⟩
 have O:s.TypeIs (.ref b) "set":=⟨_,S2.ob,S2.ex.1⟩
 have lt:b<s.heap.objs.size:=Qf S2.ob;have W:=sub_set_self;refine wpAny_binaryOp_same (op:=.BitOr) d O PySem.F.fills_set_or agq (UU agq d vx ?_ (PySem.F.args_set_or_2 _ _));rw[Le];generalize D:Ĉ=C;wp_walk;subst D;refine Dl S1 m1 l1 (λx g=>small x (.inl g)) λf k1 ⟨o,es,ep,t,ks,S,l,m,mem⟩=>?_;have p:Rc f b o2 SY Tq t2 Te:=S2.keep λu e=>k1 b u e;have T:É { s with heap:=f } (.ref b) "set":=⟨_,p.ob,S2.ex.1⟩
 dsimp only;rw[PK (by simp only[bne_iff_ne,ne_eq,Qu.injEq];exact QC ne)];refine Pm (Pu (Pm (Sq ?_)));unfold ĉ Ř;generalize I:af4=MG;wp_walk;subst I;unfold af4 setEpoch;refine Pm (Pm (SE (s:={ s with heap:=f }) p.ob S2.dt S2.fits (Pu ?_)));refine si (s:={ s with heap:=f }) S p (Wj lt) m m2 l l2 (λx g=>small x (g.imp (mem x).mp id)) (λU R J M=>?_) λN k2 ⟨o3,j,v,P,n,G,L,_,y⟩=>?_
 .unfold S7.Frozenset.unchanged setEpoch;refine Pm (Pm (SE J S2.dt S2.fits (Pu ?_)));rw[Pr (by simp)];exact Pu M
 .refine Pu (Pu ⟨_,rfl,(by intro z;cases z),h N (λc u e=>k2 c u (Qw (Qf e)) (k1 c u e)) ⟨o3,j,v,P,n,G,L,λx=>by rw[y,mem]⟩⟩)
theorem Rc.wk (S:Rc h a o es ep t ks)(l:t.led=bN w):Wk w h a es ep t:=⟨⟨o,S.ob,S.ex,S.dt⟩,S.full.tab.rise,S.full.size,S.fits,S.pl,l⟩
theorem pA:∀{l:List Sa.Rp}{ks:List Int},PR ElI l ks->U1 (l.map (·.2)) ks
 | _,_,.nil=>.nil
 | _,_,.cons ⟨_,t,e⟩ r=>by
  rw[QJ,e];exact .cons _ _ (pA r)
theorem A9 (p:vs.Perm us):∀{ks:List Int},U1 us ks->∃RF,U1 vs RF/\RF.Perm ks:=by
 induction p with
 | nil=>intro ks h;cases h;exact⟨[],.nil,.nil⟩
 | cons x _ j=>
  intro ks h;cases h with
  | cons n tk r=>
   obtain⟨o,a,b⟩:=j r;exact⟨_,.cons _ _ a,b.cons _⟩
 | swap x y l=>
  intro ks h;cases h with
  | cons n tk r=>
   cases r with
   | cons n' X2 r=>exact⟨_,.cons _ _ (.cons _ _ r),.swap _ _ _⟩
 | trans _ _ d c=>
  intro ks h;obtain⟨k1,g,m⟩:=c h;obtain⟨k2,f,e⟩:=d g;exact⟨k2,f,e.trans m⟩
theorem y9 (hh:A.handled=none)(S:Rc s.heap a o es ep t ks)(l:t.led=bN w)(hn:ks.length<64)(h:∀h' tk l (out:Array G') (Rr:List Int) c,(∀b o,s.heap.get? b=some o->h'.get? b=some o)->s.heap.objs.size<=l->h'.get? l=some (QB "list" out c)->U1 out.toList Rr->Rr.Perm ks->Rr.Pairwise (·<=·)->Q (.ref l) { s with heap:=h',toks:=tk }):
  Pq (Px prog w) A (call (.builtin "sorted") [.ref a]) Q E s:=by
 have len:=S.len;refine Ŝ kind_sorted plain_sorted entry_sorted (args_sorted1 _) ?_;unfold S7.«sorted»;refine Pm (m:=checkCount "sorted" 1 1 _) (Pu (Pm (wG (by simp[hh]) (S.wk l) (by lia) λd tk vs k1 lt j=>Pm (Ã ?_ (by rw[QA,j.length_eq,Qx,RT];lia)))));obtain⟨ns,v,pn⟩:=A9 j (pA S.el);have y:vs.length=es.size:=by rw[j.length_eq,Qx,RT]
 have f:(d.push (QB "list" vs.toArray 0)).get? d.objs.size=some (QB "list" vs.toArray 0):=Rb _ rfl;refine Pm (Sq (UU ō ⟨_,f,rfl⟩ ŋ (list_sort_tree (s:={ s with heap:=d.push (QB "list" vs.toArray 0),toks:=tk }) f v (by lia) λout Rr u n x=>⟨_,rfl,Pu ⟨_,rfl,?_⟩⟩) (ŏ _)));obtain⟨g,o1⟩:∃g,((d.push (QB "list" vs.toArray 0)).update d.objs.size (Sr λ_=>#[])).get? d.objs.size=some (QB "list" #[] g):=⟨_,ā f _⟩
 have p:((((d.push (QB "list" vs.toArray 0)).update d.objs.size (Sr λ_=>#[])).push (QB "tuple" vs.toArray 0)).push (QB "list" #[] 0)).get? d.objs.size=some (QB "list" #[] g):=Qn _ (Qn _ o1);refine h _ _ d.objs.size out Rr _ (λb o e=>?_) lt (ā p _) u (n.trans pn) x;have ne:b≠d.objs.size:=Qw (Qf (k1 b o e));exact(ξ _ _ (QC ne)).trans (Qn _ (Qn _ ((ξ _ _ (QC ne)).trans (Qn _ (k1 b o e)))))
def vy (w:Pz)(a:D')(m:Bool)(ks:List Int)(h:Ps):Prop:=∃o es ep t,Rc h a o es ep t ks/\t.led=bN w/\(m=true->t.mask=7)
noncomputable def gC (w:Pz)(a:D')(m:Bool)(ks:List Int):HO:=.ext (vy w a m ks)
theorem xL (x:vy w a m ks h):bt P w H h a (gC w a m ks):=by
 refine⟨x,?_,λb c ⟨o,es,ep,t,S,r⟩ k=>⟨o,es,ep,t,S.keep k,r⟩⟩;obtain⟨o,_,_,_,S,_⟩:=x;exact⟨o,S.ob⟩
theorem sj:cF X (.type "set") (λxs H Q=>∃p l,xs=[.ref p]/\H p=some (.dK (Q9 l))/\l.length<=4/\∀q ks,H q=none->ks.Nodup->(∀x,x∈ks↔x∈l.map (·.1))->Q (.ref q) (upd H q (gC X.w q true ks))):=by
 intro ac s O H xs us Q I r h;obtain⟨p,l,rfl,N,Qi,q⟩:=h;obtain⟨u,rfl,C⟩:=dc r;cases C;obtain⟨z,hd,vs,rel,o,es,ep,E,M,g,j,L,c⟩:=j5 I.PQ N;obtain⟨xs,J,F,R⟩:=nX (P:=X.prog) (w:=X.w) rel L λe v=>j e (ć.mp v);have keys:∀{l:List (Int×Int)}{xs:List (SK×G'×G')},PKL (UP l) xs->PR (λ(e:Ro) k=>e.hash=hashInt k/\∃t,e.key=.int k t) (xs.map λx=>(⟨mH x.1,x.2.1,x.2.2⟩:Ro)) (l.map (·.1)):=by
  intro l
  induction l with
  | nil=>intro xs p;rw[show UP []=[] from rfl] at p;cases p;exact .nil
  | cons a l ih=>
   intro xs p;rw[show UP (a::l)=(.inl a.1,.int a.1,a.2)::UP l from rfl] at p;cases p with
   | @cons _ b _ bs r1 r2=>
    obtain⟨G,⟨d,m⟩,_⟩:=r1;refine .cons ⟨?_,d,m⟩ (ih r2);show mH b.1=_;rw[<-G];rfl
 have nd:(l.map (·.1)).Nodup:=by
  have e:vs.map (·.1)=(l.map λp=>RH p.1):=by
   have:∀{l:List (Int×Int)}{vs:List (Key×G')},KV (Q9 l) vs->vs.map (·.1)=l.map λp=>RH p.1:=by
    intro l
    induction l with
    | nil=>intro vs r;rw[show Q9 []=[] from rfl] at r;cases r;rfl
    | cons p l ih=>
     intro vs r;rw[show Q9 (p::l)=(.inl p.1,.int p.2)::Q9 l from rfl] at r;cases r with
     | cons r1 r2=>rw[QJ,ih r2,QJ,<-r1.1]
   exact this rel
  rw[e] at c;unfold È at c ⊢;rw[Wc] at c ⊢;exact c.imp λh q=>h (by rw[q])
 refine wJ hd E M g (by rw[F];exact keys J) nd (by rw[Qx];exact Qi) λh' d k ⟨y,n,D,t',ks,S,f,A,mem⟩=>?_;exact⟨.ref s.heap.objs.size,_,I.laid (o:=gC X.w s.heap.objs.size true ks) k (P1 _) (xL ⟨y,n,D,t',S,f,λ_=>A⟩),rfl,q _ ks (I.PQ.fresh (P1 _)) S.nd mem⟩
theorem qz {σ:St}(I:Inv X ac σ H s)(e:H a=some (gC X.w a m ks)):vy X.w a m ks s.heap:=
 (show bt X.prog X.w H s.heap a (gC X.w a m ks) from I.PQ a _ e).1
theorem G6:QG X (binaryOp .BitOr) (λx y H Q=>∃a b ka kb,x=.ref a/\y=.ref b/\a≠b/\H a=some (gC X.w a true ka)/\H b=some (gC X.w b true kb)/\(∀x,x∈ka\/x∈kb->0<=x/\x<4)/\∀q ks,H q=none->ks.Nodup->(∀x,x∈ks↔x∈ka\/x∈kb)->Q (.ref q) (upd H q (gC X.w q false ks))):=by
 intro ac s R H x y v u Q I E g h;obtain⟨a,b,ka,kb,rfl,rfl,ne,D,A,small,q⟩:=h;cases E;cases g;obtain⟨O,F,G,M,d,t,C⟩:=qz I D;obtain⟨N,L,P,J,n,e,m⟩:=qz I A;refine or_int d n ne (C rfl) (m rfl) t e small λh' k ⟨j,f,p,t',ks,S,c,mem⟩=>?_;exact⟨.ref s.heap.objs.size,_,I.laid (t':=s.toks) (o:=gC X.w s.heap.objs.size false ks) k (P1 _) (xL ⟨j,f,p,t',S,c,λz=>by cases z⟩),rfl,q _ ks (I.PQ.fresh (P1 _)) S.nd mem⟩
theorem vz (hc:X.calm=true):cF X (.builtin "sorted") (λxs H Q=>∃p m ks,xs=[.ref p]/\H p=some (gC X.w p m ks)/\ks.length<64/\∀(l:D') (Rr:List Int),H l=none->Rr.Perm ks->Rr.Pairwise (·<=·)->Q (.ref l) (upd H l (.lst (Rr.map V.int)))):=by
 intro ac s y H xs us Q I r h;obtain⟨p,m,ks,rfl,v,Qi,q⟩:=h;obtain⟨u,rfl,e⟩:=dc r;cases e;obtain⟨o,es,ep,t,S,d,_⟩:=qz I v;refine y9 (I.ok.hd hc) S d Qi λh' x l out Rr c k le j g b f=>?_;have n:aL (Rr.map V.int) out.toList:=ja g;have hlen:=b.length_eq;exact⟨.ref l,_,I.laid (o:=.lst (Rr.map V.int)) k le ⟨by rw[Qx,QA];lia,out.toList,c,n,by simpa [QB] using j⟩,rfl,q l Rr (I.PQ.fresh le) b f⟩
theorem Ba:typeLookup (.type "tuple") "keys"=pure none:=by rw[ŀ,Ĺ];kernel_rfl
theorem Bb (hx:s.heap.get? a=some { cls:=.type "tuple",dict:=none,data:=.seq xs k,slots:=sl })(hA:A.handled=none)(h:∀h' tk,(∀b o,s.heap.get? b=some o->h'.get? b=some o)->Q none { s with heap:=h',toks:=tk }):Pq (Px prog w) A (getAttr? (.ref a) "keys") Q E s:=by
 obtain⟨n,g,d,tk,os⟩:=s;have f:∀c,(⟨n,g,d,c,os⟩:N').TypeIs (.ref a) "tuple":=λ_=>⟨_,hx,rfl⟩
 have v:=sub_AttributeError;have y:=ŧ.lookup;have t:=ŧ.bind (.ref a);have p:=am_tuple_getattr_none;unfold getAttr? getAttrBy? getAttrBy
 repeat (any_goals (first|assumption|exact f _|((with_reducible show Pq _ _ (call (Zm "tuple.__getattribute__") _ _) _ _ _);refine Â ŧ (f _) am_entry_tuple_getattribute (PySem.F.args_tuple_getattribute_2 _ _) (meets_getattribute_miss_tuple a xs k sl "keys" _ Ba (by decide +kernel) (by decide +kernel)) ⟨hx,hA,λh' c e j=>?_⟩)|wp_step))
 obtain⟨t',u,m⟩:=j.there;have x:(⟨h',g,d,c,os⟩:N').TypeIs (.ref e) "AttributeError":=⟨_,m,rfl⟩
 show Pq _ _ (getattributeRaised _ _ _ _ _ _ _) _ _ _;unfold getattributeRaised
 repeat (any_goals (first|assumption|wp_step))
 exact h h' c j.keeps
theorem ji:entryFor table "dict.update.loop"=some S7.«dict.update.loop»:=entryFor_of_tree (by kernel_rfl)
theorem eO:plainId "dict.update.loop"=true:=by decide +kernel
def kB (h:Ps)(v:G')(p:Int×Int):Prop:=∃b t u,v=.ref b/\h.IsTuple b #[.int p.1 t,.int p.2 u]
theorem kB.keep (x:kB h v p)(k:∀b o,o.cls=.type "tuple"->h.get? b=some o->h'.get? b=some o):kB h' v p:=by
 obtain⟨b,t,u,rfl,o,e,c,n,d⟩:=x;exact⟨b,t,u,rfl,o,k _ _ c e,c,n,d⟩
theorem vA {kvs:List (Key×G')}(h:k∉kvs.map (·.1)):stored kvs k v=kvs++[(k,v)]:=by
 unfold stored;rw[Pr];intro z;obtain⟨b,d,c⟩:=List.any_eq_true.mp z;exact h (Qs.mpr ⟨b,d,by simpa using c⟩)
theorem Bc (hh:A.in1.handled=none)(hI:I≠t)(hDI:D≠I)(hDt:D≠t)(p:PR (kB h0) items.toList l)(nd:(l.map (·.1)).Nodup)(Qi:l.length<=100):
  ∀(n i:Nat) (s:N') (tk0:Sh),items.size-i=n->i<=items.size->(s.heap.IsTupleIter I t i/\s.heap.IsTuple t items)->(∀b o,b≠D->b≠I->h0.get? b=some o->s.heap.get? b=some o)->(∀b o,h0.get? b=some o->b≠D/\b≠I)->
   (∃kvs,KV (Q9 (l.take i)) kvs/\s.heap.DictOf (aY prog w) D kvs)->
   (∀h' tk,(∀b o,b≠D->b≠I->s.heap.get? b=some o->h'.get? b=some o)->(∃kvs,KV (Q9 l) kvs/\h'.DictOf (aY prog w) D kvs)->R (.ok (.ret .none)) { s with heap:=h',toks:=tk })->
   codeAny (Px prog w) A (.builtin "dict.update.loop" ⟨[.ref D,.ref I,.int i tk0,.none],[]⟩) R s:=by
 have W:=IN (prog:=prog) (w:=w) hh I t (QC hI) items;have kl:items.size=l.length:=by rw[<-RT];exact p.length
 intro n
 induction n with
 | zero=>
  intro i s tk0 hd hi st Q u F h;obtain rfl:i=items.size:=by lia
  refine VJ ji ?_;rw[Y6 eO _];show Pq _ A.in1 (pyNext (.ref I) >>= _) _ _ s;refine Pm (W.done s _ _ st λh' tk k1=>?_);have up:∀b o,b≠I->s.heap.get? b=some o->h'.get? b=some o:=λb o g e=>k1 b o (by simpa using g) e;show Pq _ A.in1 (S7.Dict.addKeywords D [] >>= λ_=>ret Xu) _ _ _;refine Pm (Pu (Pu (h h' tk (λb o _ g e=>up b o g e) ?_)));obtain⟨kvs,r,o,es,ep,N,E⟩:=F;rw[kl,UV] at r;exact⟨kvs,r,o,es,ep,up _ _ hDI N,E⟩
 | succ n S=>
  intro i s tk0 hd hi st Q u F h;have Y:i<items.size:=by lia
  refine VJ ji ?_;rw[Y6 eO _];show Pq _ A.in1 (pyNext (.ref I) >>= _) _ _ s;refine Pm (W.item i s _ _ Y st λv f tk hv P k1=>?_);have up:∀b o,b≠I->s.heap.get? b=some o->f.get? b=some o:=λb o g e=>k1 b o (by simpa using g) e;obtain⟨q,hq,pr⟩:=cB (i:=i) (a:=v) p (by rw[V'];exact hv);have G:kB f v q:=pr.keep λd c _ z=>up d c (u d c z).2 (Q d c (u d c z).1 (u d c z).2 z);obtain⟨b,L,J,rfl,ob,Z,M,nb,T4⟩:=G;obtain⟨kvs,r,o,es,ep,N,E⟩:=F;have D1:f.DictOf (aY prog w) D kvs:=⟨o,es,ep,up _ _ hDI N,E⟩
  have hT:É { s with heap:=f,toks:=tk } (.ref b) "tuple":=⟨ob,Z,M⟩
  dsimp only;refine Pm (Sq ?_);refine Pm (wpAny_tryCatch ?_);unfold S7.Dict.pairItems;refine Pm (Zp hT ?_);rw[PK (by decide)];refine Pm (Ā (s:={ s with heap:=f,toks:=tk }) Z T4 (Pu ?_));show Pq _ A.in1 (holding [Ru q.1 L,Ru q.2 J] (dictSet D (Ru q.1 L) (Ru q.2 J))) _ _ _;have O:kvs.length=(l.take i).length:=by have:=Zi r;rw[Qx] at this;exact this.symm
  have fresh:(RH q.1:Key)∉kvs.map (·.1):=λz=>by
   have e:∀{l:List (Int×Int)}{vs:List (Key×G')},KV (Q9 l) vs->vs.map (·.1)=l.map λp=>RH p.1:=by
    intro l
    induction l with
    | nil=>intro vs r;rw[show Q9 []=[] from rfl] at r;cases r;rfl
    | cons p l S=>
     intro vs r;rw[show Q9 (p::l)=(.inl p.1,.int p.2)::Q9 l from rfl] at r;cases r with
     | cons r1 r2=>rw[QJ,S r2,QJ,<-r1.1]
   rw[e r] at z;obtain⟨x,hx,ex⟩:=Qs.mp z;obtain⟨j,T⟩:=X'.mp hx;have jl:j<i:=by
    have:=(Rh.mp T).1;rw[SO] at this;lia
   rw[Ų jl] at T;have a1:(l.map (·.1))[j]?=some q.1:=by rw[So,T];injection ex with ex;rw[<-ex];rfl
   have a2:(l.map (·.1))[i]?=some q.1:=by rw[So,hq];rfl
   have:=(ů (Rh.mp a1).1 nd).mp (a1.trans a2.symm);lia
  refine Sq (wpAny_dictSet_pairs (s:={ s with heap:=f,toks:=tk }) (knd:=aY prog w) (k:=.inl q.1) (qK q.1 L) D1 (λU X sb=>?_) (by rw[O,SO,QA];lia));rw[vA fresh] at X;have C:∀b o,b≠D->f.get? b=some o->U.get? b=some o:=λb o g e=>(sb.2 b g).trans e;refine Pu ⟨Ð eO _,S (i+1) { s with heap:=U,toks:=tk+1 } 0 (by lia) Y ?_ (λd c y m z=>C d c y (up d c m (Q d c y m z))) u ⟨_,?_,X⟩ λh' X2 k' F'=>h h' X2 (λd c y m z=>k' d c y m (C d c y (up d c m z))) F'⟩
  .exact W.frame (i+1) f U P λd Sj c z=>C d c (by
    simp only[Qe,Rz,or_false] at Sj;rcases Sj with rfl|rfl
    .exact QC hDI
    .exact QC hDt) z
  .have e:l.take (i+1)=l.take i++[q]:=by rw[Xm,hq];rfl
   rw[e];show KV (Q9 (l.take i++[q])) _;rw[show Q9 (l.take i++[q])=Q9 (l.take i)++[(.inl q.1,.int q.2)] from by simp[Q9]];exact dG r (.cons ⟨rfl,J,rfl⟩ .nil)
theorem sU (hh:A.handled=none)(ht:fA s.heap t items)(p:PR (kB s.heap) items.toList l)(nd:(l.map (·.1)).Nodup)(Qi:l.length<=100)(h:∀h' tk,(∀b o,s.heap.get? b=some o->h'.get? b=some o)->(∃kvs,KV (Q9 l) kvs/\h'.DictOf (aY prog w) s.heap.objs.size kvs)->Q (.ref s.heap.objs.size) { s with heap:=h',toks:=tk }):Pq (Px prog w) A (call (.type "dict") [.ref t]) Q E s:=by
 refine callType_codes (Q₁:=λobj x=>obj=.ref s.heap.objs.size/\x={ s with heap:=s.heap.push { cls:=.type "dict",data:=.dict #[] } }) PySem.F.kt_called_dict (PySem.F.kt_typeCall_dict_1 _) PySem.F.entry_dict_init (kt_code_dict_new _ ⟨rfl,rfl⟩) ?_;rintro obj x ⟨rfl,rfl⟩;have d:(s.heap.push { cls:=.type "dict",data:=.dict #[] }).DictOf (aY prog w) s.heap.objs.size []:=agB s.heap;refine⟨d.typeIs,PySem.F.args_dict_init_2 _ _,?_⟩;unfold S7.«dict.__init__»;refine Pm ?_;unfold S7.Dict.selfAndRest;refine Pm (wpAny_notOrdered_dict d.typeIs ?_);show Pq _ _ (pure (s.heap.objs.size,[Qu t])) _ _ _;refine Pu ?_;show Pq _ _ (af5 "dict.__init__" s.heap.objs.size (.ref t) [] .none) _ _ _;unfold af5;obtain⟨⟨O,od,G,J⟩,v,c1,n,u,y⟩:=ht;dsimp only at c1 u y;subst c1 u y;have j:(s.heap.push { cls:=.type "dict",data:=.dict #[] }).get? t=some { cls:=.type "tuple",dict:=none,data:=.seq items n,slots:=J }:=Qn _ v;have lt:t<s.heap.objs.size:=Qf v;refine Pm (Zp (T:="tuple") ⟨_,j,rfl⟩ ?_);dsimp only;rw[PK (by decide)];refine Pm (Bb (s:={ s with heap:=s.heap.push { cls:=.type "dict",data:=.dict #[] } }) j (by simp[hh]) λf g k1=>?_);simp only[Option.isNone_none,if_true];have m:f.IsTuple t items:=⟨_,k1 _ _ j,rfl,n,rfl⟩
 have N:(s.heap.push { cls:=.type "dict",data:=.dict #[] }).get? s.heap.objs.size=some { cls:=.type "dict",data:=.dict #[] }:=Rb _ rfl;have c:s.heap.objs.size<f.objs.size:=Qf (k1 _ _ N);refine Pm (Tj (Pm (ÿ (s:={ s with heap:=f,toks:=g }) m ?_)));have up:∀b o,s.heap.get? b=some o->(f.push { cls:=.type "tuple_iterator",data:=.fields #[.ref t,.int 0 0] }).get? b=some o:=λb o e=>Qn _ (k1 b o (Qn _ e));refine Pu ⟨Ð eO _,Bc (h0:=s.heap) (D:=s.heap.objs.size) (I:=f.objs.size) (t:=t) (items:=items) (l:=l) (by simp[hh]) (Wj (è lt c)) (Qw c) (Wj lt) p nd Qi (items.size-0) 0 _ 0 rfl (RA _)
  ⟨⟨_,Rb _ rfl,rfl,rfl⟩,m.push _⟩ (λb o _ _ e=>up b o e) (λb o e=>⟨Qw (Qf e),Qw (è (Qf e) c)⟩) ⟨[],.nil,?_⟩ λh' tk L F=>⟨rfl,h h' tk (λb o e=>L b o (Qw (Qf e)) (Qw (è (Qf e) c)) (up b o e)) F⟩⟩
 obtain⟨o,es,ep,M,C⟩:=d;exact⟨o,es,ep,Qn _ (k1 _ _ M),C⟩
theorem Inv.agL {σ:St}(I:Inv X ac σ H s)(h:PM X.K H a xs):∃Pp:List G',aL xs Pp/\fA s.heap a Pp.toArray/\xs.length<=PH:=by
 rcases h with h|⟨o,Pp,n,b,d,c,hz,r,hd⟩
 .obtain⟨z,Pp,r,p⟩:=h.ok I.PQ;exact⟨Pp,r,p,z⟩
 .refine⟨Pp.toList,r,⟨o,I.Re a o b,d,n,by simpa using c,hd⟩,?_⟩;have e:=r.length;simp only[RT] at e;lia
theorem za (hc:X.calm=true):cF X (.type "dict") (λxs H Q=>∃(p:D') (ys:List V) (l:List (Int×Int)),xs=[.ref p]/\PM X.K H p ys/\PR (λy d=>∃a,y=.ref a/\PM X.K H a [.int d.1,.int d.2]) ys l/\(l.map (·.1)).Nodup/\l.length<=100/\∀q,H q=none->Q (.ref q) (upd H q (.dK (Q9 l)))):=by
 intro ac s J H xs us Q I r h;obtain⟨p,ys,l,rfl,D,c,nd,Qi,q⟩:=h;obtain⟨u,rfl,f⟩:=dc r;cases f;obtain⟨g,w,pl,hz⟩:=I.agL D;have v:PR (kB s.heap) g l:=mq (F:=aI) (G:=λy (d:Int×Int)=>∃a,y=V.ref a/\PM X.K H a [.int d.1,.int d.2]) (λy u d m ⟨a,e,A⟩=>by
  subst e;cases m;obtain⟨C,r2,x,_⟩:=I.tuple A;cases r2 with
  | cons a1 r2=>
   cases r2 with
   | cons a2 r2=>
    cases r2;obtain⟨t,rfl⟩:=a1;obtain⟨j,rfl⟩:=a2;exact⟨a,t,j,rfl,x⟩) w c
 refine sU (I.ok.hd hc) pl (by simpa using v) nd Qi λh' E k ⟨kvs,n,dd⟩=>?_;have b:(Q9 l).length<=PH:=by rw[Qx,QA];lia
 exact⟨.ref s.heap.objs.size,_,I.laid (o:=.dK (Q9 l)) k (P1 _) (oI b (beq_eq_false_iff_ne.mpr (QC (Qw I.ZM))) n dd),rfl,q _ (I.PQ.fresh (P1 _))⟩
section
variable {X:Cx}{α:Type} [DecidableEq α]
def Dm (k:Dk α)(K:Po)(neg:Bool):R2:=λx y H Q=>∃b as,k.rep K H x b/\(Cu k).rep K H y as/\Q (.bl (if neg then !as.any (λa=>decide (a=b)) else as.any (λa=>decide (a=b)))) H
theorem Bd (k:Dk α)(hu:X.A.units+1+k.Tc<Qv):QG X (R9 .NotIn) (Dm k X.K true):=by
 intro ac s t H x y v u Q I j d h;obtain⟨b,as,f,⟨p,xs,rfl,m,o⟩,q⟩:=h;cases d;obtain⟨c,r,pl,hz⟩:=I.tuple m;obtain⟨e,n⟩:=wW k (A:=X.A.in1) I hu j f r o;refine agl (nF k X.K H b) pl (λw g=>e w (by simpa using g)) ⟨.bl _,H,I,rfl,?_⟩;rw[show c.toArray.any (nF k X.K H b)=c.any (nF k X.K H b) by simp,n];exact q
end
end L2
namespace L2
open PySem PySem.Spec PyProof.Rows
def kC (oc:J')(qual:M'):Prop:=∃vs t,oc.data=.fields vs/\vs[1]?=some (.str qual t)
def dW (H:Hp)(Pt:D')(pos:Qp)(qual:M'):Prop:=∃ps,H Pt=some (.Sw ps)/\TriplesOk ps.toList/\
 (codeAmong pos ps.toList=none\/∃c oc,codeAmong pos ps.toList=some (.ref c)/\H c=some (.Q2 oc (.own 0))/\kC oc qual)
def Bm (mg:M'->Option G')(base:Ps):Prop:=∃bm o,mg "__builtins__"=some (.ref bm)/\bm≠builtinsNs/\bm≠Qq/\base.get? bm=some o/\o.cls=.type "module"/\o.dict=some builtinsNs/\o.data=.plain
def dF (Pt:D')(H H':Hp):Prop:=∀b o,b≠Pt->H b=some o->H' b=some o
theorem sv:∀{l:List G'},TriplesOk l->TriplesOk (l++[.int a t,.int b u,c])
 | [],_=>trivial
 | .int _ _::.int _ _::_::r,h=>sv (l:=r) h
theorem G8 {X:Cx}{ac:List (D'×J')}{σ:St}{H:Hp}{s:N'}{params:Zt}{body:PZ}{scope:Su}{Ty:Qp}{Q4:List (M'×D')}{c Pt:D'}{Q:G'->N'->Prop}{E:G'->N'->Prop}(I:Inv X ac σ H s)(VP:X.env.code=.ref c)(hc:TW X.base c Pt)(bm:Bm X.mg X.base)(T:dW H Pt Ty (X.env.qual++"<lambda>"))(adf:defaultsOf params X.env=([],[]))(Sy:closureFor scope X.env=pure Q4)(h:∀(h':Ps) (tk:Nat) (H':Hp) (f c':D') (oc:J') (pm Ts:G'),Inv X ac σ H' { s with heap:=h',toks:=tk }->s.heap.objs.size<=f->H' f=none->dF Pt H H'->dW H' Pt Ty (X.env.qual++"<lambda>")->H' c'=some (.Q2 oc (.own 0))->kC oc (X.env.qual++"<lambda>")->
   h'.get? f=some (ï "<lambda>" (X.env.qual++"<lambda>") params body scope Q4 pm c' Ts)->Q (.ref f) { s with heap:=h',toks:=tk }):
  Pq (Px X.prog X.w) X.A (eval (.Lambda params body scope Ty) X.env) Q E s:=by
 obtain⟨ps,d,C,XM⟩:=T;have L:s.heap.get? Pt=some (Í ps):=I.PQ Pt _ d;have P:s.heap.Ns Qq X.mg:=I.ok.mod.glob.keeps I.bk;have J:Qq≠Pt:=λz=>by
  obtain⟨o,es,ep,e,_⟩:=I.ok.mod.glob;have:=(I.bs _ _ e).2;rw[z,d] at this;cases this
 have R:s.heap.BuiltinsAt X.mg Pt:=by
  obtain⟨b,o,b1,b2,b3,O,b5⟩:=bm;refine⟨b,o,b1,b2,b3,λz=>?_,I.bk _ _ O,b5⟩;have:=(I.bs _ _ O).2;rw[z,d] at this;cases this
 refine W.kla_eval adf ?_;rcases XM with N|⟨c',oc,S,U,Y⟩
 .refine W.kla_makeFunction (mg:=X.mg) Sy I.ok.glob P VP (hc.keeps I.bk) L C N J R λc' Ts h' tk hx j M D p=>?_;obtain⟨_,oc,vs,t,e,x,hd,Z⟩:=D;cases e;have m:H c'=none:=I.PQ.fresh j;have nP:c'≠Pt:=λz=>by rw[z,d] at m;cases m
  have old:∀b o,b≠Pt->s.heap.get? b=some o->(h'.push (ï "<lambda>" (X.env.qual++"<lambda>") params body scope Q4 ((X.mg "__name__").getD .none) c' Ts)).get? b=some o:=λb o z e=>Qn _ (hx b o z e);have g:s.heap.objs.size<=h'.objs.size:=RX j (Yh M);have un:∀fs:List D',Un fs [] H (upd (upd H Pt (.Sw (ps++#[rawInt Ty.line,rawInt Ty.col,.ref c']))) c' (.Q2 oc (.own 0))) s.heap (h'.push (ï "<lambda>" (X.env.qual++"<lambda>") params body scope Q4 ((X.mg "__name__").getD .none) c' Ts)):=λfs=>by
   have nb:∀b,H b=none->b≠Pt:=λb n z=>by rw[z,d] at n;cases n
   have G:∀b u,H b=some u->b≠c':=λb u q=>ax q m;refine⟨λb o q n _ _=>old b o (nb b n) q,λb o q n _ _=>⟨o.slots,old b o (nb b n) q⟩,λb o q n _=>?_,λb o q _=>?_,λb xs q=>?_,λb o u q=>?_,λb qs q=>?_⟩
   .rw[al (Qw (Rs (Qf q) j)),al (nb b n)];exact n
   .by_cases z:b=Pt
    .subst z;exact⟨_,Qn _ p⟩
    .exact⟨o,old b o z q⟩
   .rw[al (G b _ q),al (λz=>by rw[z,d] at q;cases q)];exact q
   .rw[al (G b _ q),al (λz=>by rw[z,d] at q;cases q)];exact q
   .rw[al (G b _ q)]
    by_cases z:b=Pt
    .subst z;rw[d] at q;cases q;exact⟨_,ak⟩
    .rw[al z];exact⟨#[],by rw[q];simp⟩
  have PQ:Rq X.prog X.w (upd (upd H Pt (.Sw (ps++#[rawInt Ty.line,rawInt Ty.col,.ref c']))) c' (.Q2 oc (.own 0))) (h'.push (ï "<lambda>" (X.env.qual++"<lambda>") params body scope Q4 ((X.mg "__name__").getD .none) c' Ts)):=λb u q=>by
   by_cases z:b=c'
   .subst z;rw[ak] at q;cases q;exact⟨Qn _ x,_,Qn _ x⟩
   .rw[al z] at q
    by_cases F:b=Pt
    .subst F;rw[ak] at q;cases q;exact Qn _ p
    .rw[al F] at q;refine(I.PQ b u q).Vn (λa v hc r=>old a v ?_ r) (λa r=>?_) λa xs r=>?_
     .rcases hc with rfl|hc
      .exact F
      .intro y;rw[y,d] at hc;cases hc
     .rw[al (ax r m),al (λy=>by rw[y,d] at r;cases r)];exact r
     .rw[al (ax r m),al (λy=>by rw[y,d] at r;cases r)];exact r
  have same:dF Pt H (upd (upd H Pt (.Sw (ps++#[rawInt Ty.line,rawInt Ty.col,.ref c']))) c' (.Q2 oc (.own 0))):=λb o z e=>by
   rw[al (ax e m),al z];exact e
  refine h _ tk _ h'.objs.size c' oc _ Ts (I.un (t':=tk) (un _) PQ) g ?_ same ⟨_,by rw[al (QC nP),ak],?_,.inr ⟨c',oc,?_,ak,vs,t,hd,Z⟩⟩ ak ⟨vs,t,hd,Z⟩ (Rb _ rfl)
  .rw[al (Wj M),al (λz=>Py (show h'.objs.size<s.heap.objs.size by rw[z];exact Qf L) (Nat.not_lt.mpr g))];exact I.PQ.fresh g
  .rw[agr];exact sv C
  .rw[agr];exact codeAmong_snoc _ C N
 .refine W.kla_makeFunctionHit (mg:=X.mg) Sy I.ok.glob P VP (hc.keeps I.bk) L C S R λTs h' tk hk hsz=>?_;exact h _ tk H h'.objs.size c' oc _ Ts (I.kept (t':=tk) λb o e=>Qn _ (hk b o e)) hsz (I.PQ.fresh hsz) (λb o _ e=>e) ⟨ps,d,C,.inr ⟨c',oc,S,U,Y⟩⟩ U Y (Rb _ rfl)
variable {X:Cx}{σ:St}{H:Hp} in
theorem pD {CX:Si}{k:Nat}{fg c Pt:D'}{TL:P5}{psg:List M'}{sp:D'->List V->D'->J'->Hp->Sp}{EE:XK}{g x:M'}{ys:List M'}{js:List Nat}{p pos Ty:Qp}{e1 e2:PZ}{params:Zt}{body:PZ}{scope:Su}{Q4:List (M'×D')}{t1 t2:TE}(G:∀(Rk:Ps) (f:D') (fd:P5) (c:D') (oc:J') (QR:List V) (H0:Hp),Mod X.K X.mg Rk->YN Rk f fd x ys QR (X.env.qual++"<lambda>") params body scope Q4 c->kC oc (X.env.qual++"<lambda>")->P4 X.prog X.w X.K X.mg Rk CX k fg TL psg (sp f QR c oc H0))(hr:Pn k X.A)(hg:Gl X g)(hm:X.mg g=some (.ref fg))(hkp:Vj X.K (.ref fg)=true)(hb:bA X.K TL psg [])(hx:jC CX X EE)(h1:PE X e1 t1)(h2:PE X e2 t2)(VP:X.env.code=.ref c)(hc:TW X.base c Pt)(bm:Bm X.mg X.base)(adf:defaultsOf params X.env=([],[]))(Sy:closureFor scope X.env=pure Q4)(hfn:∀y,X.fn y=true)(kind:scope.kind=.function)(co:scope.isCoroutine=false)(gen:scope.isGenerator=false)(abn:∀y∈scope.names,y.2≠.cell)(par:scope.names.lookup x=some .local)(has:∀y,scope.names.lookup y=some .free->∃a,Q4.lookup y=some a)(abG:∀y a,Q4.lookup y=some a->X.env.cells.lookup y=some a)(afe:PR (λy j=>X.N[j]?=some y/\X.env.kindOf y=some .cell/\scope.names.lookup y=some .free) ys js)(T4:(g==("__debug__":M'))=false:=by decide)(he:QX [e1,e2,.Lambda params body scope Ty] X.env=[(false,eval e1 X.env),(false,eval e2 X.env),(false,eval (.Lambda params body scope Ty) X.env)]:=by rfl):
  PE X (.Call (.Name g p) [e1,e2,.Lambda params body scope Ty] [] pos) (λσ H Q=>t1 σ H λv1 H1=>t2 σ H1 λv2 H2=>dW H2 Pt Ty (X.env.qual++"<lambda>")/\∃QR,PR (λj v=>σ[j]?=some (some v)) js QR/\
   ∀f c oc H3,H2 f=none->H3 f=none->dF Pt H2 H3->dW H3 Pt Ty (X.env.qual++"<lambda>")->H3 c=some (.Q2 oc (.own 0))->sp f QR c oc H3 [v1,v2,.ref f] H3 Q EE):=by
 intro ac s σ H Q I h;refine τ (iw I hg hm ?_ T4);refine W.callWith_of (P:=λh=>X.K.In h) (by rw[he];rfl) (W.keeps_K hkp) ?_;show Pq _ _ (evalArgs _ true (backTo pos (QX [e1,e2,.Lambda params body scope Ty] X.env)) []) _ _ _;rw[he];refine afQ ?_;refine ρ (PY (h1 ac s σ H _ I h) λR s1 ⟨v1,H1,I1,r1,q1⟩=>?_);refine ρ (PY (h2 ac s1 σ H1 _ I1 q1) λM s2 ⟨v2,H2,Z,r2,T,QR,pf,q2⟩=>?_);refine ρ (G8 Z VP hc bm T adf Sy λh' tk H3 f O oc pm Ts d fresh J same T3 U ho Y=>?_);refine Ş ⟨d.Re,?_⟩;have q3:=q2 f O oc H3 (Z.PQ.fresh fresh) J same T3 U;have cellOf:∀y a,Q4.lookup y=some a->H3 a=none/\a∉QS X.stack/\∃v,h'.IsCell a v:=λy a e=>by
  have L:=abG y a e;refine⟨d.Tx y a L,λz=>?_,d.cell y a L⟩;rcases Qe.mp (d.Vl a z) with z|z
  .exact d.VW y a L z
  .obtain⟨_,o,E,_⟩:=d.ok.Tk.mem z;have:=d.ok.XF y a (hfn y) L;exact Py (Qf E) (Nat.not_lt.mpr this)
 have ffr:f∉QS X.stack:=λz=>by
  obtain⟨_,o,E,_⟩:=Z.stack.mem z;exact Py (Qf E) (Nat.not_lt.mpr fresh)
 have C:∀b,b∈Q4.filterMap (λp=>Q4.lookup p.1)->∃y,Q4.lookup y=some b:=λb hb=>by
  obtain⟨p,_,e⟩:=Ug.mp hb;exact⟨p.1,e⟩
 have ahD:∀y a,Q4.lookup y=some a->a∈Q4.filterMap (λp=>Q4.lookup p.1):=λy a e=>Ug.mpr ⟨(y,a),Uf e,e⟩;have e3:=d.abu.more (as:=f::Q4.filterMap (λp=>Q4.lookup p.1)) (λb hb=>by
  rcases Qe.mp hb with rfl|hb
  .exact J
  .obtain⟨y,e⟩:=C b hb;exact(cellOf y b e).1) (λb hb z=>by
  rcases Qe.mp z with rfl|z
  .exact ffr hb
  .obtain⟨y,e⟩:=C b z;exact(cellOf y b e).2.1 hb)
 have D:∀y a,Q4.lookup y=some a->∀v,h'.IsCell a v->(gm X.base h' (f::Q4.filterMap λp=>Q4.lookup p.1)).IsCell a v:=λy a e v ⟨o,E,hd⟩=>⟨o,lG E (.inr (Qr _ (ahD y a e))),hd⟩
 have lam:YN (gm X.base h' (f::Q4.filterMap λp=>Q4.lookup p.1)) f (W.kla_fn "<lambda>" (X.env.qual++"<lambda>") params body scope Q4 pm (.ref O) Ts) x ys QR (X.env.qual++"<lambda>") params body scope Q4 O:=by
  refine⟨⟨pm,Ts,lG Y (.inr Qa),rfl⟩,kind,co,gen,abn,par,λy z a p q=>d.ok.inj y z a (abG y a p) (abG z a q),has,λy a e=>?_,?_⟩
  .obtain⟨v,q⟩:=(cellOf y a e).2.2;exact⟨v,D y a e v q⟩
  .have comp:∀{ys:List M'}{js:List Nat}{QR:List V},PR (λy j=>X.N[j]?=some y/\X.env.kindOf y=some .cell/\scope.names.lookup y=some .free) ys js->PR (λj v=>σ[j]?=some (some v)) js QR->
     PR (λy v=>scope.names.lookup y=some .free/\∃a u,Q4.lookup y=some a/\(gm X.base h' (f::Q4.filterMap λp=>Q4.lookup p.1)).IsCell a (some u)/\aI v u) ys QR:=by
    intro ys js QR p
    induction p generalizing QR with
    | nil=>intro q;cases q;exact .nil
    | cons r _ ih=>
     intro q;cases q with
     | cons r2 t2=>
      refine .cons ⟨r.2.2,?_⟩ (ih t2);obtain⟨a,ea⟩:=has _ r.2.2;obtain⟨m,_,S⟩:=d.loc;obtain⟨u,ru,lk⟩:=S _ _ _ r.1 r2 (.inr (.inl r.2.1));rcases lk with⟨k1,_⟩|⟨_,a',n,ic⟩
      .rw[r.2.1] at k1;cases k1
      .rw[abG _ _ ea] at n;cases n;exact⟨a,u,ea,D _ _ ea _ ic,ru⟩
   exact comp afe pf
 have F:=G _ f _ O oc QR H3 e3.mod lam ho;have r3:aL [v1,v2,V.ref f] [R,M,Qu f]:=.cons r1 (.cons r2 (.cons rfl .nil));have S:([R,M,Qu f]++[]).length=psg.length:=by
  have:=F.len _ _ _ _ q3;rw[<-this];rfl
 refine Ò (Xq (F.run X.A X.stack _ H3 ⟨[R,M,Qu f],[]⟩ ([R,M,Qu f]++[]) [v1,v2,V.ref f] Q EE hr e3 (hb _ _ d.Re S) (by simpa using r3) q3) λr s' t=>?_);cases r with
 | error e=>exact hx ac σ H3 _ e s' d t
 | ok fl=>
  cases fl with
  | ret u=>exact d.after t
  | next=>exact SH t
  | brk=>exact SH t
  | cont=>exact SH t
def io (P:PU)(w:Pz)(K:Po)(a:D')(kvs:List (Key×G')):Prop:=(a==R8)=false/\∃o es ep,K.lookup a=some o/\o.ExactDict/\o.data=.dict es ep/\KeysOf (aY P w) es/\Pairs (aY P w) es.toList kvs/\(kvs.map (·.1)).Nodup
theorem io.at {K:Po}(d:io P w K a kvs)(k:K.In h):h.DictOf (aY P w) a kvs:=let ⟨_,o,es,ep,e,r⟩:=d;⟨o,es,ep,k _ _ e,r⟩
theorem jR (D:io X.prog X.w X.K a kvs)(ho:PE X o td)(hi:PE X i ty)(hs:ut i):PE X (.Subscript o i pos) (λσ H Q=>td σ H λx H1=>ty σ H1 λy H2=>∃k v u,x=.ref a/\y=kV k/\valueAt kvs k=some u/\aI v u/\Q v H2):=by
 intro ac s σ H Q I h;refine mj ď.lookup hs (PY (ho ac s σ H _ I h) λu s1 ⟨x,H1,m,j,f⟩=>PY (hi ac s1 σ H1 _ m f) λp s2 ⟨y,H2,b,c,k,v,t,ex,n,g,e,d⟩=>?_);subst ex n;cases j;have dd:=D.at b.Re;exact⟨dd.typeIs,wpAny_getItem_of (ig c) dd.mapOf g ⟨v,H2,b.tok _,e,d⟩⟩
theorem P4.pre {K:Po}{G:Prop}(h:G->P4 P w K mg base CX k f fd ps sp):P4 P w K mg base CX k f fd ps (λvs H Q E=>G/\sp vs H Q E):=
 ⟨λvs H Q E q=>(h q.1).len _ _ _ _ q.2,λA outer s H args us vs Q E b c d r q=>(h q.1).run A outer s H args us vs Q E b c d r q.2⟩
theorem Qh.okC {P:PU}{w:Pz}{K:Po}{mg:M'->Option G'}{base:Ps}{x qual:M'}{st:PD}{f:D'}{fd:P5}{N ps:List M'}{k:Nat}{sp:Sp}(F:Qh K x qual st f fd)(S:QE N ps (ao st))(len:∀vs H Q E,sp vs H Q E->vs.length=ps.length)(Ws:∀(P3:G') (A:P7) (outer:List RD) (s:N') (H:Hp) (vs:List V) (Q:VK) (E:XK),fd.code=P3->Pn k (A.deeper (envOfC qual (ao st) s.heap.objs.size f P3))->sp vs H Q E->
   ∃t,SC (eS PV P w K mg base N qual (ao st) f P3 A outer s H E).Tz (bR st) t/\t { nx:=λ_ H'=>Q .Qb H',rt:=Q } (gG N vs) H):P4 P w K mg base PV (k+1) f fd ps sp:=by
 obtain⟨j,od,kV,doc,n,m,P3,ct,g,rfl,c,e⟩:=F.ex;refine yt c e S len λA outer s H vs Q E b d=>?_;obtain⟨t,h,q⟩:=Ws P3 A outer s H vs Q E rfl b d;exact⟨t,h.Tz,q⟩
theorem lM (D:io X.prog X.w X.K a kvs):QG X (R9 .In) (λx y H Q=>∃k,y=.ref a/\x=kV k/\Q (.bl (valueAt kvs k).isSome) H):=by
 intro ac s d H x y v u Q I b c h;obtain⟨k,rfl,rfl,q⟩:=h;cases c;have dd:=D.at I.Re;exact wpAny_in_of (ig b) D.1 dd.mapOf ⟨.bl _,H,I.tok _,rfl,q⟩
theorem FO (xs)(k:Nat):cq xs none (some (k:Int))=xs.take k:=by
 unfold cq;rw[HT.EO,HT.tW];simp only[ē,Nat.sub_zero]
 by_cases h:k<=xs.length
 .rw[Nat.min_eq_left h]
 .rw[Nat.min_eq_right (by lia),æ (P1 _),æ (by lia)]
theorem Bt (xs):cq xs (some (-1)) none=xs.drop (xs.length-1):=by
 unfold cq;have e:HT.Qg xs.length 0 (some (-1))=xs.length-1:=by
  simp only[HT.Qg];rw[PK (by decide)];lia
 rw[e,HT.tW];exact æ (by rw[â];lia)
def En (K:Po):R2:=λx y H Q=>∃a b xs ys,x=.ref a/\y=.ref b/\PM K H a xs/\PM K H b ys/\xs.length+ys.length<=PH/\∀r H',ar H H'->PM K H' r (xs++ys)->Q (.ref r) H'
theorem FP:QG X (binaryOp .Add) (En X.K):=by
 intro ac s o H x y v u Q I n g h;obtain⟨a,b,xs,ys,m,e,d,c,hz,q⟩:=h
 by_cases j:xs=[]
 .subst j;exact Co ac s o H x y v u Q I n g ⟨a,b,ys,m,e,d,c,q b H (ar.refl H) c⟩
 .refine gv ac s o H x y v u Q I n g ⟨a,b,xs,ys,m,e,d,c,j,hz,λf=>?_,λf p t=>?_⟩
  .subst f;exact q a H (ar.refl H) (by rw[Vg];exact d)
  .exact q p _ (ag t _) PM.up
section
variable {α β γ:Type} [DecidableEq α] [DecidableEq β] [DecidableEq γ]
end
end L2
namespace L2
open PySem
theorem Bu {α:Type}{xs:List α}{z:Int}{v:α}(h0:0<=z)(h:xs[z.toNat]?=some v):SJ xs z=some v:=by
 have:=cH h;rw[show((z.toNat:Nat):Int)=z by lia] at this;exact this
end L2
namespace L2
open PySem PySem.Spec PyProof.Rows
theorem BI (hc:X.calm=true):cF X (.builtin "min") (λxs H Q=>∃(p:D') (ns:List Int),xs=[.ref p]/\PM X.K H p (ns.map V.int)/\ns≠[]/\∀m∈ns,(∀x∈ns,m<=x)->Q (.int m) H):=by
 intro ac s O H xs us Q I r h;obtain⟨p,ns,rfl,S,ne,q⟩:=h;obtain⟨u,rfl,G⟩:=dc r;cases G;obtain⟨d,D,pl,hz⟩:=I.tuple S;have c:=D.length;rw[Qx] at c;have M:p≠s.heap.objs.size:=by
  obtain⟨o,f,_⟩:=pl;exact Qw (Qf f)
 have pos:0<ns.length:=Y8.mpr ne;have val:∀(i:Nat) (v:G'),d.toArray[i]?=some v->∃t,v=Ru (ns.getD i 0) t:=λi v g=>by
  have e:d[i]?=some v:=by simpa using g
  have n:i<ns.length:=by have:=(Rh.mp e).1;lia
  obtain⟨w,E,F⟩:=D.get (i:=i) (x:=V.int ns[i]) (by simp[n]);rw[e] at E;cases E;obtain⟨t,rfl⟩:=F;exact⟨t,by rw[Vc,Q5 n];rfl⟩
 refine call_min_walk (ÿ pl ⟨s.heap.objs.size,_,_,_,_,_,_,rfl,IN (A:=X.A.in1) (show X.A.in1.handled=none from I.ok.hd hc) s.heap.objs.size p M d.toArray,⟨⟨_,Rb _ rfl,rfl,rfl⟩,(let ⟨o,e,r⟩:=pl;⟨o,Qn _ e,r⟩)⟩,λb C=>?_,by rw[QI,<-c];exact pos,CmpOf.ints_lt (λi=>ns.getD i 0) val,λv h' J g k=>?_⟩)
 .show b<(s.heap.push _).objs.size;rw[Zg];simp only[Qe,Rz,or_false] at C;rcases C with rfl|rfl
  .exact Yd _
  .obtain⟨o,f,_⟩:=pl;exact Za (Qf f)
 .have N:Inv X ac O H { s with heap:=h',toks:=J }:=jZ I k;obtain⟨R,y⟩:=argBest_lt (λi=>ns.getD i 0) (d.toArray.size-1);obtain⟨t,rfl⟩:=val _ _ g;rw[QI,<-c] at R y;refine⟨.int _,H,N,⟨t,rfl⟩,q _ ?_ λx L=>?_⟩
  .rw[QI,<-c,Vc,Q5 (by lia)];exact Xo _
  .obtain⟨j,P,rfl⟩:=ų L;have:=y j (by lia);rw[show ns.getD j 0=ns[j] by rw[Vc,Q5 P];rfl] at this;rw[QI,<-c];exact this
theorem BJ (hc:X.calm=true):cF X (.builtin "max") (λxs H Q=>∃(p:D') (ns:List Int),xs=[.ref p]/\PM X.K H p (ns.map V.int)/\ns≠[]/\∀m∈ns,(∀x∈ns,x<=m)->Q (.int m) H):=by
 intro ac s O H xs us Q I r h;obtain⟨p,ns,rfl,S,ne,q⟩:=h;obtain⟨u,rfl,G⟩:=dc r;cases G;obtain⟨d,D,pl,hz⟩:=I.tuple S;have c:=D.length;rw[Qx] at c;have M:p≠s.heap.objs.size:=by
  obtain⟨o,f,_⟩:=pl;exact Qw (Qf f)
 have pos:0<ns.length:=Y8.mpr ne;have val:∀(i:Nat) (v:G'),d.toArray[i]?=some v->∃t,v=Ru (ns.getD i 0) t:=λi v g=>by
  have e:d[i]?=some v:=by simpa using g
  have n:i<ns.length:=by have:=(Rh.mp e).1;lia
  obtain⟨w,E,F⟩:=D.get (i:=i) (x:=V.int ns[i]) (by simp[n]);rw[e] at E;cases E;obtain⟨t,rfl⟩:=F;exact⟨t,by rw[Vc,Q5 n];rfl⟩
 refine call_max_walk (ÿ pl ⟨s.heap.objs.size,_,_,_,_,_,_,rfl,IN (A:=X.A.in1) (show X.A.in1.handled=none from I.ok.hd hc) s.heap.objs.size p M d.toArray,⟨⟨_,Rb _ rfl,rfl,rfl⟩,(let ⟨o,e,r⟩:=pl;⟨o,Qn _ e,r⟩)⟩,λb C=>?_,by rw[QI,<-c];exact pos,CmpOf.ints_gt (λi=>ns.getD i 0) val,λv h' J g k=>?_⟩)
 .show b<(s.heap.push _).objs.size;rw[Zg];simp only[Qe,Rz,or_false] at C;rcases C with rfl|rfl
  .exact Yd _
  .obtain⟨o,f,_⟩:=pl;exact Za (Qf f)
 .have N:Inv X ac O H { s with heap:=h',toks:=J }:=jZ I k;obtain⟨R,y⟩:=argBest_gt (λi=>ns.getD i 0) (d.toArray.size-1);obtain⟨t,rfl⟩:=val _ _ g;rw[QI,<-c] at R y;refine⟨.int _,H,N,⟨t,rfl⟩,q _ ?_ λx L=>?_⟩
  .rw[QI,<-c,Vc,Q5 (by lia)];exact Xo _
  .obtain⟨j,P,rfl⟩:=ų L;have:=y j (by lia);rw[show ns.getD j 0=ns[j] by rw[Vc,Q5 P];rfl] at this;rw[QI,<-c];exact this
def Lj (K:Po):R2:=λx y H Q=>∃a b xs ys,x=.ref a/\y=.ref b/\PM K H a xs/\PM K H b ys/\xs.all ce=true/\ys.all ce=true/\Q (.bl (dU xs ys)) H
theorem xY (hu:X.A.units<Qv):QG X (R9 .Eq) (Lj X.K):=by
 intro ac s C H x y v u Q I n d h;obtain⟨a,b,xs,ys,rfl,rfl,j,f,g,m,q⟩:=h
 by_cases c:xs.length=ys.length
 .exact Gv hu ac s C H _ _ v u Q I n d ⟨a,b,xs,ys,rfl,rfl,j,f,c,g,m,q⟩
 cases n;cases d;obtain⟨o,r1,p,_⟩:=I.tuple j;obtain⟨t,r2,w,_⟩:=I.tuple f;have E:=r1.length;have D:=r2.length;refine SeqAt.eq_tupleAt (e:=h9 xs ys) p w hu (ib r1 r2 g m) ⟨.bl (dU xs ys),H,I,?_,q⟩;show _=UE _;rw[pU c];have:(o.toArray.size==t.toArray.size)=false:=by simp;lia
 rw[this,Ü]
theorem Qh.code {K:Po}{h:Ps}{mg:M'->Option G'}{x qual:M'}{st:PD}{f c Pt:D'}{fd:P5}(F:Qh K x qual st f fd)(X:K.In h)(G:h.Ns Qq mg)(tj:Xw K x=some (c,Pt))(hm:mg x=some (.ref f)):fd.code=.ref c:=by
 obtain⟨j,od,kV,doc,m,e,d,ct,g,rfl,b,n⟩:=F.ex;exact W.law_code X G tj hm (X _ _ b) rfl
theorem BM {K:Po}(KX:K.In P8.heap)(Ur:P8.heap.Ns Qq mg)(hb:P8.heap.Ns builtinsNs mb)(hbb:∀x:M',x≠"__name__"->mb x=SF x)(ahF:P8.heap.NoLimit)(hg:P8.gens=#[])(hC:TW P8.heap c Pt)(hP:P8.heap.get? Pt=some (Í #[]))(hKP:K.lookup Pt=none)(hC2:TW P8.heap c' Pw)(δ:P8.heap.get? Pw=some (Í #[]))(adk:K.lookup Pw=none)(hbm:Bm mg P8.heap)(ha:P8.heap.get? a=some { cls:=.type "list",data:=.seq vs.toArray })(hi:U1 vs ns)(hl:ns.length<=PH)(hr:Pn k callerA)(F:∀base:Ps,K.In base->base.Ns Qq mg->TW base c Pt->TW base c' Pw->Bm mg base->P4 P w K mg base CX k fa fd [x] sp)(ag4:∀(s:N') (u:G'),Á s fd ⟨[u],[]⟩ [(x,u)])(Qz:∀H:Hp,H Pt=some (.Sw #[])->H Pw=some (.Sw #[])->PX K H a (ns.map V.int)->sp [.ref a] H (λv _=>v=.bl true) λ_ _ _=>False)(hCX:∀H e s',CX [] H P8 (λ_ _ _=>False) e s'->False):
  codeAny (Px P w) callerA (.call (.ref fa) ⟨[.ref a],[]⟩) (λr s'=>r=.ok (.ret (.bool true))/\OldK P8.heap s'.heap/\s'.os=P8.os/\VO s'.gens) P8:=by
 have Z:=ja hi;have N:=hi.length;have aP:¬(a=Pt\/a=Pw):=by
  rintro(rfl|rfl)
  .rw[ha] at hP;cases hP
  .rw[ha] at δ;cases δ
 have j:∀b,b=Pt\/b=Pw->P8.heap.get? b=some (Í #[])/\K.lookup b=none:=by
  rintro b (rfl|rfl)
  .exact⟨hP,hKP⟩
  .exact⟨δ,adk⟩
 have core:∀H:Hp,(∀b,¬(b=Pt\/b=Pw)->H b=none\/∃o xs,H b=some (.Q2 o (.lst xs)))->(∀b,b=Pt\/b=Pw->H b=some (.Sw #[]))->PX K H a (ns.map V.int)->Rq P w H P8.heap->(∀b,H b≠none->b=a\/(b=Pt\/b=Pw))->(H a≠none->K.lookup a=none)->
   codeAny (Px P w) callerA (.call (.ref fa) ⟨[.ref a],[]⟩) (λr s'=>r=.ok (.ret (.bool true))/\OldK P8.heap s'.heap/\s'.os=P8.os/\VO s'.gens) P8:=by
  intro H hO U hS Y hA hK;have p:∀{b:D'}{o:J'},P8.heap.get? b=some o->H b=none->(gY P8.heap H).get? b=some o:=λe n=>B7 e n;have A:∀{b:D'}{o:J'},P8.heap.get? b=some o->o≠{ cls:=.type "list",data:=.seq vs.toArray }->o≠Í #[]->H b=none:=λ{b o} e d1 d2=>by
   cases q:H b with
   | none=>rfl
   | some u=>
    rcases hA b (by rw[q];simp) with rfl|hb
    .rw[ha] at e;cases e;exact Py rfl d1
    .rw[(j b hb).1] at e;cases e;exact Py rfl d2
  have y:∀{b:D'}{m:M'->Option G'},P8.heap.Ns b m->(gY P8.heap H).Ns b m:=λ{b m} ⟨o,es,ep,e,d,r⟩=>⟨o,es,ep,p e (A e (by rintro rfl;cases d) (by rintro rfl;cases d)),d,r⟩
  have I:K.In (gY P8.heap H):=λb o e=>p (KX b o e) (by
   cases q:H b with
   | none=>rfl
   | some u=>
    rcases hA b (by rw[q];simp) with rfl|hb
    .rw[hK (by rw[q];simp)] at e;cases e
    .rw[(j b hb).2] at e;cases e)
  have hM:Mod K mg (gY P8.heap H):=⟨I,y Ur,⟨mb,y hb,hbb⟩,let ⟨mc,h1,h2⟩:=ahF;⟨mc,y h1,h2⟩⟩
  have M:TW (gY P8.heap H) c Pt:=by
   obtain⟨o,O,file,W,flags,L,D,text,X,C,E,J,r⟩:=hC;exact⟨o,O,file,W,flags,L,D,text,X,p C (A C (by rintro rfl;cases J) (by rintro rfl;cases E)),E,J,r⟩
  have Q:TW (gY P8.heap H) c' Pw:=by
   obtain⟨o,O,file,W,flags,L,D,text,X,C,E,J,r⟩:=hC2;exact⟨o,O,file,W,flags,L,D,text,X,p C (A C (by rintro rfl;cases J) (by rintro rfl;cases E)),E,J,r⟩
  have S:Bm mg (gY P8.heap H):=by
   obtain⟨bm,o,b1,b2,b3,b4,b5,b6,R⟩:=hbm;exact⟨bm,o,b1,b2,b3,p b4 (A b4 (by rintro rfl;cases R) (by rintro rfl;cases R)),b5,b6,R⟩
  have e0:VR P w K mg (gY P8.heap H) callerA [] P8 H:=⟨rfl,hM,λb o e=>EI e,Zo (zI _ _),trivial,λb hb=>Py (show b∈([]:List D') from hb) (by simp),Y,.of_eq hg⟩
  refine Xq ((F _ I (y Ur) M Q S).run callerA [] P8 H ⟨[.ref a],[]⟩ [.ref a] [.ref a] _ _ hr e0 (ag4 P8 (.ref a)) (.cons rfl .nil) (Qz H (U Pt (.inl rfl)) (U Pw (.inr rfl)) hS)) λr s' h=>?_;cases r with
  | error e=>exact(hCX H e s' h).elim
  | ok fl=>
   cases fl with
   | next=>exact SH h
   | brk=>exact SH h
   | cont=>exact SH h
   | ret u=>
    obtain⟨v,H',os,bare,un,G,r',q⟩:=h;have q':v=.bl true:=q;subst q';obtain rfl:u=UE true:=r';have kept:∀b o,¬(b=Pt\/b=Pw)->P8.heap.get? b=some o->s'.heap.get? b=some o:=λb o f e=>by
     cases q:H b with
     | none=>exact un.keep b o e q (by intro z;exact Py (show b∈([]:List D') from z) (by simp)) (by simp)
     | some u=>
      rcases hO b f with z|⟨ob,xs,z⟩
      .rw[q] at z;cases z
      .have z2:=un.Um b ob _ z;obtain⟨C,_⟩:=Y b _ z;obtain⟨E,_⟩:=G b _ z2;rw[e] at C;cases C;exact E
    have grown:∀b,b=Pt\/b=Pw->∃more,s'.heap.get? b=some (Í (#[]++more)):=λb hb=>by
     obtain⟨more,T⟩:=un.Uo b _ (U b hb);exact⟨more,G b _ T⟩
    refine⟨rfl,⟨λb o e=>?_,λb o e=>?_⟩,os,bare⟩
    .by_cases f:b=Pt\/b=Pw
     .obtain⟨more,g⟩:=grown b f;rw[(j b f).1] at e;cases e;rcases f with rfl|rfl
      .exact .inr (.inl ⟨(hC.tab hP).isCodeTable,rfl,#[],more,rfl,g⟩)
      .exact .inr (.inl ⟨(hC2.tab δ).isCodeTable,rfl,#[],more,rfl,g⟩)
     .exact .inl (kept b o f e)
    .by_cases f:b=Pt\/b=Pw
     .obtain⟨more,g⟩:=grown b f;exact⟨_,g⟩
     .exact⟨o,kept b o f e⟩
 cases hk:K.lookup a with
 | some o=>
  have e:=KX a o hk;rw[ha] at e;cases e;refine core (λb=>if b=Pt\/b=Pw then some (.Sw #[]) else none) (λb hb=>.inl (Pr hb)) (λb hb=>PK hb) (.inr ⟨_,vs.toArray,_,hk,rfl,rfl,rfl,by rw[QI,N];exact hl,by simpa using Z⟩) (λb u z=>?_) (λb z=>?_) λz=>Py (Pr aP) z
  .by_cases hb:b=Pt\/b=Pw
   .have t:=(PK hb).symm.trans z;cases t;exact(j b hb).1
   .have t:=(Pr hb).symm.trans z;cases t
  .by_cases hb:b=Pt\/b=Pw
   .exact .inr hb
   .exact Py (Pr hb) z
 | none=>
  refine core (λb=>if b=Pt\/b=Pw then some (.Sw #[]) else if b=a then some (.Q2 { cls:=.type "list",data:=.seq vs.toArray } (.lst (ns.map V.int))) else none) (λb f=>?_) (λb hb=>PK hb) (.inl (.inr ⟨{ cls:=.type "list",data:=.seq vs.toArray },(Pr aP).trans (PK rfl)⟩)) (λb u z=>?_) (λb z=>?_) λ_=>hk
  .by_cases hb:b=a
   .exact .inr ⟨_,_,(Pr f).trans (PK hb)⟩
   .exact .inl ((Pr f).trans (Pr hb))
  .by_cases f:b=Pt\/b=Pw
   .have t:=(PK f).symm.trans z;cases t;exact(j b f).1
   .by_cases hb:b=a
    .have t:=((Pr f).trans (PK hb)).symm.trans z;cases t;subst hb;exact⟨ha,by rw[Qx];exact hl,vs,_,Z,ha⟩
    .have t:=((Pr f).trans (Pr hb)).symm.trans z;cases t
  .by_cases f:b=Pt\/b=Pw
   .exact .inr f
   .by_cases hb:b=a
    .exact .inl hb
    .exact Py ((Pr f).trans (Pr hb)) z
theorem DU {l:W.OpenLaw}{n k:Nat}{q:PU}{loose:List M'}{XP:(M'->Option G')->Ps->Prop}{YP:Pz->Ps->Prop}{d dj dw:Zv}{K:Yo->Po}{CX:Pz->Si}{sp:Pz->D'->D'->Sp}{x xj xw:M'}(hn:l.most=some n)(hn2:n<=PH)(hdf:d.params.defaults=[])(hr:Pn k callerA)(hj:(recsOf q).find? (λe=>e.name==xj)=some dj)(hw:(recsOf q).find? (λe=>e.name==xw)=some dw)(hY:∀(w:Pz) (h:Ps),YP w h->(K w.params).In h)(F:∀(w:Pz) (mg:M'->Option G') (fa:D') (h:Ps),(K w.params).In h->h.Ns Qq mg->mg d.name=some (.ref fa)->
   ∃(fd:P5) (c Pt c' Pw:D'),Xw (K w.params) xj=some (c,Pt)/\(K w.params).lookup Pt=none/\Xw (K w.params) xw=some (c',Pw)/\(K w.params).lookup Pw=none/\Pt≠Pw/\(∀(s:N') (u:G'),Á s fd ⟨[u],[]⟩ [(x,u)])/\
    ∀base:Ps,(K w.params).In base->base.Ns Qq mg->TW base c Pt->TW base c' Pw->Bm mg base->P4 l.prog w (K w.params) mg base (CX w) k fa fd [x] (sp w Pt Pw))(Qz:∀(w:Pz) (H:Hp) (a Pt Pw:D') (ns:List Int),ns.length<=n->Pt≠Pw->H Pt=some (.Sw #[])->H Pw=some (.Sw #[])->PX (K w.params) H a (ns.map V.int)->sp w Pt Pw [.ref a] H (λv _=>v=.bl true) λ_ _ _=>False)(hCX:∀(w:Pz) (H:Hp) (s:N') (e:G') (s':N'),CX w [] H s (λ_ _ _=>False) e s'->False):
  W.WalkO q loose XP YP l.row.toRowW d [] (λf vs=>ĸ f vs):=by
 refine Att.ww hn hdf λw QY P8 mg mb fa o pm cd doc a vs ns G Y ho hd R5 p y hints hlen P=>?_;have j:=hY w _ Y;obtain⟨fd,c,Pt,c',Pw,N,m,L,t,R,O,hF⟩:=F w mg fa _ j G.T.g p;obtain⟨M,U⟩:=W.tab_of G.T j hj N;obtain⟨C,J⟩:=W.tab_of G.T j hw L;obtain⟨bm,ob,X,Q,E,Z,S,D⟩:=G.T.bmain;have a7:bm≠Qq:=by
  rintro rfl;obtain⟨o',es,ep,e,d',_⟩:=G.T.g;rw[E] at e;cases e;rw[D] at d';cases d'
 exact BM j G.T.g G.T.b G.T.builtins G.T.nolimit P M U m C J t ⟨bm,ob,X,Q,a7,E,Z,S,D⟩ y hints (RX hlen hn2) hr hF O (λH I A hS=>Qz w H a Pt Pw ns hlen R I A hS) λH e s'=>hCX w H P8 e s'
end L2
namespace Bk
open Mx
abbrev Pn:=List (Int×Int)
abbrev ap:=List (List Int)
def lt:List Int->List Int->Prop
 | [],[]=>False
 | [],_::_=>True
 | _::_,[]=>False
 | a::as,b::bs=>a<b\/(a=b/\lt as bs)
theorem lt_irrefl:∀a:List Int,¬lt a a
 | [],h=>h
 | a::as,h=>by
  rcases h with h|⟨_,h⟩
  .omega
  .exact lt_irrefl as h
theorem lt_trans:∀{a b c:List Int},lt a b->lt b c->lt a c
 | [],[],_,h,_=>h.elim
 | [],_::_,[],_,h=>h.elim
 | [],_::_,_::_,_,_=>trivial
 | _::_,[],_,h,_=>h.elim
 | _::_,_::_,[],_,h=>h.elim
 | a::as,b::bs,c::f,e,d=>by
  rcases e with e|⟨rfl,e⟩
  .rcases d with d|⟨rfl,d⟩
   .exact .inl (by lia)
   .exact .inl e
  .rcases d with d|⟨rfl,d⟩
   .exact .inl d
   .exact .inr ⟨rfl,lt_trans e d⟩
theorem C0 (h:lt a b)(h':lt b a):False:=lt_irrefl a (lt_trans h h')
def cP (os:ap):Prop:=os.Pairwise lt
theorem cP.nodup (h:cP os):os.Nodup:=by
 unfold È;refine List.Pairwise.imp (R:=lt) ?_ h;intro a b h e;subst e;exact lt_irrefl _ h
theorem oS {α β:Type}{f g:α->List β}:∀{l:List α},(∀a∈l,f a=g a)->l.flatMap f=l.flatMap g
 | [],_=>rfl
 | a::l,h=>by rw[ū,ū,h a Qa,oS λb c=>h b (Qr _ c)]
theorem cP.eq (hx:cP xs)(hy:cP ys)(h:∀o,o∈xs↔o∈ys):xs=ys:=by
 have p:xs.Perm ys:=(ż hx.nodup hy.nodup).mpr h;exact afV (λa b _ _ c d=>(C0 c d).elim) hx hy p
noncomputable def im (t:Int):List Int->Option (List Int)
 | x::r=>if x=t then some r else none
 | []=>none
noncomputable def rests (t:Int)(os:ap):ap:=os.filterMap (im t)
theorem bj:r∈rests t os↔t::r∈os:=by
 simp only[rests,Ug];constructor
 .rintro⟨o,b,h⟩;cases o with
  | nil=>cases h
  | cons x r'=>
   simp only[im] at h
   split at h
   .rename_i e;cases h;subst e;exact b
   .cases h
 .intro h;exact⟨_,h,by simp[im]⟩
noncomputable def heads (os:ap):List Int:=(bw 8).filter λt=>!(rests t os).isEmpty
theorem bH:t∈heads os↔(0<=t/\t<8)/\∃r,t::r∈os:=by
 rw[heads,Sd,dZ];constructor
 .rintro⟨c,b⟩;refine⟨by simpa using c,?_⟩;cases e:rests t os with
  | nil=>rw[e] at b;cases b
  | cons r rs=>exact⟨r,bj.mp (by rw[e];exact Qa)⟩
 .rintro⟨c,r,b⟩;refine⟨by simpa using c,?_⟩;have:=bj.mpr b;cases e:rests t os with
  | nil=>rw[e] at this;cases this
  | cons r rs=>rfl
theorem cV (os:ap):(heads os).Pairwise (· < ·):=by
 unfold heads;refine List.Pairwise.filter _ ?_;unfold bw;rw[Wc];exact(Ğ (n:=8)).imp (λh=>by lia)
def fN (os os':ap):Prop:=∀o,o∈os↔o∈os'
theorem fN.rests (h:fN os os')(t:Int):fN (rests t os) (rests t os'):=λo=>by rw[bj,bj];exact h _
theorem rp {α:Type}{p q:α->Bool}:∀{l:List α},(∀a∈l,p a=q a)->l.filter p=l.filter q
 | [],_=>rfl
 | a::l,h=>by
  have d:=rp (l:=l) λb c=>h b (Qr _ c);rw[ė,ė,h a Qa,d]
theorem fN.heads (h:fN os os'):heads os=heads os':=by
 unfold Bk.heads;refine rp λt _=>?_;have b:=h.rests t;cases e:Bk.rests t os with
 | nil=>
  cases e':Bk.rests t os' with
  | nil=>rfl
  | cons r rs=>
   have:=(b r).mpr (by rw[e'];exact Qa);rw[e] at this;cases this
 | cons r rs=>
  cases e':Bk.rests t os' with
  | nil=>
   have:=(b r).mp (by rw[e];exact Qa);rw[e'] at this;cases this
  | cons r rs=>rfl
noncomputable def keep (rs:List Pn)(r:Pn):Nat×List Pn:=if r∈rs then (rs.idxOf r+2,rs) else (rs.length+2,rs++[r])
noncomputable def aW (f:ap->List Pn->Nat×List Pn)(os:ap):List Int->List Pn->Pn×List Pn
 | [],rs=>([],rs)
 | t::ts,rs=>((t,((f (rests t os) rs).1:Int))::(aW f os ts (f (rests t os) rs).2).1,(aW f os ts (f (rests t os) rs).2).2)
noncomputable def lay:Nat->ap->List Pn->Nat×List Pn
 | 0,_,rs=>(1,rs)
 | n+1,os,rs=>keep (aW (lay n) os (heads os) rs).2 (aW (lay n) os (heads os) rs).1
theorem rq (hf:∀o o' rs,fN o o'->f o rs=f o' rs)(h:fN os os'):∀ts rs,aW f os ts rs=aW f os' ts rs
 | [],_=>rfl
 | t::ts,rs=>by
  have e:=hf _ _ rs (h.rests t);unfold aW;rw[e,rq hf h ts]
theorem j9:∀(n:Nat) {os os':ap}(rs:List Pn),fN os os'->lay n os rs=lay n os' rs
 | 0,_,_,_,_=>rfl
 | n+1,os,os',rs,h=>by
  unfold lay;rw[h.heads,rq (λo b rs h=>j9 n rs h) h]
theorem fV (rs)(r):∃i,(keep rs r).1=i+2/\(keep rs r).2[i]?=some r/\i<(keep rs r).2.length/\rs <+: (keep rs r).2:=by
 unfold keep
 split
 .rename_i h;refine⟨rs.idxOf r,rfl,?_,afJ h,Th⟩;rw[Q5 (afJ h),List.getElem_idxOf]
 .exact⟨rs.length,rfl,by simp,by simp,ψ _ _⟩
theorem dD (rs)(r):(keep rs r).2=rs\/(r∉rs/\(keep rs r).2=rs++[r]/\(keep rs r).1=rs.length+2):=by
 unfold keep
 split
 .exact .inl rfl
 .rename_i h;exact .inr ⟨h,rfl,rfl⟩
noncomputable def gy (rows:List ap)(r:Pn):List ap:=rows++[r.flatMap λd=>(rows.getD d.2.toNat []).map (d.1::·)]
noncomputable def fW (rs:List Pn):List ap:=rs.foldl gy [[],[[]]]
noncomputable def RP (rs:List Pn)(k:Nat):ap:=(fW rs).getD k []
theorem rA:∀(rs:List Pn) (a:List ap),(rs.foldl gy a).length=a.length+rs.length
 | [],_=>rfl
 | r::rs,a=>by
  rw[Zd,rA rs];simp[gy];lia
theorem jr (rs):(fW rs).length=rs.length+2:=by
 rw[fW,rA];simp;lia
theorem rB:∀(rs:List Pn) (a:List ap),a <+: rs.foldl gy a
 | [],_=>Th
 | r::rs,a=>by
  rw[Zd];exact(ψ _ _).trans (rB rs _)
theorem uP {α:Type}{a b:List α}{k:Nat}{d:α}(h:a <+: b)(hk:k<a.length):b.getD k d=a.getD k d:=by
 obtain⟨c,rfl⟩:=h;rw[Vc,Vc,Xh hk]
theorem jK (h:rs <+: VB)(hk:k<rs.length+2):RP VB k=RP rs k:=by
 obtain⟨m,rfl⟩:=h;unfold RP fW;rw[Yc];exact uP (rB m _) (by have:=jr rs;unfold fW at this;lia)
theorem uQ (h:rs[i]?=some r)(hd:∀d∈r,d.2.toNat<i+2):RP rs (i+2)=r.flatMap λd=>(RP rs d.2.toNat).map (d.1::·):=by
 obtain⟨n,e⟩:=Rh.mp h;have f:rs=rs.take i++(r::rs.drop (i+1)):=by
  rw[<-e,af8,X9]
 have g:rs.take i <+: rs:=ž _ _;have j:rs.take i++[r] <+: rs:=⟨rs.drop (i+1),by rw[Y'];exact f.symm⟩
 have b:(rs.take i).length=i:=by rw[SO];lia
 rw[jK j (by rw[Rt,b];simp)];have c:fW (rs.take i++[r])=gy (fW (rs.take i)) r:=by
  unfold fW;rw[Yc];rfl
 unfold RP;rw[c];unfold gy;rw[Vc,YZ (by rw[jr,b];exact P1 _),jr,b];simp only[iS,ŭ,agA];refine oS λd m=>?_;have:=jK g (k:=d.2.toNat) (by rw[b];exact hd d m);unfold RP at this;rw[<-this]
theorem jL (rs):RP rs 1=[[]]:=by rw[jK (rs:=[]) (Ź) (by simp)];rfl
theorem uR (rs):RP rs 0=[]:=by rw[jK (rs:=[]) (Ź) (by simp)];rfl
structure Pn.Ok (i:Nat)(r:Pn):Prop where
 ne:r≠[]
 ahead:∀d∈r,1<=d.2/\d.2<(i:Int)+2
 rise:(r.map (·.1)).Pairwise (· < ·)
def WF (rs:List Pn):Prop:=∀i r,rs[i]?=some r->Pn.Ok i r
theorem WF.snoc (h:WF rs)(hr:Pn.Ok rs.length r):WF (rs++[r]):=λi c e=>by
 by_cases d:i<rs.length
 .rw[Xh d] at e;exact h i c e
 .have b:i<(rs++[r]).length:=(Rh.mp e).1;rw[Rt] at b;have:i=rs.length:=by simp at b;lia
  subst this;rw[YZ (P1 _)] at e;simp at e;subst e;exact hr
structure Tells (rs:List Pn)(k:Nat)(os:ap):Prop where
 lo:1<=k
 hi:k<rs.length+2
 rise:cP (RP rs k)
 mem:fN (RP rs k) os
theorem Tells.pre (t:Tells rs k os)(h:rs <+: VB):Tells VB k os:=by
 have e:=jK h t.hi;have b:=h.length_le;exact⟨t.lo,by have:=t.hi;lia,by rw[e];exact t.rise,by rw[e];exact t.mem⟩
structure agX (rs:List Pn)(os:ap)(ts:List Int)(ds:Pn):Prop where
 things:ds.map (·.1)=ts
 tells:∀d∈ds,1<=d.2/\Tells rs d.2.toNat (rests d.1 os)
def uS (f:ap->List Pn->Nat×List Pn)(n:Nat):Prop:=∀(os:ap) (rs:List Pn),(∀o∈os,o.length=n/\∀x∈o,0<=x/\x<8)->os≠[]->WF rs->WF (f os rs).2/\rs <+: (f os rs).2/\Tells (f os rs).2 (f os rs).1 os
theorem eV (hf:uS f n)(QT:∀o∈os,o.length=n+1/\∀x∈o,0<=x/\x<8):
  ∀(ts:List Int) (rs:List Pn),(∀t∈ts,t∈heads os)->WF rs->WF (aW f os ts rs).2/\rs <+: (aW f os ts rs).2/\agX (aW f os ts rs).2 os ts (aW f os ts rs).1
 | [],rs,_,h=>⟨h,Th,rfl,λd hd=>by cases hd⟩
 | t::ts,rs,j,h=>by
  obtain⟨_,r,m⟩:=bH.mp (j t Qa);obtain⟨s,u,b⟩:=hf (rests t os) rs (λo w=>by
   have:=QT _ (bj.mp w);exact⟨by simpa using this.1,λx p=>this.2 x (Qr _ p)⟩) (λe=>by
   have:=bj.mpr m;rw[e] at this;cases this) h
  obtain⟨v,c,g⟩:=eV hf QT ts (f (rests t os) rs).2 (λt' h'=>j t' (Qr _ h')) s;unfold aW;refine⟨v,u.trans c,by simp[g.things],λd hd=>?_⟩;rcases Qe.mp hd with rfl|hd
  .refine⟨by have:=b.lo;simp;lia,?_⟩;simp only[UT];exact b.pre c
  .exact g.tells d hd
theorem AN (h:cP os):cP (os.map (t::·)):=by
 unfold cP at h ⊢;rw[Wc];exact h.imp λh=>.inr ⟨rfl,h⟩
theorem rC {g:Int×Int->ap}:∀{r:Pn},(r.map (·.1)).Pairwise (· < ·)->(∀d∈r,cP (g d))->cP (r.flatMap λd=>(g d).map (d.1::·))
 | [],_,_=>Yb
 | d::r,h,f=>by
  rw[QJ,χ] at h;rw[ū];unfold cP;rw[ĝ];refine⟨AN (f d Qa),rC h.2 λd' e=>f d' (Qr _ e),?_⟩;intro a j b c;obtain⟨n,_,rfl⟩:=Qs.mp j;obtain⟨d',e,c⟩:=Uh.mp c;obtain⟨m,_,rfl⟩:=Qs.mp c;exact .inl (h.1 d'.1 (Qs.mpr ⟨d',e,rfl⟩))
theorem cW:∀n,uS (lay n) n
 | 0=>λos rs f p h=>by
  refine⟨h,Th,P1 _,by show 1<rs.length+2;lia,?_,?_⟩
  .show cP (RP rs 1);rw[jL];exact List.pairwise_singleton _ _
  .show fN (RP rs 1) os;rw[jL];intro o;constructor
   .intro b;rw[Ri.mp b];cases os with
    | nil=>exact Py rfl p
    | cons a os=>
     have:=(f a Qa).1;rw[VH.mp this];exact Qa
   .intro b;rw[VH.mp (f o b).1];exact List.mem_singleton_self _
 | n+1=>λos rs f p h=>by
  obtain⟨v,D,c⟩:=eV (cW n) f (heads os) rs (λt E=>E) h;unfold lay;generalize (aW (lay n) os (heads os) rs).2=PN at *;generalize (aW (lay n) os (heads os) rs).1=ds at *;have rise:(ds.map (·.1)).Pairwise (· < ·):=by rw[c.things];exact cV os
  have s:ds≠[]:=by
   intro e;cases os with
   | nil=>exact Py rfl p
   | cons a os=>
    have y:=f a Qa;cases a with
    | nil=>cases y.1
    | cons x r=>
     have g:x∈heads ((x::r)::os):=bH.mpr ⟨y.2 x Qa,r,Qa⟩;rw[<-c.things,e] at g;cases g
  obtain⟨i,k1,k2,k3,m⟩:=fV PN ds;have w:WF (keep PN ds).2:=by
   rcases dD PN ds with e|⟨_,e,_⟩
   .rw[e];exact v
   .rw[e];refine v.snoc ⟨s,λd hd=>?_,rise⟩;have:=c.tells d hd;have F:=this.2.hi;exact⟨this.1,by lia⟩
  refine⟨w,D.trans m,?_⟩;have j:RP (keep PN ds).2 (i+2)=ds.flatMap λd=>(RP (keep PN ds).2 d.2.toNat).map (d.1::·):=
   uQ k2 λd hd=>by
    have:=(w i ds k2).ahead d hd;lia
  rw[k1];refine⟨by lia,by lia,?_,?_⟩
  .rw[j];exact rC rise λd hd=>((c.tells d hd).2.pre m).rise
  .rw[j];intro o;rw[Uh];constructor
   .rintro⟨d,hd,b⟩;obtain⟨C,A,rfl⟩:=Qs.mp b;exact bj.mp ((((c.tells d hd).2.pre m).mem C).mp A)
   .intro b;have u:=f o b;cases o with
    | nil=>cases u.1
    | cons x r=>
     have g:x∈heads os:=bH.mpr ⟨u.2 x Qa,r,b⟩;rw[<-c.things] at g;obtain⟨d,hd,rfl⟩:=Qs.mp g;exact⟨d,hd,Qs.mpr ⟨r,(((c.tells d hd).2.pre m).mem r).mpr (bj.mpr b),rfl⟩⟩
def Ends (rs:List Pn)(p:Nat×List Pn):Prop:=(p.2=rs/\p.1<rs.length+2)\/(p.1=p.2.length+1/\rs.length<p.2.length)
def La (rs:List Pn)(p:Pn×List Pn):Prop:=p.2=rs\/(rs.length<p.2.length/\∃d∈p.1,d.2=((p.2.length+1:Nat):Int))
theorem ly (hf:uS f n)(he:∀(os:ap) (rs:List Pn),(∀o∈os,o.length=n/\∀x∈o,0<=x/\x<8)->os≠[]->WF rs->Ends rs (f os rs))(QT:∀o∈os,o.length=n+1/\∀x∈o,0<=x/\x<8):
  ∀(ts:List Int) (rs:List Pn),(∀t∈ts,t∈heads os)->WF rs->La rs (aW f os ts rs)
 | [],rs,_,_=>.inl rfl
 | t::ts,rs,m,h=>by
  obtain⟨_,r,p⟩:=bH.mp (m t Qa);have g:∀o∈rests t os,o.length=n/\∀x∈o,0<=x/\x<8:=λo g=>by
   have:=QT _ (bj.mp g);exact⟨by simpa using this.1,λx u=>this.2 x (Qr _ u)⟩
  have j:rests t os≠[]:=λe=>by
   have:=bj.mpr p;rw[e] at this;cases this
  obtain⟨w,y,A⟩:=hf (rests t os) rs g j h;have c:=he (rests t os) rs g j h;have b:=ly hf he QT ts (f (rests t os) rs).2 (λt' h'=>m t' (Qr _ h')) w;unfold aW;rcases b with b|⟨s,d,hd,b⟩
  .rcases c with⟨c,_⟩|⟨c,v⟩
   .exact .inl (b.trans c)
   .refine .inr ⟨by rw[b];exact v,_,Qa,?_⟩;show((f (rests t os) rs).1:Int)=_;rw[b,c]
  .exact .inr ⟨iF y.length_le s,d,Qr _ hd,b⟩
theorem nM:∀(n:Nat) (os:ap) (rs:List Pn),(∀o∈os,o.length=n/\∀x∈o,0<=x/\x<8)->os≠[]->WF rs->Ends rs (lay n os rs)
 | 0,os,rs,_,_,_=>.inl ⟨rfl,by show 1<rs.length+2;lia⟩
 | n+1,os,rs,f,u,h=>by
  have e:=ly (cW n) (nM n) f (heads os) rs (λt c=>c) h;obtain⟨j,m,s⟩:=eV (cW n) f (heads os) rs (λt c=>c) h;have v:=m.length_le;unfold lay;generalize (aW (lay n) os (heads os) rs)=p at *;obtain⟨ds,b⟩:=p;dsimp only at *;rcases dD b ds with k|⟨_,k,g⟩
  .obtain⟨i,k1,k2,k3,_⟩:=fV b ds;rw[k] at k2 k3;rcases e with e|⟨l,d,hd,e⟩
   .have e:b=rs:=e;exact .inl ⟨by rw[k];exact e,by rw[k1,<-e];lia⟩
   .have:=(j i ds k2).ahead d hd;have e:d.2=((b.length+1:Nat):Int):=e;lia
  .refine .inr ⟨by rw[k,g];simp,by rw[k];simp;lia⟩
theorem yM (h:rs.Nodup):(keep rs r).2.Nodup:=by
 rcases dD rs r with e|⟨f,e,_⟩
 .rw[e];exact h
 .rw[e,Xn];refine⟨h,by simp,?_⟩;intro a c b d;rw[Ri.mp d];rintro rfl;exact f c
theorem oU (hf:∀os rs,rs.Nodup->(f os rs).2.Nodup):∀ts rs,rs.Nodup->(aW f os ts rs).2.Nodup
 | [],_,h=>h
 | t::ts,rs,h=>by
  unfold aW;exact oU hf ts _ (hf _ _ h)
theorem rD:∀(n:Nat) (os:ap) (rs:List Pn),rs.Nodup->(lay n os rs).2.Nodup
 | 0,_,_,h=>h
 | n+1,os,rs,h=>by
  unfold lay;exact yM (oU (rD n) _ _ h)
noncomputable def bd (rs:List Pn)(k:Int):Pn:=(rs[(k-2).toNat]?).getD []
noncomputable def walk:Nat->List Pn->Int->List Int->List Int
 | 0,_,_,w=>w
 | n+1,rs,k,w=>if k∈w then w else (bd rs k).foldl (λw d=>walk n rs d.2 w) w++[k]
theorem mz (h:k∈w):walk n rs k w=w:=by
 cases n with
 | zero=>rfl
 | succ n=>unfold walk;rw[PK h]
theorem rE (n:Nat):bw (n+1)=bw n++[(n:Int)]:=by unfold bw;rw[Ž];simp
def xm (f:ap->List Pn->Nat×List Pn)(n:Nat):Prop:=∀(os:ap) (rs all:List Pn),(∀o∈os,o.length=n/\∀x∈o,0<=x/\x<8)->os≠[]->WF rs->(f os rs).2 <+: all->∀m,n<=m->
 walk m all ((f os rs).1:Int) (bw (rs.length+2))=bw ((f os rs).2.length+2)
theorem Eh (hf:uS f n)(hw:xm f n)(hm:n<=m)(QT:∀o∈os,o.length=n+1/\∀x∈o,0<=x/\x<8):
  ∀(ts:List Int) (rs:List Pn),(∀t∈ts,t∈heads os)->WF rs->(aW f os ts rs).2 <+: all->
   (aW f os ts rs).1.foldl (λw d=>walk m all d.2 w) (bw (rs.length+2))=bw ((aW f os ts rs).2.length+2)
 | [],rs,_,_,_=>rfl
 | t::ts,rs,g,h,c=>by
  obtain⟨_,r,s⟩:=bH.mp (g t Qa);have b:∀o∈rests t os,o.length=n/\∀x∈o,0<=x/\x<8:=λo b=>by
   have:=QT _ (bj.mp b);exact⟨by simpa using this.1,λx u=>this.2 x (Qr _ u)⟩
  have p:rests t os≠[]:=λe=>by
   have:=bj.mpr s;rw[e] at this;cases this
  obtain⟨j,A,y⟩:=hf (rests t os) rs b p h;obtain⟨_,v,_⟩:=eV hf QT ts (f (rests t os) rs).2 (λt' h'=>g t' (Qr _ h')) j;unfold aW at c ⊢;rw[Zd];have e:=hw (rests t os) rs all b p h (v.trans c) m hm;dsimp only at e ⊢;rw[e];exact Eh hf hw hm QT ts _ (λt' h'=>g t' (Qr _ h')) j c
theorem uT:∀n,xm (lay n) n
 | 0=>λos rs all _ _ _ _ m _=>by
  show walk m all 1 (bw (rs.length+2))=bw (rs.length+2);exact mz (dZ.mpr ⟨by (first|trivial|lia),by lia⟩)
 | n+1=>λos rs all o C h u m I=>by
  have w:=nM (n+1) os rs o C h;rcases w with⟨f,j⟩|⟨f,j⟩
  .rw[f];exact mz (dZ.mpr ⟨by lia,by lia⟩)
  .obtain⟨m,rfl⟩:∃E,m=E+1:=⟨m-1,by lia⟩
   obtain⟨y,A,J⟩:=eV (cW n) o (heads os) rs (λt g=>g) h;have s:¬((lay (n+1) os rs).1:Int)∈bw (rs.length+2):=by
    rw[dZ];lia
   unfold walk;rw[Pr s];have F:=Eh (m:=m) (all:=all) (cW n) (uT n) (by lia) o (heads os) rs (λt g=>g) h;have L:=A.length_le;have e:=ly (cW n) (nM n) o (heads os) rs (λt g=>g) h;have D:lay (n+1) os rs=keep (aW (lay n) os (heads os) rs).2 (aW (lay n) os (heads os) rs).1:=rfl;rw[D] at f j u ⊢;generalize (aW (lay n) os (heads os) rs)=p at *;obtain⟨ds,b⟩:=p;dsimp only at *;obtain⟨i,k1,k2,k3,G⟩:=fV b ds;have v:bd all ((keep b ds).1:Int)=ds:=by
    unfold bd;rw[k1,show(((i+2:Nat):Int)-2).toNat=i by lia];obtain⟨c,rfl⟩:=u;rw[Xh k3,k2];rfl
   rw[v,F (G.trans u)];rcases dD b ds with k|⟨_,k,x⟩
   .rw[k] at f j k2 k3;rw[k1] at f;rcases e with e|⟨_,d,hd,e⟩
    .have e:b=rs:=e;rw[e] at j;lia
    .have:=(y i ds k2).ahead d hd;have e:d.2=((b.length+1:Nat):Int):=e;lia
   .rw[k,x,Rt];show bw (b.length+2)++[((b.length+2:Nat):Int)]=bw (b.length+1+2);rw[show b.length+1+2=(b.length+2)+1 by (first|trivial|lia),rE (b.length+2)]
noncomputable def cb (r:Pn)(t:Int):Int:=match r.find? (λd=>decide (d.1=t)) with
 | some d=>d.2
 | none=>0
theorem lz:∀{r:Pn}{d:Int×Int},(r.map (·.1)).Pairwise (· < ·)->d∈r->r.find? (λe=>decide (e.1=d.1))=some d
 | e::r,d,h,hd=>by
  rw[QJ,χ] at h;rcases Qe.mp hd with rfl|hd
  .simp
  .have b:=h.1 d.1 (Qs.mpr ⟨d,hd,rfl⟩);rw[Y5 (by simp;lia)];exact lz h.2 hd
noncomputable def mB (ms:List Nat)(d:Int×Int):Nat:=2 ^ d.1.toNat ||| ms.getD d.2.toNat 0
noncomputable def jc (ms:List Nat)(r:Pn):List Nat:=ms++[mB ms (r.headD (0,0))]
noncomputable def cf (rs:List Pn):List Nat:=rs.foldl jc [0,0]
noncomputable def RG (rs:List Pn)(k:Nat):Nat:=(cf rs).getD k 0
theorem rF:∀(rs:List Pn) (a:List Nat),(rs.foldl jc a).length=a.length+rs.length
 | [],_=>rfl
 | r::rs,a=>by
  rw[Zd,rF rs];simp[jc];lia
theorem fX (rs):(cf rs).length=rs.length+2:=by
 rw[cf,rF];simp;lia
theorem rG:∀(rs:List Pn) (a:List Nat),a <+: rs.foldl jc a
 | [],_=>Th
 | r::rs,a=>by
  rw[Zd];exact(ψ _ _).trans (rG rs _)
theorem fY (h:rs <+: VB)(hk:k<rs.length+2):RG VB k=RG rs k:=by
 obtain⟨m,rfl⟩:=h;unfold RG cf;rw[Yc];exact uP (rG m _) (by have:=fX rs;unfold cf at this;lia)
theorem C1 {r:Pn}(h:rs[i]?=some (d::r))(hd:d.2.toNat<i+2):RG rs (i+2)=2 ^ d.1.toNat ||| RG rs d.2.toNat:=by
 obtain⟨m,e⟩:=Rh.mp h;have f:rs=rs.take i++((d::r)::rs.drop (i+1)):=by
  rw[<-e,af8,X9]
 have g:rs.take i <+: rs:=ž _ _;have j:rs.take i++[d::r] <+: rs:=⟨rs.drop (i+1),by rw[Y'];exact f.symm⟩
 have b:(rs.take i).length=i:=by rw[SO];lia
 rw[fY j (by rw[Rt,b];simp),fY g (k:=d.2.toNat) (by rw[b];exact hd)];have c:cf (rs.take i++[d::r])=jc (cf (rs.take i)) (d::r):=by
  unfold cf;rw[Yc];rfl
 unfold RG;rw[c];unfold jc;rw[Vc,YZ (by rw[fX,b];exact P1 _),fX,b];simp only[iS,ŭ,agA];rfl
theorem Fo (rs):RG rs 1=0:=by rw[fY (rs:=[]) (Ź) (by simp)];rfl
def YM (rs:List Pn):Prop:=∀i r,rs[i]?=some r->∀d∈r,0<=d.1/\d.1<8/\(RG rs d.2.toNat).testBit d.1.toNat=false/\2 ^ d.1.toNat ||| RG rs d.2.toNat=RG rs (i+2)
def ZP (rs:List Pn)(k:Nat)(S:Int->Prop):Prop:=∀i:Nat,(RG rs k).testBit i=true↔S (i:Int)
theorem ZP.pre (h:ZP rs k S)(p:rs <+: VB)(hk:k<rs.length+2):ZP VB k S:=λi=>by rw[fY p hk];exact h i
def hG (n:Nat)(S:Int->Prop)(os:ap):Prop:=∀o∈os,o.length=n/\(∀x∈o,0<=x/\x<8)/\o.Nodup/\∀x,x∈o↔S x
theorem hG.plain (h:hG n S os):∀o∈os,o.length=n/\∀x∈o,0<=x/\x<8:=λo b=>⟨(h o b).1,(h o b).2.1⟩
theorem hG.rests (h:hG (n+1) S os)(t:Int):hG n (λx=>S x/\x≠t) (rests t os):=λr f=>by
 obtain⟨g,j,c,d⟩:=h _ (bj.mp f);rw[Tw] at c;refine⟨by simpa using g,λx b=>j x (Qr _ b),c.2,λx=>?_⟩;constructor
 .intro b;refine⟨(d x).mp (Qr _ b),?_⟩;rintro rfl;exact c.1 b
 .rintro⟨b,m⟩;rcases Qe.mp ((d x).mpr b) with e|e
  .exact Py e m
  .exact e
def Ei (f:ap->List Pn->Nat×List Pn)(n:Nat):Prop:=∀(S:Int->Prop) (os:ap) (rs:List Pn),hG n S os->os≠[]->WF rs->YM rs->YM (f os rs).2/\ZP (f os rs).2 (f os rs).1 S
theorem rH (hf:uS f n)(hm:Ei f n)(QT:hG (n+1) S os):
  ∀(ts:List Int) (rs:List Pn),(∀t∈ts,t∈heads os)->WF rs->YM rs->YM (aW f os ts rs).2/\∀d∈(aW f os ts rs).1,(0<=d.1/\d.1<8)/\S d.1/\ZP (aW f os ts rs).2 d.2.toNat (λx=>S x/\x≠d.1)
 | [],rs,_,_,m=>⟨m,λd hd=>by cases hd⟩
 | t::ts,rs,o,h,m=>by
  obtain⟨w,r,b⟩:=bH.mp (o t Qa);have j:rests t os≠[]:=λe=>by
   have:=bj.mpr b;rw[e] at this;cases this
  obtain⟨g,y,s⟩:=hf (rests t os) rs (QT.rests t).plain j h;obtain⟨u,s1⟩:=hm _ (rests t os) rs (QT.rests t) j h m;have c:∀t'∈ts,t'∈heads os:=λt' h'=>o t' (Qr _ h');obtain⟨_,v,_⟩:=eV hf QT.plain ts (f (rests t os) rs).2 c g;obtain⟨p,s2⟩:=rH hf hm QT ts (f (rests t os) rs).2 c g u;unfold aW;refine⟨p,λd hd=>?_⟩;rcases Qe.mp hd with rfl|hd
  .refine⟨w,((QT _ b).2.2.2 t).mp Qa,?_⟩;simp only[UT];exact s1.pre v s.hi
  .exact s2 d hd
theorem GY {S:Int->Prop}(h0:0<=t)(hS:S t)(h:∀i:Nat,m.testBit i=true↔(S (i:Int)/\(i:Int)≠t)):∀i:Nat,(2 ^ t.toNat ||| m).testBit i=true↔S (i:Int):=λi=>by
 rw[Nat.testBit_or,Ŗ,ago,decide_eq_true_iff,h i];constructor
 .rintro(e|⟨e,_⟩)
  .have:(i:Int)=t:=by lia
   rw[this];exact hS
  .exact e
 .intro e
  by_cases z:(i:Int)=t
  .exact .inl (by lia)
  .exact .inr ⟨e,z⟩
theorem Fp {a b:Nat}{S:Int->Prop}(ha:∀i:Nat,a.testBit i=true↔S (i:Int))(hb:∀i:Nat,b.testBit i=true↔S (i:Int)):a=b:=by
 refine aT λi=>?_;rw[Yg,ha,hb]
theorem uU:∀n,Ei (lay n) n
 | 0=>λS os rs c g _ m=>by
  refine⟨m,λi=>?_⟩;show(RG rs 1).testBit i=true↔_;rw[Fo];simp only[Nat.zero_testBit];constructor
  .intro z;cases z
  .intro z;cases os with
   | nil=>exact Py rfl g
   | cons o os=>
    obtain⟨D,_,_,y⟩:=c o Qa;have:=(y _).mpr z;rw[VH.mp D] at this;cases this
 | n+1=>λS os rs c g h m=>by
  obtain⟨E,P,A⟩:=eV (cW n) c.plain (heads os) rs (λt u=>u) h;obtain⟨x,s1⟩:=rH (cW n) (uU n) c (heads os) rs (λt u=>u) h m;obtain⟨w,_,C⟩:=cW (n+1) os rs c.plain g h;have I:lay (n+1) os rs=keep (aW (lay n) os (heads os) rs).2 (aW (lay n) os (heads os) rs).1:=rfl;rw[I] at w C ⊢;generalize (aW (lay n) os (heads os) rs)=p at *;obtain⟨ds,b⟩:=p;dsimp only at *;obtain⟨i,k1,k2,k3,s⟩:=fV b ds;have ok:=w i ds k2;have each:∀d∈ds,∀j:Nat,(2 ^ d.1.toNat ||| RG b d.2.toNat).testBit j=true↔S (j:Int):=λd hd=>GY (s1 d hd).1.1 (s1 d hd).2.1 (s1 d hd).2.2;have pre:∀d∈ds,RG (keep b ds).2 d.2.toNat=RG b d.2.toNat:=λd hd=>fY s (A.tells d hd).2.hi;have hi:ZP (keep b ds).2 (i+2) S:=by
   cases ds with
   | nil=>exact Py rfl ok.ne
   | cons d r=>
    intro j;rw[C1 k2 (by have:=ok.ahead d Qa;lia),pre d Qa];exact each d Qa j
  refine⟨?_,by rw[k1];exact hi⟩;rcases dD b ds with k|⟨_,k,O⟩
  .rw[k];exact x
  .intro j r e d hd;have Q:i=b.length:=by lia
   by_cases N:j<b.length
   .have f:=e;rw[k,Xh N] at f;obtain⟨J,G,F,L⟩:=x j r f d hd;have R:=(E j r f).ahead d hd;rw[fY s (by lia),fY s (by lia)];exact⟨J,G,F,L⟩
   .have v:j<(keep b ds).2.length:=(Rh.mp e).1;rw[k,Rt] at v;have M:j=i:=by simp at v;lia
    subst M;rw[k2] at e;cases e;refine⟨(s1 d hd).1.1,(s1 d hd).1.2,?_,?_⟩
    .rw[pre d hd];cases z:(RG b d.2.toNat).testBit d.1.toNat with
     | false=>rfl
     | true=>
      have:=(((s1 d hd).2.2) d.1.toNat).mp z;exact Py (by have:=(s1 d hd).1.1;lia) this.2
    .rw[pre d hd];exact Fp (each d hd) hi
theorem C2 {many a:Nat}(h:∀i:Nat,a.testBit i=true↔((0:Int)<=(i:Int)/\(i:Int)<many)):a=2 ^ many-1:=by
 refine aT λi=>?_;rw[Yg,h,Nat.testBit_two_pow_sub_one,decide_eq_true_iff];lia
theorem oV (wf:WF rs)(h2:2<=k)(hk:k<rs.length+2):∃r,rs[k-2]?=some r/\Pn.Ok (k-2) r/\RP rs k=r.flatMap λd=>(RP rs d.2.toNat).map (d.1::·):=by
 have b:k-2<rs.length:=by lia
 have e:=Q5 b;have ok:=wf _ _ e;have:=uQ e (λd hd=>by have:=ok.ahead d hd;lia);rw[show k-2+2=k by lia] at this;exact⟨_,e,ok,this⟩
theorem uV (wf:WF rs):∀(n k:Nat),k<=n->1<=k->k<rs.length+2->RP rs k≠[]
 | 0,k,h,b,_=>by lia
 | n+1,k,h,b,f=>by
  by_cases c:k=1
  .subst c;rw[jL];exact λh=>nomatch h
  obtain⟨r,e,ok,es⟩:=oV wf (by lia) f;obtain⟨d,hd⟩:=Xi r ok.ne;have m:=ok.ahead d hd;have:=uV wf n d.2.toNat (by lia) (by lia) (by lia);obtain⟨o,g⟩:=Xi _ this;rw[es];intro j;have:d.1::o∈r.flatMap λd=>(RP rs d.2.toNat).map (d.1::·):=Uh.mpr ⟨d,hd,Qs.mpr ⟨o,g,rfl⟩⟩;rw[j] at this;cases this
def fu:Nat->List Pn->Int->Prop
 | 0,_,k=>k=0\/k=1
 | n+1,rs,k=>k=0\/k=1\/(2<=k/\(k-2).toNat<rs.length/\∀d∈bd rs k,fu n rs d.2)
theorem fu.up:∀{n:Nat}{k:Int},fu n rs k->fu (n+1) rs k
 | 0,k,h=>by
  rcases h with h|h
  .exact .inl h
  .exact .inr (.inl h)
 | n+1,k,h=>by
  rcases h with h|h|⟨c,e,b⟩
  .exact .inl h
  .exact .inr (.inl h)
  .exact .inr (.inr ⟨c,e,λd hd=>(b d hd).up⟩)
theorem fu.le (h:fu n rs k)(hm:n<=m):fu m rs k:=by
 induction hm with
 | refl=>exact h
 | step _ b=>exact b.up
theorem gT (h:(k-2).toNat<rs.length):rs[(k-2).toNat]?=some (bd rs k):=by
 unfold bd;rw[Q5 h];rfl
theorem rJ {k:Nat}(h:rs[k-2]?=some r)(h2:2<=k):bd rs (k:Int)=r:=by
 unfold bd;rw[show((k:Int)-2).toNat=k-2 by lia,h];rfl
theorem xn (wf:WF rs):∀(n k:Nat),1<=k->k<rs.length+2->(∀o∈RP rs k,o.length=n)->fu n rs (k:Int)
 | 0,k,h,f,g=>by
  by_cases c:k=1
  .exact .inr (by rw[c];rfl)
  obtain⟨r,e,ok,es⟩:=oV wf (by lia) f;obtain⟨o,b⟩:=Xi _ (uV wf k k (P1 _) h f);have j:=g o b;rw[es] at b;obtain⟨d,hd,m⟩:=Uh.mp b;obtain⟨s,_,rfl⟩:=Qs.mp m;exact Py j (by simp)
 | n+1,k,h,f,g=>by
  by_cases c:k=1
  .exact .inr (.inl (by rw[c];rfl))
  obtain⟨r,e,ok,es⟩:=oV wf (by lia) f;refine .inr (.inr ⟨by lia,by lia,λd hd=>?_⟩);rw[rJ e (by lia)] at hd;have p:=ok.ahead d hd;have:=xn wf n d.2.toNat (by lia) (by lia) λo b=>by
   have:=g (d.1::o) (by rw[es];exact Uh.mpr ⟨d,hd,Qs.mpr ⟨o,b,rfl⟩⟩);simpa using this
  rw[show((d.2.toNat:Nat):Int)=d.2 by lia] at this;exact this
theorem C7 {r:Pn}(rise:(r.map (·.1)).Pairwise (· < ·))(h:∀d∈r,0<=d.1/\d.1<8):r.length<=8:=by
 have nd:(r.map (·.1)).Nodup:=rise.imp λh e=>Py h (by rw[e];lia);have:=L2.dC (r.map (·.1)) (bw 8) nd λx b=>by
  obtain⟨d,hd,rfl⟩:=Qs.mp b;exact dZ.mpr (h d hd)
 rw[Qx,fE] at this;exact this
theorem yR (m:YM rs)(w:WF rs){i:Nat}(h:rs[i]?=some r):
  (∀d∈r,0<=d.1/\d.1<8/\0<=d.2/\d.2<((cf (rs.take i)).length:Nat)/\((cf (rs.take i)).getD d.2.toNat 0).testBit d.1.toNat=false/\mB (cf (rs.take i)) d=RG rs (i+2))/\cf (rs.take (i+1))=cf (rs.take i)++[RG rs (i+2)]:=by
 have p:=(Rh.mp h).1;have b:(rs.take i).length=i:=by rw[SO];lia
 have c:=fX (rs.take i);have ok:=w i r h;have each:∀d∈r,0<=d.1/\d.1<8/\0<=d.2/\d.2<((cf (rs.take i)).length:Nat)/\((cf (rs.take i)).getD d.2.toNat 0).testBit d.1.toNat=false/\mB (cf (rs.take i)) d=RG rs (i+2):=λd hd=>by
  obtain⟨f,j,n,g⟩:=m i r h d hd;obtain⟨s,o⟩:=ok.ahead d hd;have e:(cf (rs.take i)).getD d.2.toNat 0=RG rs d.2.toNat:=(fY (ž i rs) (by rw[b];lia)).symm;refine⟨f,j,by lia,by rw[c,b];(first|trivial|lia),by rw[e];exact n,?_⟩;unfold mB;rw[e];exact g
 refine⟨each,?_⟩;rw[Xm,h];unfold cf;rw[ê,Yc];show jc (cf (rs.take i)) r=_;unfold jc;cases r with
 | nil=>exact Py rfl ok.ne
 | cons d r=>rw[List.headD_cons,(each d Qa).2.2.2.2.2];rfl
structure Wd (rs:List Pn)(ws:List Int):Prop where
 nd:ws.Nodup
 SX:∀x∈ws,0<=x/\x<(rs.length:Int)+2
 z:(0:Int)∈ws
 o:(1:Int)∈ws
theorem Wd.len (w:Wd rs ws):ws.length<=rs.length+2:=by
 have:=L2.dC ws (bw (rs.length+2)) w.nd λx b=>dZ.mpr (by have:=w.SX x b;(first|trivial|lia));rw[fE] at this;exact this
theorem xu (wf:WF rs):∀(n:Nat) (k:Int) (ws:List Int),fu n rs k->Wd rs ws->Wd rs (walk n rs k ws)/\(∀x∈ws,x∈walk n rs k ws)/\∀x∈walk n rs k ws,x∈ws\/x<=k
 | 0,k,ws,f,w=>⟨w,λ_ h=>h,λx h=>.inl h⟩
 | n+1,k,ws,f,w=>by
  unfold walk
  by_cases c:k∈ws
  .rw[PK c];exact⟨w,λ_ h=>h,λx h=>.inl h⟩
  rw[Pr c];obtain⟨k2,kl,fd⟩:2<=k/\(k-2).toNat<rs.length/\∀d∈bd rs k,fu n rs d.2:=by
   rcases f with f|f|f
   .exact Py (f▸w.z) c
   .exact Py (f▸w.o) c
   .exact f
  have ok:=wf _ _ (gT kl);have fold:∀(ds:Pn) (ws:List Int),(∀d∈ds,fu n rs d.2/\d.2<k)->Wd rs ws->Wd rs (ds.foldl (λw d=>walk n rs d.2 w) ws)/\(∀x∈ws,x∈ds.foldl (λw d=>walk n rs d.2 w) ws)/\∀x∈ds.foldl (λw d=>walk n rs d.2 w) ws,x∈ws\/x<k:=by
   intro ds
   induction ds with
   | nil=>intro ws _ w;exact⟨w,λ_ h=>h,λx h=>.inl h⟩
   | cons d ds ih=>
    intro ws hd w;obtain⟨e,j,g⟩:=xu wf n d.2 ws (hd d Qa).1 w;obtain⟨u,p,t⟩:=ih (walk n rs d.2 ws) (λd' h'=>hd d' (Qr _ h')) e;refine⟨u,λx b=>p x (j x b),λx b=>?_⟩;rcases t x b with h|h
    .rcases g x h with h|h
     .exact .inl h
     .exact .inr (Int.lt_of_le_of_lt h (hd d Qa).2)
    .exact .inr h
  obtain⟨e,j,g⟩:=fold (bd rs k) ws (λd hd=>⟨fd d hd,by have:=(ok.ahead d hd).2;lia⟩) w;have s:k∉(bd rs k).foldl (λw d=>walk n rs d.2 w) ws:=λh=>by
   rcases g k h with h|h
   .exact c h
   .omega
  refine⟨⟨?_,λx b=>?_,Ue _ e.z,Ue _ e.o⟩,λx b=>Ue _ (j x b),λx b=>?_⟩
  .rw[Xn];exact⟨e.nd,by simp,λx b y m=>by rw[Ri.mp m];rintro rfl;exact s b⟩
  .rcases QW.mp b with h|h
   .exact e.SX x h
   .rw[Ri.mp h];lia
  .rcases QW.mp b with h|h
   .rcases g x h with h|h
    .exact .inl h
    .exact .inr (by lia)
   .rw[Ri.mp h];exact .inr (Int.le_refl _)
theorem lB (wf:WF rs)(w:Wd rs ws)(kl:(k-2).toNat<rs.length)(k2:2<=k)(c:k∉ws)(fd:∀d∈bd rs k,fu n rs d.2):
  ∀i,i<=(bd rs k).length->Wd rs (((bd rs k).take i).foldl (λw d=>walk n rs d.2 w) ws)/\k∉((bd rs k).take i).foldl (λw d=>walk n rs d.2 w) ws
 | 0,_=>⟨w,c⟩
 | i+1,h=>by
  obtain⟨g,j⟩:=lB wf w kl k2 c fd i (by lia);have b:i<(bd rs k).length:=by (first|trivial|lia)
  have e:(bd rs k).take (i+1)=(bd rs k).take i++[(bd rs k)[i]]:=by rw[Xm,Q5 b];rfl
  rw[e,Yc];show Wd rs (walk n rs (bd rs k)[i].2 _)/\k∉walk n rs (bd rs k)[i].2 _;have mem:(bd rs k)[i]∈bd rs k:=Xo b;have ok:=(wf _ _ (gT kl)).ahead _ mem;obtain⟨o,p,m⟩:=xu wf n _ _ (fd _ mem) g;refine⟨o,λf=>?_⟩;rcases m k f with z|z
  .exact j z
  .omega
end Bk
namespace L2
open PySem
noncomputable def enc (r:Bk.Pn):List (List Int):=r.map λd=>[d.1,d.2]
theorem xy (h:enc r=enc r'):r=r':=by
 unfold enc at h;exact(List.map_inj_right (f:=λd:Int×Int=>[d.1,d.2]) (λa b e=>by
  simp only[List.cons.injEq,and_true] at e;exact Prod.ext e.1 e.2)).mp h
theorem yS:SF "set"=some (.type "set"):=by decide +kernel
end L2
namespace Bk
open Mx
def qp (m:Int)(rs:List Pn):Prop:=∀r∈rs,∀d∈r,d.1<m
theorem C9 (h:x∈(keep rs r).2):x∈rs\/x=r:=by
 rcases dD rs r with e|⟨_,e,_⟩
 .rw[e] at h;exact .inl h
 .rw[e] at h;rcases QW.mp h with h|h
  .exact .inl h
  .exact .inr (Ri.mp h)
theorem rN (hf:∀t rs,qp m rs->qp m (f (rests t os) rs).2):
  ∀(ts:List Int) (rs:List Pn),(∀t∈ts,t<m)->qp m rs->qp m (aW f os ts rs).2/\∀d∈(aW f os ts rs).1,d.1<m
 | [],rs,_,h=>⟨h,λd hd=>by cases hd⟩
 | t::ts,rs,b,h=>by
  obtain⟨c,e⟩:=rN hf ts _ (λt' h'=>b t' (Qr _ h')) (hf t rs h);refine⟨c,λd hd=>?_⟩;rcases Qe.mp hd with rfl|hd
  .exact b t Qa
  .exact e d hd
theorem vd:∀(n:Nat) (os:ap) (rs:List Pn),(∀o∈os,∀x∈o,x<m)->qp m rs->qp m (lay n os rs).2
 | 0,_,_,_,h=>h
 | n+1,os,rs,c,h=>by
  obtain⟨g,j⟩:=rN (m:=m) (f:=lay n) (os:=os) (λt rs h=>vd n (rests t os) rs (λo b x d=>c _ (bj.mp b) x (Qr _ d)) h) (heads os) rs (λt e=>by
   obtain⟨_,r,b⟩:=bH.mp e;exact c _ b t Qa) h
  intro r b;rcases C9 b with b|rfl
  .exact g r b
  .exact j
theorem vf (rs)(r):(keep rs r).2.length<=rs.length+1:=by
 rcases dD rs r with e|⟨_,e,_⟩
 .rw[e];lia
 .rw[e,Rt];simp
noncomputable def ke:Nat->Nat
 | 0=>0
 | n+1=>1+(n+1)*ke n
theorem vg:∀(ts:List Int) (rs:List Pn),(∀t∈ts,∀rs,(f (rests t os) rs).2.length<=rs.length+b)->(aW f os ts rs).2.length<=rs.length+ts.length*b
 | [],rs,_=>by show rs.length<=_;lia
 | t::ts,rs,c=>by
  have d:=vg ts (f (rests t os) rs).2 λt' h'=>c t' (Qr _ h');have e:=c t Qa rs;show(aW f os ts (f (rests t os) rs).2).2.length<=_;rw[QU,oF];lia
theorem AS (h:hG n S os)(ne:os≠[]):(heads os).length<=n:=by
 obtain⟨o,d⟩:=Xi os ne;have b:=h o d;have nd:(heads os).Nodup:=(cV os).imp λh e=>Py h (by rw[e];lia);have:=L2.dC (heads os) o nd λt f=>by
  obtain⟨_,r,c⟩:=bH.mp f;exact(b.2.2.2 t).mpr (((h _ c).2.2.2 t).mp Qa)
 rw[b.1] at this;exact this
theorem rO:∀(n:Nat) (S:Int->Prop) (os:ap) (rs:List Pn),hG n S os->os≠[]->(lay n os rs).2.length<=rs.length+ke n
 | 0,_,_,rs,_,_=>P1 _
 | n+1,S,os,rs,h,ne=>by
  have o:=vg (f:=lay n) (os:=os) (b:=ke n) (heads os) rs λt g rs=>by
   obtain⟨_,r,c⟩:=bH.mp g;exact rO n _ (rests t os) rs (h.rests t) (λe=>by
    have:=bj.mpr c;rw[e] at this;cases this)
  have d:=AS h ne;have j:=vf (aW (lay n) os (heads os) rs).2 (aW (lay n) os (heads os) rs).1;have m:(heads os).length*ke n<=(n+1)*ke n:=ο _ d;show(keep _ _).2.length<=_;unfold ke;lia
end Bk
namespace L2
open PySem
def iV:HO->Prop
 | .tup _=>False
 | .Q2 _ _=>False
 | _=>True
theorem PM.soft (hd:H d=some o)(so:iV o)(h:PM K H a xs):PM K (upd H d u) a xs:=by
 rcases h with(h|⟨ob,h⟩)|h
 .refine .inl (.inl ?_);rw[al (by rintro rfl;rw[hd] at h;cases h;exact so)];exact h
 .refine .inl (.inr ⟨ob,?_⟩);rw[al (by rintro rfl;rw[hd] at h;cases h;exact so)];exact h
 .exact .inr h
theorem eW (hd:H d=some o)(so:iV o)(h:aV.rep K H x ks):aV.rep K (upd H d u) x ks:=by
 obtain⟨p,xs,e,q,r⟩:=h;exact⟨p,xs,e,q.soft hd so,bf (λ_ _ z=>z) r⟩
theorem kh (hd:H d=some o)(so:iV o)(h:cu.rep K H x ks):cu.rep K (upd H d u) x ks:=by
 obtain⟨p,xs,e,q,r⟩:=h;exact⟨p,xs,e,q.soft hd so,bf (λ_ _ z=>eW hd so z) r⟩
theorem xB:∀{L:T9}{rs:List Bk.Pn}{k:Int},L.length=rs.length->(∀(i:Nat) (e:List (List Int)×D'×Int),L[i]?=some e->∃r,rs[i]?=some r/\e.1=enc r/\e.2.2=(i:Int)+k)->
  fq L (enc r)=if r∈rs then some ((rs.idxOf r:Nat)+k) else none
 | [],[],_,_,_=>rfl
 | [],_::_,_,h,_=>by simp at h
 | _::_,[],_,h,_=>by simp at h
 | e::L,d::rs,k,h,all=>by
  obtain⟨r1,b,f,g⟩:=all 0 e rfl;simp at b;subst b;have v:=xB (r:=r) (L:=L) (rs:=rs) (k:=k+1) (by simpa using h) λi p o=>by
   obtain⟨j,s,n,u⟩:=all (i+1) p (by simpa using o);exact⟨j,by simpa using s,n,by rw[u];lia⟩
  by_cases c:d=r
  .subst c;rw[PK Qa,List.idxOf_cons_self];unfold fq;rw[af9 (by simpa using f)];show some e.2.2=_;rw[g]
  .have w:¬e.1=enc r:=λz=>c (xy (f.symm.trans z));have t:fq (e::L) (enc r)=fq L (enc r):=by
    unfold fq;rw[Y5 (by simpa using w)]
   rw[t,v]
   by_cases m:r∈rs
   .rw[PK m,PK (Qr _ m),List.idxOf_cons,show(d==r)=false from by simpa using c];simp;lia
   .rw[Pr m,Pr (λz=>by rcases Qe.mp z with z|z;exact c z.symm;exact m z)]
end L2
namespace Bk
open Mx
noncomputable def gU (t:Int)(o:List Int):Bool:=match o with
 | x::_=>decide (x=t)
 | []=>false
theorem lD (h:t'≠t):∀os:ap,rests t' (os.filter λo=>!gU t o)=rests t' os
 | []=>rfl
 | o::os=>by
  have b:=lD h os;unfold rests at b ⊢;cases o with
  | nil=>rw[Y4 rfl,TN,TN,b]
  | cons x o=>
   by_cases c:x=t
   .rw[ß (by simp[gU,c]),b,TN];have:im t' (x::o)=none:=Pr (by rw[c];exact QC h);rw[this]
   .rw[Y4 (by simp[gU,c]),TN,TN,b]
theorem nh (t:Int):∀os:ap,(rests t os).length+(os.filter λo=>!gU t o).length<=os.length
 | []=>P1 _
 | o::os=>by
  have b:=nh t os;unfold rests at b ⊢;cases o with
  | nil=>
   rw[Y4 rfl,TN];have:im t []=none:=rfl;rw[this];simp only[QU];lia
  | cons x o=>
   by_cases c:x=t
   .rw[ß (by simp[gU,c]),TN];have:im t (x::o)=some o:=PK c;rw[this];simp only[QU];lia
   .rw[Y4 (by simp[gU,c]),TN];have:im t (x::o)=none:=Pr c;rw[this];simp only[QU];lia
theorem jd:∀(ts:List Int) (os:ap),ts.Nodup->(ts.map λt=>(rests t os).length).sum<=os.length
 | [],os,_=>RA _
 | t::ts,os,nd=>by
  rw[Tw] at nd;have b:=jd ts (os.filter λo=>!gU t o) nd.2;have e:(ts.map λt'=>(rests t' (os.filter λo=>!gU t o)).length)=ts.map λt'=>(rests t' os).length:=ä λt' h'=>by
   have ne:t'≠t:=by rintro rfl;exact nd.1 h'
   rw[lD ne]
  rw[e] at b;have:=nh t os;rw[QJ,Zn];lia
theorem km:∀(ts:List Int) (rs:List Pn),(∀t∈ts,∀rs,(f (rests t os) rs).2.length<=rs.length+b t)->(aW f os ts rs).2.length<=rs.length+(ts.map b).sum
 | [],rs,_=>by show rs.length<=_;lia
 | t::ts,rs,c=>by
  have d:=km ts (f (rests t os) rs).2 λt' h'=>c t' (Qr _ h');have e:=c t Qa rs;show(aW f os ts (f (rests t os) rs).2).2.length<=_;rw[QJ,Zn];lia
theorem mF (n:Nat)(g:Int->Nat):∀ts:List Int,(ts.map λt=>g t*n).sum=(ts.map g).sum*n
 | []=>by simp
 | t::ts=>by rw[QJ,QJ,Zn,Zn,mF n g ts,Nat.add_mul]
theorem je:∀(n:Nat) (os:ap) (rs:List Pn),os≠[]->(lay n os rs).2.length<=rs.length+os.length*n
 | 0,_,rs,_=>by show rs.length<=_;lia
 | n+1,os,rs,ne=>by
  have d:=km (f:=lay n) (os:=os) (b:=λt=>(rests t os).length*n) (heads os) rs λt g rs=>by
   obtain⟨_,r,c⟩:=bH.mp g;exact je n (rests t os) rs λe=>by
    have:=bj.mpr c;rw[e] at this;cases this
  rw[mF n (λt=>(rests t os).length)] at d;have nd:(heads os).Nodup:=(cV os).imp λh e=>Py h (by rw[e];lia);have o:=ο n (jd (heads os) os nd);have j:=vf (aW (lay n) os (heads os) rs).2 (aW (lay n) os (heads os) rs).1;have m:0<os.length:=Y8.mpr ne;show(keep _ _).2.length<=_;rw[iN];lia
noncomputable def QH (p:Nat)(o:List Int):Int:=(o[p]?).getD 0
noncomputable def lE (p:Nat)(g:List (Int×ap))(o:List Int):List (Int×ap):=
 if QH p o∈g.map (·.1) then g.map (λe=>if e.1=QH p o then (e.1,e.2++[o]) else e) else g++[(QH p o,[o])]
structure XX (p:Nat)(os:ap)(g:List (Int×ap)):Prop where
 nd:(g.map (·.1)).Nodup
 each:∀e∈g,e.2=os.filter λo=>decide (QH p o=e.1)
 all:∀o∈os,QH p o∈g.map (·.1)
 one:∀e∈g,e.2≠[]
theorem XX.nil (p:Nat):XX p [] []:=⟨Zh,(λe h=>nomatch h),(λo h=>nomatch h),(λe h=>nomatch h)⟩
theorem XX.add (G:XX p os g)(o):XX p (os++[o]) (lE p g o):=by
 unfold lE
 by_cases c:QH p o∈g.map (·.1)
 .rw[PK c];have keys:(g.map (λe=>if e.1=QH p o then (e.1,e.2++[o]) else e)).map (·.1)=g.map (·.1):=by
   rw[Yi];refine ä λe _=>?_;show(if e.1=QH p o then (e.1,e.2++[o]) else e).1=e.1
   split <;> rfl
  refine⟨by rw[keys];exact G.nd,λe d=>?_,λx b=>?_,λe d=>?_⟩
  .obtain⟨f,h0,rfl⟩:=Qs.mp d;rw[Ė]
   by_cases k:f.1=QH p o
   .rw[PK k,G.each f h0];simp[k]
   .rw[Pr k,G.each f h0];simp[QC k]
  .rw[keys];rcases QW.mp b with h|h
   .exact G.all x h
   .rw[Ri.mp h];exact c
  .obtain⟨f,h0,rfl⟩:=Qs.mp d
   by_cases k:f.1=QH p o
   .rw[PK k];simp
   .rw[Pr k];exact G.one f h0
 .rw[Pr c];refine⟨?_,λe d=>?_,λx b=>?_,λe d=>?_⟩
  .rw[UC,Xn];exact⟨G.nd,by simp,λx b y m=>by
    have:y=QH p o:=by simpa using m
    rw[this];rintro rfl;exact c b⟩
  .rw[Ė];rcases QW.mp d with h|h
   .have k:¬QH p o=e.1:=λk=>c (by rw[k];exact Qs.mpr ⟨e,h,rfl⟩);rw[G.each e h];simp[k]
   .rw[Ri.mp h];have:os.filter (λx=>decide (QH p x=QH p o))=[]:=List.filter_eq_nil_iff.mpr λx b j=>c (by
     have:=G.all x b;rw[Wb j] at this;exact this)
    rw[this];simp
  .rw[UC];rcases QW.mp b with h|h
   .exact Ue _ (G.all x h)
   .rw[Ri.mp h];exact Sc _ (by simp)
  .rcases QW.mp d with h|h
   .exact G.one e h
   .rw[Ri.mp h];simp
noncomputable def bV (p:Nat)(os:ap):List (Int×ap):=os.foldl (lE p) []
theorem fF (p:Nat)(os:ap)(o):bV p (os++[o])=lE p (bV p os) o:=by unfold bV;rw[Yc];rfl
theorem qt {α:Type}{P:List α->Prop}(h0:P [])(h1:∀l x,P l->P (l++[x]))(l:List α):P l:=by
 have:∀l:List α,P l.reverse:=λl=>by
  induction l with
  | nil=>exact h0
  | cons x l ih=>rw[List.reverse_cons];exact h1 _ _ ih
 have:=this l.reverse;rw[List.reverse_reverse] at this;exact this
theorem fZ (p:Nat)(os:ap):XX p os (bV p os):=
 qt (P:=λos=>XX p os (bV p os)) (XX.nil p) (λl x b=>by rw[fF];exact b.add x) os
theorem wH (p:Nat)(os:ap):(os.map (QH p)).Pairwise (·<=·)->((bV p os).map (·.1)).Pairwise (· < ·):=by
 refine qt (P:=λos=>(os.map (QH p)).Pairwise (·<=·)->((bV p os).map (·.1)).Pairwise (· < ·)) (λ_=>Yb) (λl x m h=>?_) os;rw[UC,ĝ] at h;obtain⟨f,_,n⟩:=h;rw[fF];unfold lE
 by_cases c:QH p x∈(bV p l).map (·.1)
 .rw[PK c,Yi];have keys:((λe:Int×ap=>e.1)∘λe:Int×ap=>if e.1=QH p x then (e.1,e.2++[x]) else e)=λe=>e.1:=by
   funext e
   show(if e.1=QH p x then (e.1,e.2++[x]) else e).1=e.1
   split <;> rfl
  rw[keys];exact m f
 .rw[Pr c,UC,ĝ];refine⟨m f,by simp,λa j b t=>?_⟩;have s:b=QH p x:=by simpa using t
  subst s;obtain⟨e,d,rfl⟩:=Qs.mp j;have G:=fZ p l;obtain⟨o,g⟩:=Xi _ (G.one e d);rw[G.each e d] at g;obtain⟨v,u⟩:=Sd.mp g;have le:=n (QH p o) (Qs.mpr ⟨o,v,rfl⟩) (QH p x) (by simp);rw[Wb u] at le;have:e.1≠QH p x:=λz=>c (z▸j);lia
theorem rP:∀(ts:List Int) (rs:List Pn),aW f os (ts++[t]) rs=((aW f os ts rs).1++[(t,((f (rests t os) (aW f os ts rs).2).1:Int))],(f (rests t os) (aW f os ts rs).2).2)
 | [],rs=>rfl
 | t'::ts,rs=>by
  show((t',_)::(aW f os (ts++[t]) _).1,(aW f os (ts++[t]) _).2)=_;rw[rP ts];rfl
theorem gz (h:p<o.length):o.drop p=QH p o::o.drop (p+1):=by
 rw[List.drop_eq_getElem_cons h];unfold QH;rw[Q5 h];rfl
theorem ni:∀{os:ap},(∀o∈os,p<o.length)->(os.filter λo=>decide (QH p o=t)).map (SR (p+1))=rests t (os.map (SR p))
 | [],_=>rfl
 | o::os,h=>by
  have b:=ni (t:=t) (os:=os) λe h'=>h e (Qr _ h');have d:=h o Qa;unfold rests at b ⊢;rw[QJ,TN,gz d]
  by_cases c:QH p o=t
  .rw[Y4 (by simpa using c),QJ,b];have:im t (QH p o::o.drop (p+1))=some (o.drop (p+1)):=PK c;rw[this]
  .rw[ß (by simpa using c),b];have:im t (QH p o::o.drop (p+1))=none:=Pr c;rw[this]
theorem xF:∀{a b:List Int},a.Pairwise (· < ·)->b.Pairwise (· < ·)->(∀x,x∈a↔x∈b)->a=b
 | [],[],_,_,_=>rfl
 | [],y::b,_,_,h=>Py ((h y).mpr Qa) (λz=>nomatch z)
 | x::a,[],_,_,h=>Py ((h x).mp Qa) (λz=>nomatch z)
 | x::a,y::b,c,d,h=>by
  rw[χ] at c d;have e:x=y:=by
   have h1:=(h x).mp Qa;have h2:=(h y).mpr Qa;rcases Qe.mp h1 with h1|h1
   .exact h1
   rcases Qe.mp h2 with h2|h2
   .exact h2.symm
   have:=d.1 x h1;have:=c.1 y h2;lia
  subst e;rw[xF c.2 d.2 λz=>⟨λhz=>by
   rcases Qe.mp ((h z).mp (Qr _ hz)) with e|e
   .have:=c.1 z hz;lia
   .exact e,λhz=>by
   rcases Qe.mp ((h z).mpr (Qr _ hz)) with e|e
   .have:=d.1 z hz;lia
   .exact e⟩]
structure Xy (p n:Nat)(os:ap):Prop where
 ne:os≠[]
 len:∀o∈os,o.length=p+n
 things:∀o∈os,∀x∈o,0<=x/\x<8
 rise:os.Pairwise λa b=>¬lt (b.drop p) (a.drop p)
theorem Xy.agZ (ok:Xy p (n+1) os):(os.map (QH p)).Pairwise (·<=·):=by
 rw[Wc];refine ok.rise.imp_of_mem λ{a b} c d h=>?_;have f:=ok.len a c;have e:=ok.len b d;rw[gz (show p<a.length by lia),gz (show p<b.length by lia)] at h;refine Int.not_lt.mp λz=>h ?_;exact .inl z
theorem Xy.keys (ok:Xy p (n+1) os):(bV p os).map (·.1)=heads (os.map (SR p)):=by
 refine xF (wH p os ok.agZ) (cV _) λt=>?_;have G:=fZ p os;rw[bH];constructor
 .intro h;obtain⟨e,g,rfl⟩:=Qs.mp h;obtain⟨o,b⟩:=Xi _ (G.one e g);rw[G.each e g] at b;obtain⟨d,m⟩:=Sd.mp b;have lo:=ok.len o d;have f:=gz (show p<o.length by lia);have c:QH p o=e.1:=Wb m;rw[c] at f;have mem:e.1∈o:=List.mem_of_mem_drop (i:=p) (by rw[f];exact Qa);exact⟨ok.things o d _ mem,o.drop (p+1),Qs.mpr ⟨o,d,f⟩⟩
 .rintro⟨_,r,j⟩;obtain⟨o,b,e⟩:=Qs.mp j;have lo:=ok.len o b;rw[gz (show p<o.length by lia)] at e;have c:QH p o=t:=(agD e).1;rw[<-c];exact G.all o b
theorem Xy.group (ok:Xy p (n+1) os)(he:e∈bV p os):Xy (p+1) n e.2/\e.2.map (SR (p+1))=rests e.1 (os.map (SR p))/\e.2.length<=os.length:=by
 have G:=fZ p os;have d:=G.each e he;have sub:∀o∈e.2,o∈os/\QH p o=e.1:=λo c=>by
  rw[d] at c;obtain⟨j,m⟩:=Sd.mp c;exact⟨j,Wb m⟩
 refine⟨⟨G.one e he,λo c=>by have:=ok.len o (sub o c).1;lia,λo c=>ok.things o (sub o c).1,?_⟩,?_,?_⟩
 .have r1:e.2.Pairwise λa b=>¬lt (b.drop p) (a.drop p):=by rw[d];exact ok.rise.sublist (Y9)
  refine r1.imp_of_mem λ{a b} f g h=>?_;have t:=ok.len a (sub a f).1;have s:=ok.len b (sub b g).1;rw[gz (show p<a.length by lia),gz (show p<b.length by lia),(sub a f).2,(sub b g).2] at h;exact λz=>h (.inr ⟨rfl,z⟩)
 .rw[d];exact ni λo c=>by have:=ok.len o c;lia
 .rw[d];exact VI _ _
theorem nj (b:Int->Nat):∀(ts:List Int) (i:Nat),((ts.take i).map b).sum<=(ts.map b).sum
 | [],i=>by simp
 | t::ts,0=>RA _
 | t::ts,i+1=>by
  have:=nj b ts i;rw[ſ,QJ,QJ,Zn,Zn];lia
theorem yW (h:(heads os)[i]?=some t):
  (aW (lay n) os ((heads os).take i) rs).2.length+(rests t os).length*n<=rs.length+os.length*n/\(aW (lay n) os ((heads os).take i) rs).2.length<=rs.length+os.length*n:=by
 have nd:(heads os).Nodup:=(cV os).imp λh e=>Py h (by rw[e];lia);have m:=km (f:=lay n) (os:=os) (b:=λt=>(rests t os).length*n) ((heads os).take i) rs λt g rs=>by
  obtain⟨_,r,d⟩:=bH.mp (Ÿ g);exact je n (rests t os) rs λe=>by
   have:=bj.mpr d;rw[e] at this;cases this
 have c:=nj (λt=>(rests t os).length*n) (heads os) (i+1);rw[Xm,h,ê,UC,List.sum_append] at c;simp only[QJ,å,Zn,List.sum_nil] at c;have j:((heads os).map λt=>(rests t os).length*n).sum<=os.length*n:=by
  rw[mF n (λt=>(rests t os).length)];exact ο n (jd (heads os) os nd)
 lia
theorem wI:(aW (lay n) os (heads os) rs).2.length<=rs.length+os.length*n:=by
 have nd:(heads os).Nodup:=(cV os).imp λh e=>Py h (by rw[e];lia);have j:=km (f:=lay n) (os:=os) (b:=λt=>(rests t os).length*n) (heads os) rs λt d rs=>by
  obtain⟨_,r,c⟩:=bH.mp d;exact je n (rests t os) rs λe=>by
   have:=bj.mpr c;rw[e] at this;cases this
 have g:((heads os).map λt=>(rests t os).length*n).sum<=os.length*n:=by
  rw[mF n (λt=>(rests t os).length)];exact ο n (jd (heads os) os nd)
 lia
theorem gA (rs)(r):rs <+: (keep rs r).2:=let ⟨_,_,_,_,h⟩:=fV rs r;h
theorem xH {a b:List Pn}(h:a <+: b)(hr:r∈a):b.idxOf r=a.idxOf r:=by
 obtain⟨c,rfl⟩:=h;rw[Ŵ,PK hr]
theorem yZ (h:(keep rs r).2 <+: PP):keep PP r=((keep rs r).1,PP):=by
 unfold keep at h ⊢
 by_cases m:r∈rs
 .rw[PK m] at h ⊢;have b:r∈PP:=h.subset m;rw[PK b,xH h m]
 .rw[Pr m] at h ⊢;have c:r∈rs++[r]:=by simp
  have b:r∈PP:=h.subset c;rw[PK b,xH h c,Ŵ,Pr m];simp
theorem nU (hf:∀os rs,rs <+: (f os rs).2):∀ts rs,rs <+: (aW f os ts rs).2
 | [],_=>Th
 | t::ts,rs=>(hf _ rs).trans (nU hf ts _)
theorem xI:∀(n:Nat) (os:ap) (rs:List Pn),rs <+: (lay n os rs).2
 | 0,_,_=>Th
 | n+1,os,rs=>(nU (xI n) (heads os) rs).trans (gA _ _)
theorem o7 (hp:∀os rs,rs <+: (f os rs).2)(hf:∀os rs PP,(f os rs).2 <+: PP->f os PP=((f os rs).1,PP)):
  ∀ts rs PP,(aW f os ts rs).2 <+: PP->aW f os ts PP=((aW f os ts rs).1,PP)
 | [],_,_,_=>rfl
 | t::ts,rs,PP,h=>by
  have b:(aW f os ts (f (rests t os) rs).2).2 <+: PP:=h;have d:=hf (rests t os) rs PP ((nU hp ts _).trans b);have c:=o7 hp hf ts _ _ b;unfold aW;rw[d];dsimp only;rw[c]
theorem lH:∀(n:Nat) (os:ap) (rs PP:List Pn),(lay n os rs).2 <+: PP->lay n os PP=((lay n os rs).1,PP)
 | 0,_,_,_,_=>rfl
 | n+1,os,rs,PP,h=>by
  have b:(keep (aW (lay n) os (heads os) rs).2 (aW (lay n) os (heads os) rs).1).2 <+: PP:=h;have e:=o7 (xI n) (lH n) (heads os) rs PP ((gA _ _).trans b);unfold lay;rw[e];exact yZ b
theorem Fz:∀(n:Nat) (os:ap) (rs:List Pn),1<=(lay n os rs).1
 | 0,_,_=>P1 _
 | n+1,os,rs=>by
  obtain⟨i,h,_⟩:=fV (aW (lay n) os (heads os) rs).2 (aW (lay n) os (heads os) rs).1;show 1<=(keep _ _).1;lia
section
variable {S:Type} [DecidableEq S]
noncomputable def cw (kn:List (S×Nat))(s:S):Option Nat:=(kn.find? λe=>decide (e.1=s)).map (·.2)
theorem Dd {a b:List (S×Nat)}(h:a <+: b)(e:cw a s=some k):cw b s=some k:=by
 obtain⟨c,rfl⟩:=h;unfold cw at e ⊢;rw[Ę];cases q:a.find? λe=>decide (e.1=s) with
 | none=>rw[q] at e;cases e
 | some x=>rw[q] at e;exact e
theorem A0 {a:List (S×Nat)}(e:cw (a++[(s,k)]) s'=some k'):cw a s'=some k'\/(cw a s'=none/\s'=s/\k'=k):=by
 unfold cw at e ⊢;rw[Ę] at e;cases q:a.find? λe=>decide (e.1=s') with
 | some x=>rw[q] at e;exact .inl e
 | none=>
  rw[q] at e
  by_cases z:s=s'
  .subst z;simp at e;exact .inr ⟨rfl,rfl,e.symm⟩
  .simp[z] at e
theorem nV {a:List (S×Nat)}(h:cw a s=none):cw (a++[(s,k)]) s=some k:=by
 unfold cw at h ⊢;rw[Ę];cases q:a.find? λe=>decide (e.1=s) with
 | some x=>rw[q] at h;cases h
 | none=>simp
theorem rS {a b:List (S×Nat)}(h:cw a s=none)(hb:∀e∈b,e.1≠s):cw (a++b) s=none:=by
 unfold cw at h ⊢;rw[Ę];cases q:a.find? λe=>decide (e.1=s) with
 | some x=>rw[q] at h;cases h
 | none=>
  have:b.find? (λe=>decide (e.1=s))=none:=à.mpr λe c=>by simpa using hb e c
  rw[this];rfl
abbrev GP (S:Type):=List Pn×List (S×Nat)
noncomputable def aB (g:S->GP S->Nat×GP S):List (Int×S)->GP S->Pn×GP S
 | [],p=>([],p)
 | d::ds,p=>(if (g d.2 p).1=0 then (aB g ds (g d.2 p).2).1 else (d.1,((g d.2 p).1:Int))::(aB g ds (g d.2 p).2).1,(aB g ds (g d.2 p).2).2)
noncomputable def aM (PB:S->List (Int×S)):Nat->S->GP S->Nat×GP S
 | 0,s,p=>((cw p.2 s).getD 0,p)
 | n+1,s,p=>match cw p.2 s with
  | some k=>(k,p)
  | none=>if (aB (aM PB n) (PB s) p).1=[] then (0,((aB (aM PB n) (PB s) p).2.1,(aB (aM PB n) (PB s) p).2.2++[(s,0)]))
   else ((keep (aB (aM PB n) (PB s) p).2.1 (aB (aM PB n) (PB s) p).1).1,
    ((keep (aB (aM PB n) (PB s) p).2.1 (aB (aM PB n) (PB s) p).1).2,(aB (aM PB n) (PB s) p).2.2++[(s,(keep (aB (aM PB n) (PB s) p).2.1 (aB (aM PB n) (PB s) p).1).1)]))
structure Way (PB:S->List (Int×S))(os:S->ap)(QL:S->Nat)(tm good:S->Prop):Prop where
 pos:∀s,good s->¬tm s->1<=QL s
 len:∀s,good s->¬tm s->∀o∈os s,o.length=QL s
 down:∀s,good s->¬tm s->∀d∈PB s,good d.2/\(tm d.2\/QL d.2+1=QL s)
 rise:∀s,good s->¬tm s->((PB s).map (·.1)).Pairwise (· < ·)
 bnd:∀s,good s->¬tm s->∀d∈PB s,0<=d.1/\d.1<8
 rest:∀s,good s->¬tm s->∀d∈PB s,fN (rests d.1 (os s)) (os d.2)
 all:∀s,good s->¬tm s->∀t r,t::r∈os s->∃s',(t,s')∈PB s
structure UJ (os:S->ap)(tm good:S->Prop)(rs)(kn):Prop where
 ends:∀s,good s->tm s->(cw kn s).isSome=true
 so:∀s k,cw kn s=some k->(os s=[]/\k=0)\/(os s≠[]/\∀n,(∀o∈os s,o.length=n)->lay n (os s) rs=(k,rs))
theorem UJ.more {os:S->ap}(M:UJ os tm good rs kn)(h:rs <+: PP):UJ os tm good PP kn:=
 ⟨M.ends,λs k e=>(M.so s k e).imp id λ⟨b,c⟩=>⟨b,λn d=>by
  have:=c n d;have q:=lH n (os s) rs PP (by rw[this];exact h);rw[q,this]⟩⟩
structure ķ (os:S->ap)(QL:S->Nat)(tm good:S->Prop)(top:Nat)(p:GP S)(q:GP S):Prop where
 pre:p.1 <+: q.1
 memo:UJ os tm good q.1 q.2
 add:∃more,q.2=p.2++more/\∀e∈more,¬tm e.1/\QL e.1<=top/\good e.1
structure On (os:S->ap)(s:S)(p:GP S)(r:Nat×GP S):Prop where
 val:cw r.2.2 s=some r.1
 Qb:os s=[]->r.1=0/\r.2.1=p.1
 some:os s≠[]->∀n,(∀o∈os s,o.length=n)->lay n (os s) p.1=(r.1,r.2.1)
theorem vj (h:fN a b):a=[]↔b=[]:=by
 constructor
 .intro e;subst e;exact Ĕ.mpr λo c=>Py ((h o).mpr c) (by simp)
 .intro e;subst e;exact Ĕ.mpr λo c=>Py ((h o).mp c) (by simp)
theorem nW (W:Way PB os QL tm good)(hs:good s)(ht:¬tm s)(hm:QL s=m+1)(hg:∀d∈PB s,∀p:GP S,UJ os tm good p.1 p.2->ķ os QL tm good m p (g d.2 p).2/\On os d.2 p (g d.2 p)):
  ∀(ds:List (Int×S)) (p:GP S),(∀d∈ds,d∈PB s)->UJ os tm good p.1 p.2->ķ os QL tm good m p (aB g ds p).2/\
   ((aB g ds p).1,(aB g ds p).2.1)=aW (lay m) (os s) ((ds.filter λd=>!(os d.2).isEmpty).map (·.1)) p.1
 | [],p,_,M=>⟨⟨Th,M,[],by simp[aB],λe b=>nomatch b⟩,rfl⟩
 | d::ds,p,hd,M=>by
  obtain⟨h,n⟩:=hg d (hd d Qa) p M;obtain⟨c,j⟩:=nW W hs ht hm hg ds (g d.2 p).2 (λd' h'=>hd d' (Qr _ h')) h.memo;have t:=W.rest s hs ht d (hd d Qa);refine⟨⟨h.pre.trans c.pre,c.memo,?_⟩,?_⟩
  .obtain⟨y,C,F⟩:=h.add;obtain⟨u,x,v⟩:=c.add;refine⟨y++u,?_,λe b=>(QW.mp b).elim (F e) (v e)⟩;show(aB g ds (g d.2 p).2).2.2=_;rw[x,C,Y']
  .unfold aB
   by_cases z:os d.2=[]
   .obtain⟨k0,w⟩:=n.Qb z;have f:(d::ds).filter (λd=>!(os d.2).isEmpty)=ds.filter λd=>!(os d.2).isEmpty:=by
     rw[ė,Pr (by simp[z])]
    rw[f,PK k0];dsimp only;rw[j,w]
   .have f:(d::ds).filter (λd=>!(os d.2).isEmpty)=d::ds.filter λd=>!(os d.2).isEmpty:=by
     rw[ė,PK (by simp[z])]
    have E:∀o∈os d.2,o.length=m:=λo A=>by
     have:=W.len s hs ht _ (bj.mp ((t o).mpr A));rw[hm,QU] at this;lia
    have L:=n.some z m E;have D:lay m (rests d.1 (os s)) p.1=((g d.2 p).1,(g d.2 p).2.1):=by rw[j9 m p.1 t];exact L
    have pos:=Fz m (os d.2) p.1;rw[L] at pos;have pos:1<=(g d.2 p).1:=pos;rw[f,Pr (by lia),QJ];unfold aW;rw[D];dsimp only;rw[<-j]
theorem A4 {PB:S->List (Int×S)}(W:Way PB os QL tm good)(hs:good s)(ht:¬tm s):heads (os s)=((PB s).filter λd=>!(os d.2).isEmpty).map (·.1):=by
 have rise:∀{a b:List Int},a.Pairwise (· < ·)->b.Pairwise (· < ·)->(∀x,x∈a↔x∈b)->a=b:=by
  intro a b j c h;have nd:∀{l:List Int},l.Pairwise (· < ·)->l.Nodup:=λh=>h.imp λh e=>by lia
  have p:a.Perm b:=(ż (nd j) (nd c)).mpr h;exact p.eq_of_pairwise (le:=(· < ·)) (λx y _ _ m n=>by lia) j c
 refine rise (cV _) ?_ λt=>?_
 .exact(W.rise s hs ht).sublist (Y9.map _)
 .rw[bH,Qs];constructor
  .rintro⟨c,r,f⟩;obtain⟨g,h'⟩:=W.all s hs ht t r f;refine⟨(t,g),Sd.mpr ⟨h',?_⟩,rfl⟩;have:=(W.rest s hs ht _ h' r).mp (bj.mpr f);cases e:os g with
   | nil=>rw[e] at this;cases this
   | cons a b=>simp[e]
  .rintro⟨d,hd,rfl⟩;obtain⟨hd,ne⟩:=Sd.mp hd;refine⟨W.bnd s hs ht d hd,?_⟩;cases e:os d.2 with
   | nil=>rw[e] at ne;cases ne
   | cons r l=>exact⟨r,bj.mp ((W.rest s hs ht d hd r).mpr (by rw[e];exact Qa))⟩
theorem xJ (W:Way PB os QL tm good):∀(n:Nat) (s:S) (p:GP S) (top:Nat),good s->(tm s\/QL s<=n)->(tm s\/QL s<=top)->UJ os tm good p.1 p.2->ķ os QL tm good top p (aM PB n s p).2/\On os s p (aM PB n s p):=by
 have known:∀{s:S}{p:GP S}{k:Nat}{n:Nat},UJ os tm good p.1 p.2->cw p.2 s=some k->ķ os QL tm good n p p/\On os s p (k,p):=λ{s p k n} M e=>
  ⟨⟨Th,M,[],by simp,λe he=>nomatch he⟩,⟨e,λz=>⟨((M.so s k e).resolve_right λq=>q.1 z).2,rfl⟩,λz n hn=>((M.so s k e).resolve_left λq=>z q.1).2 n hn⟩⟩
 intro n
 induction n with
 | zero=>
  intro s p top c T _ M;have b:tm s:=T.elim id λh=>US λb=>by have:=W.pos s c b;lia
  obtain⟨k,e⟩:=V9.mp (M.ends s c b);have r:=known (n:=top) M e;unfold aM;rw[e];exact r
 | succ n X=>
  intro s p top c T Uq M;unfold aM;cases e:cw p.2 s with
  | some k=>exact known M e
  | none=>
   have b:¬tm s:=λb=>by
    have:=M.ends s c b;rw[e] at this;cases this
   have hle:QL s<=n+1:=T.resolve_left b;have Y:QL s<=top:=Uq.resolve_left b;have Vs:=W.pos s c b;obtain⟨m,hm⟩:∃m,QL s=m+1:=⟨QL s-1,by lia⟩
   obtain⟨G,J⟩:=nW W c b hm (g:=aM PB n) (λd hd p M=>by
    obtain⟨g',l'⟩:=W.down s c b d hd;exact X d.2 p m g' (l'.imp id λh=>by lia) (l'.imp id λh=>by lia) M) (PB s) p (λd hd=>hd) M
   rw[<-A4 W c b] at J;dsimp only;generalize aB (aM PB n) (PB s) p=q at G J ⊢;obtain⟨ds,w,u⟩:=q;dsimp only at G J ⊢;have A:ds=(aW (lay m) (os s) (heads (os s)) p.1).1:=congrArg (·.1) J;have D:w=(aW (lay m) (os s) (heads (os s)) p.1).2:=congrArg (·.2) J;obtain⟨more,U,R⟩:=G.add;dsimp only at U;have kn:cw u s=none:=by
    rw[U];exact rS e λx C z=>by
     have:=(R x C).2.1;rw[z] at this;lia
   have I:∀k,∃mo,u++[(s,k)]=p.2++mo/\∀x∈mo,¬tm x.1/\QL x.1<=top/\good x.1:=λk=>
    ⟨more++[(s,k)],by rw[U,Y'],λx C=>(QW.mp C).elim (λh=>⟨(R x h).1,by have:=(R x h).2.1;lia,(R x h).2.2⟩) λh=>by
     obtain rfl:x=(s,k):=by simpa using h
     exact⟨b,Y,c⟩⟩
   have y:∀(k:Nat) (N:List Pn),w <+: N->((os s=[]/\k=0)\/(os s≠[]/\∀n,(∀o∈os s,o.length=n)->lay n (os s) N=(k,N)))->UJ os tm good N (u++[(s,k)]):=λk N hp so=>by
    have M2:=G.memo.more hp;refine⟨λx C tx=>?_,λx kx ex=>?_⟩
    .obtain⟨k',e'⟩:=V9.mp (M2.ends x C tx);rw[Dd (ψ _ _) e'];rfl
    .rcases A0 ex with h|⟨_,rfl,rfl⟩
     .exact M2.so x kx h
     .exact so
   have F:ds=[]↔os s=[]:=by
    have Q:ds.length=(heads (os s)).length:=by
     rw[A];generalize heads (os s)=ts;generalize p.1=rs
     induction ts generalizing rs with
     | nil=>rfl
     | cons t ts X=>unfold aW;simp[X]
    constructor
    .intro z;rw[z] at Q;have O:heads (os s)=[]:=VH.mp Q.symm;refine Ĕ.mpr λo E=>?_;have f:=W.len s c b o E
     match o,E,f with
     | [],_,f=>rw[hm] at f;simp at f
     | t::r,E,_=>
      obtain⟨s',h'⟩:=W.all s c b t r E;have:t∈heads (os s):=bH.mpr ⟨W.bnd s c b _ h',r,E⟩;rw[O] at this;cases this
    .intro z;have O:heads (os s)=[]:=Ĕ.mpr λt WI=>by
      obtain⟨_,r,P⟩:=bH.mp WI;rw[z] at P;cases P
     rw[O] at Q;exact VH.mp Q
   by_cases z:ds=[]
   .have j:=F.mp z;have P:w=p.1:=by
     have O:heads (os s)=[]:=by rw[j];decide
     rw[D,O];rfl
    rw[PK z];exact⟨⟨G.pre,y 0 w Th (.inl ⟨j,rfl⟩),I 0⟩,⟨nV kn,λ_=>⟨rfl,P⟩,λh=>Py j h⟩⟩
   .have j:os s≠[]:=λh=>z (F.mpr h);rw[Pr z];have L:∀k,(∀o∈os s,o.length=k)->lay k (os s) p.1=keep w ds:=λk v=>by
     obtain⟨o,l,Z⟩:=Ū j;have h1:=v o (by rw[Z];exact Qa);have h2:=W.len s c b o (by rw[Z];exact Qa);obtain rfl:k=m+1:=by lia
     unfold lay;rw[<-A,<-D]
    refine⟨⟨G.pre.trans (gA _ _),y _ _ (gA _ _) (.inr ⟨j,λk v=>?_⟩),I _⟩,⟨nV kn,λh=>Py h j,λ_ k v=>L k v⟩⟩;have q:=lH k (os s) p.1 (keep w ds).2 (by rw[L k v];exact Th);rw[q,L k v]
end
abbrev Sk:=Sum Int (List Int)
abbrev Cl:=List (Int×Int)
noncomputable def bO (rs:List Pn)(k:Int):ap:=RP rs k.toNat
noncomputable def bq (rs:List Pn)(k:Int):Pn:=if k=0 then [] else bd rs k
noncomputable def eM (cl:Cl)(a b:Int):Sk:=if (a<=1\/b<=1)/\(min a 1,min b 1)∉cl then .inl 0 else if a<=1/\b<=1 then .inl 1 else .inr [a,b]
noncomputable def gL (r1 r2:Pn):List Int:=(bw 8).filter λt=>(r1.map (·.1)).contains t||(r2.map (·.1)).contains t
noncomputable def gp (cl:Cl)(PN PP:List Pn)(a b:Int):List (Int×Sk):=(gL (bq PN a) (bq PP b)).map λt=>(t,eM cl (cb (bq PN a) t) (cb (bq PP b) t))
noncomputable def bit (rs:List Pn)(k:Int)(o:List Int):Int:=if o∈bO rs k then 1 else 0
noncomputable def osP (cl:Cl)(PN PP:List Pn)(a b:Int):ap:=(bO PN a++bO PP b).filter λo=>decide ((bit PN a o,bit PP b o)∈cl)
noncomputable def gB (cl:Cl)(PN PP:List Pn):Sk->List (Int×Sk)
 | .inr [a,b]=>gp cl PN PP a b
 | _=>[]
noncomputable def osJ (cl:Cl)(PN PP:List Pn):Sk->ap
 | .inl k=>if k=1 then [[]] else []
 | .inr [a,b]=>osP cl PN PP a b
 | _=>[]
noncomputable def vm (PN PP:List Pn):Sk->Nat
 | .inr [a,b]=>((bO PN a++bO PP b).headD []).length
 | _=>0
def SM:Sk->Prop
 | .inl _=>True
 | _=>False
def Rn (rs:List Pn)(k:Int):Prop:=k=0\/(1<=k/\k<(rs.length:Int)+2)
structure Pg (PN PP)(a b:Int)(n:Nat):Prop where
 ra:Rn PN a
 rb:Rn PP b
 la:∀o∈bO PN a,o.length=n
 lb:∀o∈bO PP b,o.length=n
def mI (PN PP:List Pn):Sk->Prop
 | .inl k=>k=0\/k=1
 | .inr [a,b]=>a≠1/\b≠1/\¬(a=0/\b=0)/\∃n,Pg PN PP a b (n+1)
 | _=>False
theorem eX (rs):bO rs 0=[]:=uR rs
theorem ko (rs):bO rs 1=[[]]:=jL rs
theorem jO (wf:WF rs)(h:1<=k)(hk:k<(rs.length:Int)+2):bO rs k≠[]:=uV wf k.toNat k.toNat (P1 _) (by lia) (by lia)
theorem y7 (t:Int):cb [] t=0:=rfl
theorem mJ (wf:WF rs)(h:2<=k)(hk:k<(rs.length:Int)+2):Pn.Ok (k.toNat-2) (bd rs k)/\bO rs k=(bd rs k).flatMap λd=>(bO rs d.2).map (d.1::·):=by
 obtain⟨r,e,ok,es⟩:=oV wf (k:=k.toNat) (by lia) (by lia);have b:bd rs k=r:=by
  have:=rJ e (by lia);rwa[show((k.toNat:Nat):Int)=k by lia] at this
 rw[b];exact⟨ok,es⟩
theorem kq (ok:((bd rs k).map (·.1)).Pairwise (· < ·)):(cb (bd rs k) t=m/\(∃d∈bd rs k,d.1=t))↔(t,m)∈bd rs k:=by
 constructor
 .rintro⟨h,d,hd,rfl⟩;unfold cb at h;rw[lz ok hd] at h;dsimp only at h;subst h;exact hd
 .intro h;refine⟨?_,_,h,rfl⟩;unfold cb;rw[lz ok h]
theorem jt (h:∀d∈r,d.1≠t):cb r t=0:=by
 unfold cb;rw[à.mpr λd hd=>by simpa using h d hd]
theorem iX (wf:WF rs)(hk:Rn rs k)(h1:k≠1):t::r∈bO rs k↔r∈bO rs (cb (bq rs k) t):=by
 unfold bq;rcases hk with rfl|⟨h0,hk⟩
 .rw[PK rfl,y7,eX];simp
 .rw[Pr (by lia)];obtain⟨ok,es⟩:=mJ wf (k:=k) (by lia) hk;rw[es,Uh]
  by_cases hd:∃d∈bd rs k,d.1=t
  .obtain⟨d,hd,rfl⟩:=hd;have f:=((kq ok.rise).mpr hd).1;rw[f];constructor
   .rintro⟨d',c,b⟩;obtain⟨j,g,e⟩:=Qs.mp b;injection e with e1 e2
    subst e2;have:=((kq ok.rise).mpr (show(d.1,d'.2)∈_ by rw[<-e1];exact c)).1;rw[f] at this;rw[this];exact g
   .intro m;exact⟨d,hd,Qs.mpr ⟨r,m,rfl⟩⟩
  .rw[jt (λd h e=>hd ⟨d,h,e⟩),eX];constructor
   .rintro⟨d',c,b⟩;obtain⟨j,g,e⟩:=Qs.mp b;injection e with e1 e2
    exact Py ⟨d',c,e1⟩ hd
   .intro h;cases h
theorem rT (wf:WF rs)(hk:Rn rs k)(h1:k≠1):Rn rs (cb (bq rs k) t):=by
 unfold bq;rcases hk with rfl|⟨h0,hk⟩
 .exact .inl rfl
 .rw[Pr (by lia)];obtain⟨ok,_⟩:=mJ wf (k:=k) (by lia) hk
  by_cases hd:∃d∈bd rs k,d.1=t
  .obtain⟨d,hd,rfl⟩:=hd;rw[((kq ok.rise).mpr hd).1];have:=ok.ahead d hd;exact .inr ⟨this.1,by lia⟩
  .exact .inl (jt λd h e=>hd ⟨d,h,e⟩)
theorem iC (c0:(0,0)∉cl):o∈osP cl PN PP a b↔(bit PN a o,bit PP b o)∈cl:=by
 unfold osP;rw[Sd,QW];constructor
 .intro h;simpa using h.2
 .intro h;refine⟨?_,by simpa using h⟩
  by_cases d:o∈bO PN a
  .exact .inl d
  .by_cases c:o∈bO PP b
   .exact .inr c
   .unfold bit at h;rw[Pr d,Pr c] at h;exact Py h c0
theorem kr (w:WF PP)(hb:Rn PP b)(h:∀o∈bO PP b,o.length=0):b=0\/b=1:=by
 rcases hb with h0|⟨g,f⟩
 .exact .inl h0
 .by_cases hb:b=1
  .exact .inr hb
  .exfalso;obtain⟨ok,es⟩:=mJ w (k:=b) (by lia) f;obtain⟨o,c⟩:=Xi _ (jO w g f);have:=h o c;rw[es] at c;obtain⟨d,_,j⟩:=Uh.mp c;obtain⟨r,_,e⟩:=Qs.mp j;rw[<-e] at this;simp at this
theorem Pg.ends (w1:WF PN)(w2:WF PP)(P:Pg PN PP a b n)(h:a=1\/b=1):n=0/\(a=0\/a=1)/\(b=0\/b=1):=by
 have c:n=0:=by
  rcases h with rfl|rfl
  .exact(P.la [] (by rw[ko];simp)).symm
  .exact(P.lb [] (by rw[ko];simp)).symm
 subst c;exact⟨rfl,kr w1 P.ra P.la,kr w2 P.rb P.lb⟩
theorem mK (w1:WF PN)(w2:WF PP)(c0:(0,0)∉cl)(P:Pg PN PP a b n):
  mI PN PP (eM cl a b)/\fN (osP cl PN PP a b) (osJ cl PN PP (eM cl a b))/\(SM (eM cl a b)\/vm PN PP (eM cl a b)=n):=by
 by_cases both:a<=1/\b<=1
 .have f:a=0\/a=1:=by rcases P.ra with h|h <;> lia
  have hb:b=0\/b=1:=by rcases P.rb with h|h <;> lia
  have C:∀o,bit PN a o=if a=1/\o=[] then 1 else 0:=λo=>by
   unfold bit;rcases f with rfl|rfl
   .rw[eX];simp
   .rw[ko];simp
  have D:∀o,bit PP b o=if b=1/\o=[] then 1 else 0:=λo=>by
   unfold bit;rcases hb with rfl|rfl
   .rw[eX];simp
   .rw[ko];simp
  have A:(min a 1,min b 1)=(a,b):=by rw[Ũ both.1,Ũ both.2]
  have u:∀o,(bit PN a o,bit PP b o)=if o=[] then (a,b) else (0,0):=λo=>by
   rw[C,D]
   by_cases c:o=[]
   .subst c;rcases f with rfl|rfl <;> rcases hb with rfl|rfl <;> rfl
   .simp[c]
  unfold eM;rw[A]
  by_cases d:(a,b)∈cl
  .rw[Pr (λh=>h.2 d),PK both];refine⟨.inr rfl,λo=>?_,.inl trivial⟩;rw[iC c0,u];show _↔o∈[[]]
   by_cases c:o=[]
   .simp[c,d]
   .simp[c,c0]
  .rw[PK ⟨.inl both.1,d⟩];refine⟨.inl rfl,λo=>?_,.inl trivial⟩;rw[iC c0,u];show _↔o∈[]
   by_cases c:o=[]
   .simp[c,d]
   .simp[c,c0]
 .have w:a≠1:=λh=>both (by obtain⟨_,j,p⟩:=P.ends w1 w2 (.inl h);lia);have E:b≠1:=λh=>both (by obtain⟨_,j,p⟩:=P.ends w1 w2 (.inr h);lia);have G:0<=a:=by rcases P.ra with h|h <;> lia
  have u:0<=b:=by rcases P.rb with h|h <;> lia
  have v:∃m,n=m+1:=by
   cases n with
   | succ m=>exact⟨m,rfl⟩
   | zero=>
    have j:=kr w1 P.ra P.la;have p:=kr w2 P.rb P.lb;exact Py ⟨by lia,by lia⟩ both
  obtain⟨m,rfl⟩:=v;unfold eM
  by_cases d:(a<=1\/b<=1)/\(min a 1,min b 1)∉cl
  .rw[PK d];refine⟨.inl rfl,λo=>?_,.inl trivial⟩;rw[iC c0];show _↔o∈[];refine⟨λh=>?_,λh=>by cases h⟩;exfalso;have key:∀x y:Int,(bit PN a o,bit PP b o)=(x,y)->(x,y)∈cl:=λx y e=>by rw[<-e];exact h
   rcases d.1 with f|hb
   .have f:a=0:=by lia
    subst f;have g:bit PN 0 o=0:=by unfold bit;rw[eX];simp
    have s:min b 1=1:=ũ (by lia);have t:min (0:Int) 1=0:=rfl;rw[s,t] at d
    by_cases c:o∈bO PP b
    .exact d.2 (key 0 1 (by rw[g];unfold bit;rw[PK c]))
    .exact c0 (key 0 0 (by rw[g];unfold bit;rw[Pr c]))
   .have hb:b=0:=by lia
    subst hb;have g:bit PP 0 o=0:=by unfold bit;rw[eX];simp
    have s:min a 1=1:=ũ (by lia);have t:min (0:Int) 1=0:=rfl;rw[s,t] at d
    by_cases c:o∈bO PN a
    .exact d.2 (key 1 0 (by rw[g];unfold bit;rw[PK c]))
    .exact c0 (key 0 0 (by rw[g];unfold bit;rw[Pr c]))
  .rw[Pr d,Pr both];refine⟨⟨w,E,λh=>both (by lia),m,P⟩,λo=>Iff.rfl,.inr ?_⟩;show((bO PN a++bO PP b).headD []).length=m+1;have ne:bO PN a++bO PP b≠[]:=λe=>by
    obtain⟨j,p⟩:=aga.mp e;have I:a=0:=US λz=>jO w1 (k:=a) (by lia) (P.ra.resolve_left z).2 j;have F:b=0:=US λz=>jO w2 (k:=b) (by lia) (P.rb.resolve_left z).2 p;exact both (by lia)
   obtain⟨o,l,e⟩:=Ū ne;have c:o∈bO PN a++bO PP b:=by rw[e];exact Qa
   rw[e];exact(QW.mp c).elim (P.la o) (P.lb o)
theorem lI:t∈gL r1 r2↔(0<=t/\t<8)/\((∃d∈r1,d.1=t)\/(∃d∈r2,d.1=t)):=by
 unfold gL;rw[Sd,dZ];simp
theorem o8 (r1 r2):(gL r1 r2).Pairwise (· < ·):=by
 have:(bw 8).Pairwise (· < ·):=by decide
 exact this.sublist Y9
def o9 (rs:List Pn):Prop:=∀r∈rs,∀d∈r,0<=d.1/\d.1<8
theorem vn (h:o9 rs)(hd:d∈bq rs k):0<=d.1/\d.1<8:=by
 unfold bq at hd
 split at hd
 .cases hd
 .unfold bd at hd;cases e:rs[(k-2).toNat]? with
  | none=>rw[e] at hd;cases hd
  | some r=>rw[e] at hd;exact h r (Q6 e) d hd
theorem pc (wf:WF rs)(hk:Rn rs k)(h1:k≠1)(h:t::r∈bO rs k):∃d∈bq rs k,d.1=t:=by
 rw[iX wf hk h1] at h;refine US λb=>?_;rw[jt (λd hd e=>b ⟨d,hd,e⟩),eX] at h;cases h
theorem ku (w1:WF PN)(w2:WF PP)(s1:o9 PN)(s2:o9 PP)(c0:(0,0)∉cl):Way (gB cl PN PP) (osJ cl PN PP) (vm PN PP) SM (mI PN PP):=by
 have cases:∀s,mI PN PP s->¬SM s->∃a b n,s=.inr [a,b]/\a≠1/\b≠1/\¬(a=0/\b=0)/\Pg PN PP a b (n+1):=by
  intro s m c
  match s,m,c with
  | .inl k,_,c=>exact Py trivial c
  | .inr [a,b],⟨f,j,p,n,P⟩,_=>exact⟨a,b,n,rfl,f,j,p,P⟩
 have v:∀{a b:Int}{n:Nat},¬(a=0/\b=0)->Pg PN PP a b (n+1)->vm PN PP (.inr [a,b])=n+1:=by
  intro a b n p P;show((bO PN a++bO PP b).headD []).length=n+1;have ne:bO PN a++bO PP b≠[]:=λe=>by
   obtain⟨f,j⟩:=aga.mp e;have C:a=0:=US λz=>jO w1 (k:=a) (by have:=P.ra.resolve_left z;lia) (P.ra.resolve_left z).2 f;have A:b=0:=US λz=>jO w2 (k:=b) (by have:=P.rb.resolve_left z;lia) (P.rb.resolve_left z).2 j;exact p ⟨C,A⟩
  obtain⟨o,l,e⟩:=Ū ne;have u:o∈bO PN a++bO PP b:=by rw[e];exact Qa
  rw[e];exact(QW.mp u).elim (P.la o) (P.lb o)
 have next:∀{a b:Int}{n:Nat}(t:Int),a≠1->b≠1->Pg PN PP a b (n+1)->Pg PN PP (cb (bq PN a) t) (cb (bq PP b) t) n:=λ{a b n} t f j P=>
  ⟨rT w1 P.ra f,rT w2 P.rb j,λo u=>by have:=P.la _ ((iX w1 P.ra f).mpr u);simpa using this,λo u=>by have:=P.lb _ ((iX w2 P.rb j).mpr u);simpa using this⟩
 refine⟨λs m c=>?_,λs m c o u=>?_,λs m c d hd=>?_,λs m c=>?_,λs m c d hd=>?_,λs m c d hd=>?_,λs m c t r y=>?_⟩
 .obtain⟨a,b,n,rfl,f,j,p,P⟩:=cases s m c;rw[v p P];lia
 .obtain⟨a,b,n,rfl,f,j,p,P⟩:=cases s m c;rw[v p P];exact(QW.mp (Sd.mp u).1).elim (P.la o) (P.lb o)
 .obtain⟨a,b,n,rfl,f,j,p,P⟩:=cases s m c;obtain⟨t,_,rfl⟩:=Qs.mp hd;obtain⟨g,_,l⟩:=mK w1 w2 c0 (next t f j P);exact⟨g,l.imp id λe=>by rw[v p P,e]⟩
 .obtain⟨a,b,n,rfl,f,j,p,P⟩:=cases s m c;show((gp cl PN PP a b).map (·.1)).Pairwise (· < ·);unfold gp;rw[Yi];have:((λx:Int×Sk=>x.1)∘λt=>(t,eM cl (cb (bq PN a) t) (cb (bq PP b) t)))=id:=rfl;rw[this,List.map_id];exact o8 _ _
 .obtain⟨a,b,n,rfl,f,j,p,P⟩:=cases s m c;obtain⟨t,c,rfl⟩:=Qs.mp hd;exact(lI.mp c).1
 .obtain⟨a,b,n,rfl,f,j,p,P⟩:=cases s m c;obtain⟨t,c,rfl⟩:=Qs.mp hd;obtain⟨_,l,_⟩:=mK w1 w2 c0 (next t f j P);intro r;rw[<-l r,bj];show t::r∈osP cl PN PP a b↔_;rw[iC c0,iC c0];have D:bit PN a (t::r)=bit PN (cb (bq PN a) t) r:=by unfold bit;simp only[iX w1 P.ra f]
  have w:bit PP b (t::r)=bit PP (cb (bq PP b) t) r:=by unfold bit;simp only[iX w2 P.rb j]
  rw[D,w]
 .obtain⟨a,b,n,rfl,f,j,p,P⟩:=cases s m c;have key:t∈gL (bq PN a) (bq PP b):=by
   rw[lI];rcases QW.mp ((Sd.mp y).1) with h|h
   .have k:=pc w1 P.ra f h;obtain⟨d,hd,rfl⟩:=k;exact⟨vn s1 hd,.inl ⟨d,hd,rfl⟩⟩
   .have k:=pc w2 P.rb j h;obtain⟨d,hd,rfl⟩:=k;exact⟨vn s2 hd,.inr ⟨d,hd,rfl⟩⟩
  exact⟨_,Qs.mpr ⟨t,key,rfl⟩⟩
section
variable {S:Type} [DecidableEq S] {PB:S->List (Int×S)}
theorem jh {g:S->GP S->Nat×GP S}(hg:∀s p,p.1 <+: (g s p).2.1/\p.2 <+: (g s p).2.2):∀ds p,p.1 <+: (aB g ds p).2.1/\p.2 <+: (aB g ds p).2.2
 | [],_=>⟨Th,Th⟩
 | d::ds,p=>⟨(hg d.2 p).1.trans (jh hg ds _).1,(hg d.2 p).2.trans (jh hg ds _).2⟩
theorem vo:∀(n:Nat) (s:S) (p:GP S),p.1 <+: (aM PB n s p).2.1/\p.2 <+: (aM PB n s p).2.2
 | 0,_,_=>⟨Th,Th⟩
 | n+1,s,p=>by
  have h:=jh (vo n) (PB s) p;unfold aM
  split
  .exact⟨Th,Th⟩
  .split
   .exact⟨h.1,h.2.trans (ψ _ _)⟩
   .exact⟨h.1.trans (gA _ _),h.2.trans (ψ _ _)⟩
theorem De (rs)(r):(keep rs r).2.length<=rs.length+1:=by
 rcases dD rs r with e|⟨_,e,_⟩
 .rw[e];lia
 .rw[e];simp
theorem rV {g:S->GP S->Nat×GP S}(hg:∀s p,(g s p).2.1.length<=p.1.length+b/\(g s p).2.2.length<=p.2.length+b):∀ds p,(aB g ds p).2.1.length<=p.1.length+ds.length*b/\(aB g ds p).2.2.length<=p.2.length+ds.length*b
 | [],p=>⟨by show p.1.length<=_;lia,by show p.2.length<=_;lia⟩
 | d::ds,p=>by
  have c:=hg d.2 p;have f:=rV hg ds (g d.2 p).2;have e:(d::ds).length*b=ds.length*b+b:=by rw[QU,Nat.add_mul];lia
  rw[e];exact⟨by show(aB g ds (g d.2 p).2).2.1.length<=_;lia,by show(aB g ds (g d.2 p).2).2.2.length<=_;lia⟩
theorem vp (hd:∀s,(PB s).length<=8):∀(n:Nat) (s:S) (p:GP S),(aM PB n s p).2.1.length<=p.1.length+9 ^ n/\(aM PB n s p).2.2.length<=p.2.length+9 ^ n
 | 0,_,p=>⟨by show p.1.length<=_;lia,by show p.2.length<=_;lia⟩
 | n+1,s,p=>by
  have h:=rV (vp hd n) (PB s) p;have b:=hd s;have d:(PB s).length*9 ^ n<=8*9 ^ n:=ο _ b;have e:9 ^ (n+1)=9*9 ^ n:=by rw[Nat.pow_succ,Nat.mul_comm]
  have c:1<=9 ^ n:=Nat.one_le_pow _ _ (by (first|trivial|lia));unfold aM
  split
  .exact⟨by show p.1.length<=_;lia,by show p.2.length<=_;lia⟩
  .split
   .refine⟨by dsimp only;lia,?_⟩;dsimp only;rw[Rt];simp only[QU,Xp];lia
   .have k:=De (aB (aM PB n) (PB s) p).2.1 (aB (aM PB n) (PB s) p).1;refine⟨by dsimp only;lia,?_⟩;dsimp only;rw[Rt];simp only[QU,Xp];lia
end
theorem A5 (cl)(PN PP)(a b:Int):(gp cl PN PP a b).length<=8:=by
 unfold gp gL;rw[Qx];exact RX (VI _ _) (by decide)
theorem Dg (cl)(PN PP):∀s,(gB cl PN PP s).length<=8
 | .inr [a,b]=>A5 cl PN PP a b
 | .inl _=>by simp[gB]
 | .inr []=>by simp[gB]
 | .inr [_]=>by simp[gB]
 | .inr (_::_::_::_)=>by simp[gB]
noncomputable def V4:List (Sk×Nat):=[(.inl 0,0),(.inl 1,1)]
theorem Ek (h0:os (.inl 0)=[])(h1:os (.inl 1)=[[]])(hg:∀k,good (.inl k)->k=0\/k=1):UJ os SM good [] V4 where
 ends:=λs b m=>by
  match s,b,m with
  | .inl k,b,_=>
   rcases hg k b with rfl|rfl <;> rfl
 so:=λs k e=>by
  unfold cw V4 at e
  by_cases d:s=.inl 0
  .subst d;simp at e;exact .inl ⟨h0,e.symm⟩
  .by_cases c:s=.inl 1
   .subst c;simp at e;subst e;rw[h1];refine .inr ⟨by simp,λn j=>?_⟩;have:n=0:=(j [] (by simp)).symm;subst this;rfl
   .have f:decide ((RH 0:Sk)=s)=false:=Qd λh=>d h.symm;have g:decide ((RH 1:Sk)=s)=false:=Qd λh=>c h.symm;rw[Y5 (by simp[f]),Y5 (by simp[g])] at e;cases e
noncomputable def fj (PB:Sk->List (Int×Sk))(n:Nat)(s:Sk):List Pn×Nat:=((aM PB n s ([],V4)).2.1,(aM PB n s ([],V4)).1)
theorem rW (W:Way PB os QL SM good)(h0:os (.inl 0)=[])(h1:os (.inl 1)=[[]])(hg:∀k,good (.inl k)->k=0\/k=1)(hs:good s)(hl:SM s\/QL s<=n)(Wt:fN (os s) os')(len:∀o∈os',o.length=many):fj PB n s=if os'=[] then ([],0) else ((lay many os' []).2,(lay many os' []).1):=by
 obtain⟨_,A⟩:=xJ W n s ([],V4) n hs hl hl (Ek h0 h1 hg);unfold fj
 by_cases z:os'=[]
 .obtain⟨d,b⟩:=A.Qb ((vj Wt).mpr z);rw[PK z,d,b]
 .have e:=A.some (λq=>z ((vj Wt).mp q)) many λo c=>len o ((Wt o).mp c);have e:lay many (os s) []=_:=e;rw[Pr z,<-j9 many [] Wt,e]
end Bk
namespace Bk
theorem ph {S:Type}[DecidableEq S]{g:S->GP S->Nat×GP S}{d:Int×S}:∀(ds:List (Int×S)) (p:GP S),aB g (ds++[d]) p=(if (g d.2 (aB g ds p).2).1=0 then (aB g ds p).1 else (aB g ds p).1++[(d.1,((g d.2 (aB g ds p).2).1:Int))],(g d.2 (aB g ds p).2).2)
 | [],p=>by
  show aB g [d] p=_;unfold aB aB;dsimp only
  by_cases h:(g d.2 p).1=0
  .rw[PK h];simp[aB,h]
  .rw[Pr h];simp[aB,h]
 | e::ds,p=>by
  rw[List.cons_append];unfold aB;rw[ph ds];dsimp only
  by_cases h:(g d.2 (aB g ds (g e.2 p).2).2).1=0 <;> by_cases b:(g e.2 p).1=0 <;> simp[h,b]
theorem rX {S:Type}[DecidableEq S]{g:S->GP S->Nat×GP S}:∀(a b:List (Int×S)) (p:GP S),(aB g (a++b) p).2=(aB g b (aB g a p).2).2
 | [],_,_=>rfl
 | d::a,b,p=>rX a b (g d.2 p).2
theorem y8 {S:Type}[DecidableEq S]{PB:S->List (Int×S)}{n:Nat}{ds:List (Int×S)}{p:GP S}(i:Nat):(aB (aM PB n) (ds.take i) p).2.1.length<=(aB (aM PB n) ds p).2.1.length/\(aB (aM PB n) (ds.take i) p).2.2.length<=(aB (aM PB n) ds p).2.2.length:=by
 have e:=rX (g:=aM PB n) (ds.take i) (ds.drop i) p;rw[X9] at e;rw[e];have h:=jh (vo (PB:=PB) n) (ds.drop i) (aB (aM PB n) (ds.take i) p).2;exact⟨h.1.length_le,h.2.length_le⟩
theorem rY {S:Type}[DecidableEq S]{g:S->GP S->Nat×GP S}:∀(ds:List (Int×S)) (p:GP S),(aB g ds p).1.length<=ds.length
 | [],_=>P1 _
 | d::ds,p=>by
  have:=rY (g:=g) ds (g d.2 p).2;unfold aB;dsimp only
  split
  .simp;lia
  .simp;(first|trivial|lia)
theorem Bf {a b:List Int}(ha:a.Pairwise (· < ·))(hb:b.Pairwise (· < ·))(h:∀x,x∈a↔x∈b):a=b:=by
 have nd:∀{l:List Int},l.Pairwise (· < ·)->l.Nodup:=λh=>h.imp λh e=>by lia
 have p:a.Perm b:=(ż (nd ha) (nd hb)).mpr h;exact p.eq_of_pairwise (le:=(· < ·)) (λx y _ _ c d=>by lia) ha hb
theorem wK (p:ns.Perm ks)(le:ns.Pairwise (·<=·))(nd:ks.Nodup)(mem:∀x,x∈ks↔x∈r1.map (·.1)\/x∈r2.map (·.1))(s1:∀d∈r1,0<=d.1/\d.1<8)(s2:∀d∈r2,0<=d.1/\d.1<8):ns=gL r1 r2:=by
 have b:ns.Nodup:=p.nodup_iff.mpr nd;have lt:ns.Pairwise (· < ·):=by
  have c:ns.Pairwise (·≠·):=b;exact(le.and c).imp λh=>by lia
 refine Bf lt (o8 r1 r2) λx=>?_;rw[p.mem_iff,mem,lI,Qs,Qs];constructor
 .rintro(⟨d,hd,rfl⟩|⟨d,hd,rfl⟩)
  .exact⟨s1 d hd,.inl ⟨d,hd,rfl⟩⟩
  .exact⟨s2 d hd,.inr ⟨d,hd,rfl⟩⟩
 .rintro⟨_,⟨d,hd,e⟩|⟨d,hd,e⟩⟩
  .exact .inl ⟨d,hd,e⟩
  .exact .inr ⟨d,hd,e⟩
structure X3 (many:Nat)(PN PP)(f1 f2:Int):Prop where
 w1:WF PN
 w2:WF PP
 s1:∀r∈PN,∀d∈r,0<=d.1/\d.1<4
 s2:∀r∈PP,∀d∈r,0<=d.1/\d.1<4
 pg:Pg PN PP f1 f2 many
theorem X3.acP (J:X3 many PN PP f1 f2):o9 PN:=λr b d hd=>by have:=J.s1 r b d hd;lia
theorem X3.acQ (J:X3 many PN PP f1 f2):o9 PP:=λr b d hd=>by have:=J.s2 r b d hd;lia
end Bk
namespace Bk
open Mx
noncomputable def G9 (many:Nat)(o:List Int):ap:=((bw many).filter λt=>!o.contains t).map λt=>o++[t]
noncomputable def ext (many:Nat)(os:ap):ap:=os.flatMap (G9 many)
noncomputable def nZ (many:Nat):Nat->ap
 | 0=>[[]]
 | k+1=>ext many (nZ many k)
noncomputable def eY (many:Nat):ap:=nZ many many
noncomputable def ltb:List Int->List Int->Bool
 | x::a,y::b=>decide (x<y)||(decide (x=y)&&ltb a b)
 | _,_=>false
theorem sx:∀{a b:List Int},ltb a b=true->lt a b
 | [],_,h=>by cases h
 | _::_,[],h=>by cases h
 | x::a,y::b,h=>by
  simp only[ltb,Ŗ,Tv,decide_eq_true_eq] at h;rcases h with h|⟨c,d⟩
  .exact .inl h
  .exact .inr ⟨c,sx d⟩
noncomputable def zi:ap->Bool
 | []=>true
 | o::os=>os.all (ltb o)&&zi os
theorem Bj:∀{os:ap},zi os=true->cP os
 | [],_=>Yb
 | o::os,h=>by
  simp only[zi,Tv,Ve] at h;exact List.Pairwise.cons (λc b=>sx (h.1 c b)) (Bj h.2)
theorem Ds:∀m∈[1,2,3,4,5],(eY m).all (λo=>(bw m).isPerm o)=true:=by decide +kernel
theorem FD:∀m∈[1,2,3,4],zi (eY m)=true:=by decide +kernel
theorem vD:∀m∈[1,2,3,4],(eY m).length<=24:=by decide +kernel
theorem Dt:∀m∈[1,2,3,4,5],∀k∈[0,1,2,3,4,5],(nZ m k).length<=200:=by decide +kernel
theorem in5 (h1:1<=m)(h5:m<=5):m∈[1,2,3,4,5]:=by
 have:m=1\/m=2\/m=3\/m=4\/m=5:=by lia
 rcases this with rfl|rfl|rfl|rfl|rfl <;> decide
theorem in4 (h1:1<=m)(h4:m<=4):m∈[1,2,3,4]:=by
 have:m=1\/m=2\/m=3\/m=4:=by lia
 rcases this with rfl|rfl|rfl|rfl <;> decide
theorem Mj (h:k<=5):k∈[0,1,2,3,4,5]:=by
 have:k=0\/k=1\/k=2\/k=3\/k=4\/k=5:=by lia
 rcases this with rfl|rfl|rfl|rfl|rfl|rfl <;> decide
theorem sy (h1:1<=m)(h5:m<=5)(h:o∈eY m):(bw m).Perm o:=by
 have:=Ds m (in5 h1 h5);rw[Ve] at this;exact List.isPerm_iff.mp (this o h)
theorem kD (h1:1<=m)(h5:m<=5)(h:o∈eY m):o.length=m/\Mx.Ord o:=by
 have p:=sy h1 h5 h;have l:o.length=m:=by rw[<-p.length_eq,fE]
 refine⟨l,?_⟩;unfold Mx.Ord;rw[l];exact(uk p (wz m)).symm
theorem vE:∀(k:Nat),∀o∈nZ m k,o.length=k
 | 0,o,h=>by
  rw[Ri.mp h];rfl
 | k+1,o,h=>by
  obtain⟨d,b,c⟩:=Uh.mp h;obtain⟨t,_,rfl⟩:=Qs.mp c;rw[Rt,vE k d b];rfl
theorem Du {os:ap}(h:os[i]?=some o):ext m (os.take (i+1))=ext m (os.take i)++G9 m o:=by
 unfold ext;rw[Xm,h];simp
theorem Ha (i:Nat):(ext m (os.take i)).length<=(ext m os).length:=by
 have:ext m os=ext m (os.take i)++ext m (os.drop i):=by
  unfold ext;rw[<-List.flatMap_append,X9]
 rw[this,Rt];lia
structure Q1 (many:Nat)(os:ap):Prop where
 m1:1<=many
 m5:many<=5
 mem:∀o∈os,o∈eY many
 ZZ:cP os
 len:os.length<=24
 Zy:many=5->os.length<=2
theorem Q1.of (m1:1<=many)(m4:many<=4)(h:os.Sublist (eY many)):Q1 many os where
 m1:=m1
 m5:=by lia
 mem:=λo b=>h.subset b
 ZZ:=(Bj (FD many (in4 m1 m4))).sublist h
 len:=RX h.length_le (vD many (in4 m1 m4))
 Zy:=λe=>by lia
theorem Q1.adj (S:Q1 many os):hG many (λx=>0<=x/\x<(many:Int)) os:=λo b=>by
 have p:=sy S.m1 S.m5 (S.mem o b);have c:∀x,x∈o↔0<=x/\x<(many:Int):=λx=>by rw[<-p.mem_iff];exact dZ
 refine⟨(kD S.m1 S.m5 (S.mem o b)).1,λx d=>?_,p.nodup_iff.mp (yD many),c⟩;have:=(c x).mp d;have:=S.m5;lia
theorem Hb:∀m∈[1,2,3,4],ke m<=41:=by decide +kernel
theorem Q1.rooms (S:Q1 many os)(ne:os≠[]):(lay many os []).2.length<70:=by
 by_cases h:many=5
 .have a:=je many os [] ne;have b:=S.Zy h;have c:os.length*many<=2*5:=Nat.mul_le_mul b S.m5;simp only[Xp] at a;lia
 .have a:=rO many _ os [] S.adj ne;have b:=Hb many (in4 S.m1 (by have:=S.m5;lia));simp only[Xp] at a;lia
inductive Bs where
 | free|at_ (p t:Nat)|ahead (a b:Nat)|next (a b:Nat)|Sv
 deriving DecidableEq
inductive Rl where
 | bs (b:Bs)|Qb (r:Rl)|both (r s:Rl)|either (r s:Rl)
noncomputable def eu (many g:Nat):List Nat:=(Q3 many).filter λt=>!g.testBit t
noncomputable def pE (many g t:Nat):Nat:=((Q3 (many-(t+1))).filter λi=>g.testBit (t+1+i)).length
noncomputable def dm (many:Nat)(p g m t:Nat):Bs->Nat
 | .free=>0
 | .at_ q u=>if decide (p=q) != decide (t=u) then 2 else 0
 | .ahead a b=>if decide (t=b)&&!g.testBit a then 2 else 0
 | .next a b=>if decide (m=1) != decide (t=b) then 2 else if t=a then 1 else 0
 | .Sv=>(m+pE many g t) % 2
noncomputable def Tu (many:Nat)(b:Bs)(p g m t:Nat):Sk:=
 if dm many p g m t b=2 then .inl 0 else if p+1<many then .inr [((p+1:Nat):Int),((g ||| 1 <<< t:Nat):Int),((dm many p g m t b:Nat):Int)]
 else if dm many p g m t b=0 then .inl 1 else .inl 0
noncomputable def dI (many:Nat)(b:Bs):Sk->List (Int×Sk)
 | .inr [p,g,m]=>(eu many g.toNat).map λ(t:Nat)=>((t:Int),Tu many b p.toNat g.toNat m.toNat t)
 | _=>[]
def pF (many:Nat):Sk->Prop
 | .inl k=>k=0\/k=1
 | .inr l=>∃p g m:Nat,l=[(p:Int),(g:Int),(m:Int)]/\p<many/\g<2 ^ many/\m<=2
noncomputable def qB (many:Nat):Sk->Nat
 | .inr (p::_)=>many-p.toNat
 | _=>0
noncomputable def YS (many:Nat)(b:Bs):Nat->Sk->ap
 | _,.inl k=>if k=1 then [[]] else []
 | 0,.inr _=>[]
 | n+1,.inr l=>(dI many b (.inr l)).flatMap λd=>(YS many b n d.2).map (d.1::·)
noncomputable def Z7 (many:Nat)(b:Bs)(s:Sk):ap:=YS many b (qB many s) s
theorem FE:dm many p g m t b<=2:=by
 cases b <;> simp only[dm]
 .omega
 .split <;> lia
 .split <;> lia
 .split
  .omega
  .split <;> lia
 .omega
theorem gb {p g m:Nat}:dI many b (.inr [(p:Int),(g:Int),(m:Int)])=(eu many g).map λ(t:Nat)=>((t:Int),Tu many b p g m t):=rfl
theorem Dv (many:Nat)(b)(h8:many<=8):∀s,(dI many b s).length<=8
 | .inr [p,g,m]=>by
  show((eu many g.toNat).map _).length<=8;rw[Qx];refine RX (VI _ _) ?_;rw[Zb];exact h8
 | .inl _=>by simp[dI]
 | .inr []=>by simp[dI]
 | .inr [_]=>by simp[dI]
 | .inr [_,_]=>by simp[dI]
 | .inr (_::_::_::_::_)=>by simp[dI]
theorem i4:t∈eu many g↔t<many/\g.testBit t=false:=by
 unfold eu;rw[Sd,R7];simp
theorem Hc (hg:g<2 ^ many)(ht:t<many):g ||| 1 <<< t<2 ^ many:=by
 refine Nat.or_lt_two_pow hg ?_;rw[Nat.one_shiftLeft];exact Nat.pow_lt_pow_right (by (first|trivial|lia)) ht
theorem n6 (hg:g<2 ^ many)(ht:t<many):pF many (Tu many b p g m t)/\(SM (Tu many b p g m t)\/(p+1<many/\qB many (Tu many b p g m t)=many-(p+1))):=by
 unfold Tu
 split
 .exact⟨.inl rfl,.inl trivial⟩
 .split
  .exact⟨⟨p+1,g ||| 1 <<< t,_,rfl,by assumption,Hc hg ht,FE⟩,.inr ⟨by assumption,rfl⟩⟩
  .split
   .exact⟨.inr rfl,.inl trivial⟩
   .exact⟨.inl rfl,.inl trivial⟩
theorem FF (h:Tu many b p g m t=.inl k)(k1:k=1):¬p+1<many:=by
 subst k1;unfold Tu at h
 split at h
 .cases h
 .split at h
  .cases h
  .assumption
theorem vF {p g m n:Nat}:o∈YS many b (n+1) (.inr [(p:Int),(g:Int),(m:Int)])↔∃(t:Nat) (r:List Int),o=(t:Int)::r/\t∈eu many g/\r∈YS many b n (Tu many b p g m t):=by
 show o∈(dI many b (.inr [(p:Int),(g:Int),(m:Int)])).flatMap _↔_;rw[gb,Uh];constructor
 .rintro⟨d,hd,f⟩;obtain⟨t,e,rfl⟩:=Qs.mp hd;obtain⟨r,c,rfl⟩:=Qs.mp f;exact⟨t,r,rfl,e,c⟩
 .rintro⟨t,r,rfl,e,c⟩;exact⟨_,Qs.mpr ⟨t,e,rfl⟩,Qs.mpr ⟨r,c,rfl⟩⟩
theorem Bl:∀(n:Nat) (p g m:Nat),p<many->g<2 ^ many->many-p=n+1->∀o∈YS many b (n+1) (.inr [(p:Int),(g:Int),(m:Int)]),o.length=n+1
 | n,p,g,m,G,w,D,o,x=>by
  obtain⟨t,r,rfl,C,c⟩:=vF.mp x;have d:=(i4.mp C).1;rw[QU]
  congr 1
  obtain⟨v,j⟩:=n6 (b:=b) (p:=p) (m:=m) w d;cases e:Tu many b p g m t with
  | inl k=>
   rw[e] at c
   by_cases k1:k=1
   .have:=FF e k1;subst k1;have c:r∈([[]]:ap):=by cases n <;> exact c
    rw[Ri.mp c];show 0=n;lia
   .have c:r∈(if k=1 then [[]] else []:ap):=by cases n <;> exact c
    rw[Pr k1] at c;cases c
  | inr l=>
   rw[e] at v j c;obtain⟨s,g',y,rfl,A,f,F⟩:=v;rcases j with h|⟨E,u⟩
   .exact h.elim
   have u:many-s=many-(p+1):=u;cases n with
   | zero=>(first|trivial|lia)
   | succ n=>exact Bl n s g' y A f (by lia) r c
theorem vG {p g m:Nat}:Z7 many b (.inr [(p:Int),(g:Int),(m:Int)])=YS many b (many-p) (.inr [(p:Int),(g:Int),(m:Int)]):=rfl
theorem FG (hg:g<2 ^ many)(ht:t<many)(hn:many-p=n+1):YS many b n (Tu many b p g m t)=Z7 many b (Tu many b p g m t):=by
 obtain⟨j,c⟩:=n6 (b:=b) (p:=p) (m:=m) hg ht;unfold Z7;cases e:Tu many b p g m t with
 | inl k=>cases n <;> rfl
 | inr l=>
  rw[e] at c;rcases c with h|⟨f,d⟩
  .exact h.elim
  rw[d,show many-(p+1)=n by lia]
theorem sB (h8:many<=8):Way (dI many b) (Z7 many b) (qB many) SM (pF many) where
 pos:=λs f c=>by
  match s,f,c with
  | .inl _,_,c=>exact Py trivial c
  | .inr _,⟨p,g,m,rfl,hp,_⟩,_=>show 1<=many-p;lia
 len:=λs f c o j=>by
  match s,f,c,j with
  | .inl _,_,c,_=>exact Py trivial c
  | .inr _,⟨p,g,m,rfl,hp,hg,_⟩,_,j=>
   rw[vG] at j;obtain⟨n,hn⟩:∃n,many-p=n+1:=⟨many-p-1,by lia⟩
   rw[hn] at j;show o.length=many-p;rw[hn];exact Bl n p g m hp hg hn o j
 down:=λs f c d hd=>by
  match s,f,c,hd with
  | .inl _,_,c,_=>exact Py trivial c
  | .inr _,⟨p,g,m,rfl,hp,hg,_⟩,_,hd=>
   rw[gb] at hd;obtain⟨t,c,rfl⟩:=Qs.mp hd;obtain⟨D,y⟩:=n6 (b:=b) (p:=p) (m:=m) hg (i4.mp c).1;refine⟨D,y.imp id λ⟨E,C⟩=>?_⟩;show qB many (Tu many b p g m t)+1=many-p;rw[C];lia
 rise:=λs f c=>by
  match s,f,c with
  | .inl _,_,c=>exact Py trivial c
  | .inr _,⟨p,g,m,rfl,_⟩,_=>
   rw[gb,Yi];refine Wc.mpr ?_;have h:(Q3 many).Pairwise (· < ·):=Ğ;exact(h.sublist Y9).imp λ{a b} h=>by show(a:Int)<(b:Int);lia
 bnd:=λs f c d hd=>by
  match s,f,c,hd with
  | .inl _,_,c,_=>exact Py trivial c
  | .inr _,⟨p,g,m,rfl,_⟩,_,hd=>
   rw[gb] at hd;obtain⟨t,c,rfl⟩:=Qs.mp hd;have:=(i4.mp c).1;exact⟨by show(0:Int)<=(t:Int);lia,by show(t:Int)<8;lia⟩
 rest:=λs f c d hd=>by
  match s,f,c,hd with
  | .inl _,_,c,_=>exact Py trivial c
  | .inr _,⟨p,g,m,rfl,hp,hg,_⟩,_,hd=>
   rw[gb] at hd;obtain⟨t,c,rfl⟩:=Qs.mp hd;obtain⟨n,hn⟩:∃n,many-p=n+1:=⟨many-p-1,by lia⟩
   intro r;rw[bj,vG,hn,vF];dsimp only;rw[<-FG (b:=b) (m:=m) hg (i4.mp c).1 hn];constructor
   .rintro⟨t',A,e,w,x⟩;injection e with u e2
    have u:t=t':=agE u;subst u e2;exact x
   .exact λh=>⟨t,r,rfl,c,h⟩
 all:=λs f c t r v=>by
  match s,f,c,v with
  | .inl _,_,c,_=>exact Py trivial c
  | .inr _,⟨p,g,m,rfl,hp,hg,_⟩,_,v=>
   obtain⟨n,hn⟩:∃n,many-p=n+1:=⟨many-p-1,by lia⟩
   rw[vG,hn] at v;obtain⟨t',A,e,w,x⟩:=vF.mp v;injection e with u e2
   subst u;rw[gb];exact⟨_,Qs.mpr ⟨t',w,rfl⟩⟩
noncomputable def Ml (o:List Int):Nat:=((Q3 o.length).map λk=>((Q3 k).filter λj=>decide (o.getD k 0<o.getD j 0)).length).sum
noncomputable def He (o:List Int)(a b:Nat):Int:=(o.idxOf (b:Int):Int)-(o.idxOf (a:Int):Int)
noncomputable def zj (o:List Int):Bs->Bool
 | .free=>true
 | .at_ p t=>decide (o[p]?=some (t:Int))
 | .ahead a b=>decide (0<He o a b)
 | .next a b=>decide (He o a b=1)
 | .Sv=>decide (Ml o % 2=0)
noncomputable def fG (o:List Int):Rl->Bool
 | .bs b=>zj o b
 | .Qb r=>!fG o r
 | .both r s=>fG o r&&fG o s
 | .either r s=>fG o r||fG o s
def okB (many:Nat):Bs->Prop
 | .free=>True
 | .at_ p t=>p<many/\t<many
 | .ahead a b=>a<many/\b<many/\a≠b
 | .next a b=>a<many/\b<many/\a≠b
 | .Sv=>True
def Uy (many:Nat):Rl->Prop
 | .bs b=>okB many b/\b≠.free
 | .Qb r=>Uy many r
 | .both r s=>Uy many r/\Uy many s
 | .either r s=>Uy many r/\Uy many s
noncomputable def QQ:Rl->Nat
 | .bs _=>1
 | .Qb r=>QQ r+1
 | .both r s=>max (QQ r) (QQ s)+1
 | .either r s=>max (QQ r) (QQ s)+1
noncomputable def tF (m:Nat):List Bs:=[.free,.Sv]++(Q3 m).flatMap λp=>(Q3 m).flatMap λt=>.at_ p t::(if p=t then [] else [.ahead p t,.next p t])
theorem Bn:∀{b:Bs},okB m b->b∈tF m
 | .free,_=>by simp[tF]
 | .Sv,_=>by simp[tF]
 | .at_ p t,⟨c,d⟩=>Sc _ (Uh.mpr ⟨p,R7.mpr c,Uh.mpr ⟨t,R7.mpr d,Qa⟩⟩)
 | .ahead p t,⟨c,d,e⟩=>Sc _ (Uh.mpr ⟨p,R7.mpr c,Uh.mpr ⟨t,R7.mpr d,by simp[e]⟩⟩)
 | .next p t,⟨c,d,e⟩=>Sc _ (Uh.mpr ⟨p,R7.mpr c,Uh.mpr ⟨t,R7.mpr d,by simp[e]⟩⟩)
theorem Dw:∀m∈[1,2,3,4],∀b∈tF m,Z7 m b (.inr [0,0,0])=(eY m).filter λo=>zj o b:=by decide +kernel
noncomputable def bp (many:Nat)(r:Rl):ap:=(eY many).filter λo=>fG o r
theorem bP (m1:1<=many)(m4:many<=4)(f:List Int->Bool):Q1 many ((eY many).filter f):=.of m1 m4 Y9
end Bk
namespace Ord
open PySem L2 Mx
noncomputable def top (i:Nat):PD:=PySem.Challenge.pw_ordernest_k31_no_rules.main.body.getD i (.Pass ⟨0,0,0,0⟩)
noncomputable abbrev ul:PD:=top 11
noncomputable abbrev um:PD:=top 12
noncomputable abbrev uo:PD:=top 13
noncomputable abbrev sZ:PD:=top 14
structure Txt (K)(mg:M'->Option G')(CO):Prop where
 bo:VS K mg "BadOrder" CO
 most:∃t,mg "MOST_THINGS"=some (.int 8 t)
 Tn:mg "isinstance"=none
 int:mg "int"=none
 bool:mg "bool"=none
 tuple:mg "tuple"=none
 list:mg "list"=none
 range:mg "range"=none
 sorted:mg "sorted"=none
 all:mg "all"=none
 len:mg "len"=none
 enum:mg "enumerate"=none
def iA:Sp:=λvs H Q _=>∃i:Int,vs=[.int i]/\Q (.bl true) H
theorem EX:QE ["value"] ["value"] (ao ul):={}
theorem Cq (F:Qh K "is_whole" "is_whole" ul f fd)(T:Txt K mg CO):P4 P w K mg base PV 1 f fd ["value"] iA:=by
 refine F.ok EX (λvs H Q E h=>?_) (λb A outer s H vs Q E c h=>?_)
 .obtain⟨i,rfl,_⟩:=h;rfl
 obtain⟨i,rfl,q⟩:=h;refine⟨_,ai (aD (iJ (aG bK rfl T.Tn dz (aa (pv 0) (aa (eE (v:=.ty "int") rfl T.int Ea rfl) ad)))
  (jz (Ge (aG bK rfl T.Tn dz (aa (pv 0) (aa (eE (v:=.ty "bool") rfl T.bool GE rfl) ad))))))),?_⟩
 refine⟨_,rfl,_,_,_,_,_,rfl,rfl,.of (.int i),GA,_,rfl,aU ?_⟩;exact⟨_,rfl,_,_,_,_,_,rfl,rfl,.of (.int i),GB,_,rfl,q⟩
def pX:Sp:=λvs H Q _=>∃i:Int,vs=[.int i]/\Q (.bl (decide (1<=i/\i<=8))) H
theorem EY:QE ["many"] ["many"] (ao um):={}
theorem Cr (F:Qh K "is_count" "is_count" um f fd)(T:Txt K mg CO)(W:Df P w K mg base PV 1 "is_whole" ["value"] iA):P4 P w K mg base PV 2 f fd ["many"] pX:=by
 refine F.ok EY (λvs H Q E h=>?_) (λj A outer s H vs Q E c h=>?_)
 .obtain⟨i,rfl,_⟩:=h;rfl
 obtain⟨i,rfl,q⟩:=h;obtain⟨g,d⟩:=T.most;refine⟨_,ai (aD (iJ (aE W c rfl pS (aa (pv 0) ad)) (jz (Cb hW hW ae (pv 0) (aA (v:=.int 8) rfl d ⟨g,rfl⟩))))),?_⟩;refine⟨_,rfl,i,rfl,_,rfl,aU ?_⟩;refine⟨_,rfl,1,i,rfl,rfl,_,rfl,?_⟩
 by_cases b:1<=i
 .rw[Qk b];refine aU ⟨i,8,rfl,rfl,?_⟩;have e:decide (i<=8)=decide (1<=i/\i<=8):=by simp[b]
  show Q (V.bl (decide (i<=8))) H;rw[e];exact q
 .rw[Qd b];refine az ?_;have e:decide (1<=i/\i<=8)=false:=by simp[b]
  rw[e] at q;exact q
def XR (i:Int):Prop:=i.natAbs.log2<1900
theorem dA (h1:-(2 ^ 64)<i)(h2:i<2 ^ 64):XR i:=by
 have:i.natAbs<2 ^ 64:=by lia
 have b:i.natAbs.log2<65:=by
  by_cases z:i.natAbs=0
  .rw[z];decide
  .have:=(Nat.log2_lt z (k:=64)).mpr this;lia
 unfold XR;lia
def ma (CO:D'):Sp:=λvs H Q E=>∃i:Int,vs=[.int i]/\XR i/\(if 1<=i/\i<=8 then Q .Qb H else E (.ref CO) none H)
theorem EZ:QE ["many"] ["many"] (ao uo):={}
theorem Cs (F:Qh K "look_count" "look_count" uo f fd)(T:Txt K mg CO)(W:Df P w K mg base PV 2 "is_count" ["many"] pX):P4 P w K mg base (QP P w) 3 f fd ["many"] (ma CO):=by
 refine F.U5 EZ (λvs H Q E h=>?_) (λX n A outer s H vs Q E g o m b h=>?_)
 .obtain⟨i,rfl,_⟩:=h;rfl
 obtain⟨i,rfl,d,q⟩:=h;obtain⟨e,j⟩:=T.most;subst g;refine⟨_,ai (aH (cp (cz (aE W b rfl pS (aa (pv 0) ad))))
  (ai (cN rfl rfl T.bo m (aa (iz (bM (EU (pv 0)) (bM (eG (k:=100) (by decide)) (bM (lg (aA (v:=.int 8) rfl j ⟨e,rfl⟩)) jG))) (by decide)) ad))) au),?_⟩
 refine⟨_,rfl,i,rfl,_,rfl,?_⟩
 by_cases c:1<=i/\i<=8
 .rw[Qk c];refine az ?_;rw[PK c] at q;exact q
 .rw[Qd c];refine aU ?_;rw[Pr c] at q;exact⟨⟨⟨_,rfl,rfl,i,rfl,d⟩,trivial,⟨rfl,8,rfl,by decide⟩,trivial⟩,λx=>⟨by show 1<=PH;decide,q⟩⟩
def uq (n:Int)(ns:List Int):Prop:=1<=n/\n<=8/\(ns.length:Int)=n/\Mx.Ord ns
structure Tp (K:Po)(H:Hp)(a:D')(ns:List Int):Prop where
 sq:PM K H a (ns.map V.int)
 len:ns.length<=60
 Ta:∀x∈ns,XR x
def Ah (K:Po)(CO:D'):Sp:=λvs H Q E=>∃(n:Int) (a:D') (ns:List Int),vs=[.int n,.ref a]/\XR n/\Tp K H a ns/\
 (uq n ns->∀H',ar H H'->Q .Qb H')/\(¬uq n ns->∀H',ar H H'->E (.ref CO) none H')
theorem Ai:QE ["many","order"] ["many","order"] (ao sZ):={}
theorem E2 (F:Qh K "look_order" "look_order" sZ f fd)(T:Txt K mg CO)(WC:Df P w K mg base (QP P w) 3 "look_count" ["many"] (ma CO))(WW:Df P w K mg base PV 1 "is_whole" ["value"] iA):
  P4 P w K mg base (QP P w) 4 f fd ["many","order"] (Ah K CO):=by
 refine F.U5 Ai (λvs H Q E h=>?_) (λX P3 A outer s H vs Q E hX hp O m h=>?_)
 .obtain⟨n,a,ns,rfl,_⟩:=h;rfl
 obtain⟨n,a,ns,rfl,Ta,d,Z,G⟩:=h;subst hX;refine⟨_,af (bv (aE WC m rfl hp (aa (pv 0) ad)))
  (af (aH (PW.pt (gc (cp (cz (aG bK rfl T.Tn dz (aa (pv 1) (aa (eE (v:=.ty "tuple") rfl T.tuple fU rfl) ad)))))
    (fB (aq dY (aG aX rfl T.len cr (aa (pv 1) ad)) (pv 0) (aw _)))))
   (ai (cN rfl rfl T.bo O (aa (iz (bM (pW m (pv 1)) (bM (eG (k:=100) (by decide)) (bM (lg (pv 0)) (bM (eG (k:=100) (by decide)) jG)))) (by decide)) ad))) au)
  (af (aH (cp (cz (aG (ue rfl) rfl T.all Eb (aa (fT rfl (show Uk (ao sZ) ["many","order"] _ _ from by constructor <;> decide +kernel) (iK (pv 1)) (λ_ _ _ _ _ _=>iy)
    (λcl C Qy RI fp ac=>aE WW (m.mono (by decide)) rfl pS (aa (pv 0) ad)) Ai.nd) ad))))
   (ai (cN rfl rfl T.bo O (aa (iz (bM (pW m (pv 1)) (bM (eG (k:=100) (by decide)) jG)) (by decide)) ad))) au)
  (ai (aH (aq (oE m.Yp) (aG uf rfl T.sorted nE (aa (pv 1) ad))
    (bX (kO rfl) rfl T.list oH (aa (bX qT rfl T.range wV (aa (pv 0) ad)) ad)) (aw _))
   (ai (cN rfl rfl T.bo O (aa (iz (bM (pW m (pv 1)) (bM (eG (k:=100) (by decide)) (bM (lg (pv 0)) (bM (eG (k:=100) (by decide)) jG)))) (by decide)) ad))) au)))),?_⟩
 refine⟨_,rfl,n,rfl,Ta,?_⟩
 by_cases c:1<=n/\n<=8
 case neg=>
  rw[Pr c];exact G (λg=>c ⟨g.1,g.2.1⟩) H (ar.refl H)
 rw[PK c];have ahP:=d.len;have u:(ns.map V.int).length=ns.length:=Qx _;refine⟨_,rfl,_,_,_,_,_,rfl,rfl,.tup d.sq,li,_,rfl,az ?_⟩;refine⟨_,rfl,a,_,rfl,.inr d.sq,_,rfl,rfl,_,rfl,?_⟩;have o:∀b,ar H b->isT K (eP 1) [some (.int n),some (.ref a)] b:=λb e=>⟨_,rfl,rfl,a,ns,rfl,e.P6 d.sq,by lia,d.Ta⟩
 by_cases t:(ns.length:Int)=n
 case neg=>
  have L:decide (V.int ((ns.map V.int).length:Nat)=V.int n)=false:=by
   rw[u];exact Qd λz=>t (V.int.inj z)
  rw[L];refine aU ?_;exact⟨⟨o H (ar.refl H),trivial,⟨_,rfl,rfl,n,rfl,Ta⟩,trivial,trivial⟩,λx=>⟨by show 1<=PH;decide,G (λg=>t g.2.2.1) H (ar.refl H)⟩⟩
 have L:decide (V.int ((ns.map V.int).length:Nat)=V.int n)=true:=by
  rw[u];exact Qk (congrArg V.int t)
 rw[L];refine az ?_;refine⟨_,rfl,a,rfl,⟨_,d.sq⟩,nC (K:=K) (a:=a) (xs:=ns.map V.int) (λi ys b=>b=H/\ys=(Rj i true).map V.bl) ⟨rfl,rfl⟩ ?_ (by rw[u,QA];lia) ?_ ?_⟩
 .rintro i ys b hi ⟨rfl,rfl⟩;exact⟨d.sq,by simp⟩
 .rintro i x ys b hx ⟨rfl,rfl⟩;obtain⟨z,rfl,_⟩:=E1 hx;refine ZI ?_;refine aU ?_;refine⟨_,rfl,z,rfl,rfl,?_⟩;simp[agh,UC]
 rintro ys b p ⟨rfl,rfl⟩ D;refine⟨p,Rj (ns.map V.int).length true,rfl,PX.up,_,rfl,?_⟩;have W:(Rj (ns.map V.int).length true).all id=true:=by simp[Ve]
 rw[W];refine az ?_;have s1:ar b (upd b p (.lst ((Rj (ns.map V.int).length true).map V.bl))):=ag D _;refine⟨_,rfl,a,ns,rfl,s1.P6 d.sq,by lia,λl N Vy I R=>?_⟩;have s2:=s1.trans (ag Vy (.lst (N.map V.int)));refine⟨_,rfl,n,rfl,λr J=>⟨r,0,n,rfl,ak,by decide,by decide,by lia,by lia,by lia,λS U=>?_⟩⟩;have s3:=s2.trans (ag J (.Wv 0 n));have s4:=s3.trans (ag U (.lst (jY 0 (n-0).toNat)));have n1:l≠S:=ax (by rw[al (ax ak J)];exact ak) U;have n2:l≠r:=ax ak J;refine⟨l,S,N.map V.int,_,rfl,rfl,.inl (.inl (by rw[al n1,al n2];exact ak)),PX.up,gO _,by rw[gP];exact gO _,_,rfl,?_⟩;have M:N=Mx.lZ ns:=Mx.uk I R;have y:(n-0).toNat=ns.length:=by lia
 rw[y,gP,kZ,M]
 by_cases g:Mx.lZ ns=Mx.bw ns.length
 .rw[Qk g];refine az ?_;refine Z ⟨c.1,c.2,t,g⟩ _ ?_;rw[<-M,<-gP,<-y];exact s4
 .rw[Qd g];refine aU ?_;have j:=s4;rw[y,gP,M] at j;exact⟨⟨o _ j,trivial,⟨_,rfl,rfl,n,rfl,Ta⟩,trivial,trivial⟩,λx=>⟨by show 1<=PH;decide,G (λY=>g Y.2.2.2) _ j⟩⟩
noncomputable abbrev uW:PD:=top 24
noncomputable abbrev nQ:PD:=top 26
noncomputable abbrev uX:PD:=top 23
noncomputable abbrev mD:PD:=top 25
noncomputable abbrev yO:PD:=top 22
noncomputable abbrev uY:PD:=top 27
noncomputable abbrev uZ:PD:=top 21
noncomputable abbrev tz:PD:=top 29
noncomputable abbrev u8:PD:=top 28
noncomputable abbrev yP:PD:=top 20
structure Rf (K)(mg:M'->Option G')(CO):Prop where
 t:Txt K mg CO
 no:∃t,mg "NO_ROOM"=some (.int 0 t)
 en:∃t,mg "END"=some (.int 1 t)
 low:∃t,mg "LOWEST"=some (.int 2 t)
 set:mg "set"=none
def fh (K:Po)(H:Hp)(x:V)(d:Int×Int):Prop:=∃p,x=.ref p/\PM K H p [.int d.1,.int d.2]
def bF (K:Po)(H:Hp)(x:V)(r:Bk.Pn):Prop:=∃a xs,x=.ref a/\PM K H a xs/\PR (fh K H) xs r
theorem fh.same (s:ar H H')(h:fh K H x d):fh K H' x d:=by
 obtain⟨p,e,q⟩:=h;exact⟨p,e,s.P6 q⟩
theorem bF.same (s:ar H H')(h:bF K H x r):bF K H' x r:=by
 obtain⟨a,xs,e,q,z⟩:=h;exact⟨a,xs,e,s.P6 q,bf (λ_ _ y=>y.same s) z⟩
def xp (K:Po):Sp:=λvs H Q _=>∃(x:V) (d:Int×Int),vs=[x]/\fh K H x d/\Q (.bl true) H
theorem Fq:QE ["door"] ["door"] (ao uW):={}
theorem C3 (F:Qh K "is_door" "is_door" uW f fd)(T:Rf K mg CO)(W:Df P w K mg base PV 1 "is_whole" ["value"] iA):P4 P w K mg base PV 2 f fd ["door"] (xp K):=by
 refine F.ok Fq (λvs H Q E h=>?_) (λc A outer s H vs Q E b h=>?_)
 .obtain⟨x,d,rfl,_⟩:=h;rfl
 obtain⟨x,⟨t,k⟩,rfl,⟨p,rfl,q⟩,z⟩:=h;refine⟨_,ai (aD (iJ (aG bK rfl T.t.Tn dz (aa (pv 0) (aa (eE (v:=.ty "tuple") rfl T.t.tuple fU rfl) ad)))
  (iJ (cG bu (aG aX rfl T.t.len cr (aa (pv 0) ad)) ae (aw _))
  (iJ (aE W b rfl pS (aa (P9 K (pv 0) ae) ad))
  (jz (aE W b rfl pS (aa (P9 K (pv 0) ae) ad))))))),?_⟩
 refine⟨_,rfl,_,_,_,_,_,rfl,rfl,.tup q,li,_,rfl,aU ?_⟩;refine⟨_,rfl,p,_,rfl,.inr q,rfl,_,rfl,aU ?_⟩;refine⟨_,rfl,p,_,0,.int t,rfl,rfl,q,bJ,t,rfl,_,rfl,aU ?_⟩;exact⟨_,rfl,p,_,1,.int k,rfl,rfl,q,fO,k,rfl,z⟩
def rL (K:Po):Sp:=λvs H Q _=>∃(x:V) (l:D') (ms:List Nat) (d:Int×Int),vs=[x,.ref l]/\fh K H x d/\PX K H l (ms.map λm:Nat=>V.int m)/\0<=d.1/\d.1<8/\0<=d.2/\d.2<ms.length/\
 (ms.getD d.2.toNat 0).testBit d.1.toNat=false/\Q (.int ((Bk.mB ms d:Nat):Int)) H
theorem lA:QE ["door","things","thing","later"] ["door","things"] (ao nQ):={}
theorem yQ (F:Qh K "things_through" "things_through" nQ f fd):P4 P w K mg base PV 1 f fd ["door","things"] (rL K):=by
 refine F.ok lA (λvs H Q E h=>?_) (λC A outer s H vs Q E u h=>?_)
 .obtain⟨x,l,b,d,rfl,_⟩:=h;rfl
 obtain⟨x,l,b,⟨t,k⟩,rfl,⟨p,rfl,q⟩,g,o,y,k0,kl,n,z⟩:=h;refine⟨_,af (aQ (i:=2) lA.nd rfl (Q8 rfl) (ay tS ae (P9 K (pv 0) ae)))
  (af (aQ (i:=3) lA.nd rfl (Q8 rfl) (cI (show U4 _ (fI K) from bL) (pv 1) (P9 K (pv 0) ae) (λ_ _=>rfl)))
  (af (aH (nA (ay zP (pv 2) (pv 3)) (λ_=>rfl)) (ai aK) au)
  (ai (aD (ay DZ (pv 2) (pv 3)))))),?_⟩
 refine⟨_,rfl,p,_,0,.int t,rfl,rfl,q,bJ,1,t,rfl,rfl,⟨o,by lia,by decide⟩,?_⟩;refine⟨_,rfl,_,rfl,p,_,1,.int k,rfl,rfl,q,fO,l,_,k,.int ((b.getD k.toNat 0:Nat):Int),rfl,rfl,g,?_,?_⟩
 .have c:k.toNat<b.length:=by show k.toNat<b.length;have:k<b.length:=kl;have:0<=k:=k0;lia
  have:=cH (xs:=b.map λm:Nat=>V.int m) (j:=k.toNat) (v:=.int ((b.getD k.toNat 0:Nat):Int)) (by
   rw[So,Q5 c,Vc,Q5 c];rfl)
  rw[show((k.toNat:Nat):Int)=k from agp k0] at this;exact this
 have e:(1:Int)*2 ^ t.toNat=((2 ^ t.toNat:Nat):Int):=by simp
 refine⟨_,rfl,_,rfl,_,_,rfl,rfl,_,rfl,?_⟩;rw[e,oW,yN n];refine az ?_;refine⟨_,rfl,_,rfl,_,_,rfl,rfl,?_⟩;show Q (V.int (č (1*2 ^ t.toNat) ((b.getD k.toNat 0:Nat):Int))) H;rw[e,rK];exact z
structure Ul (K:Po)(H:Hp)(x:V)(many:Int)(rs:List Bk.Pn)(first:Int):Prop where
 ex:∃b l xs,x=.ref b/\PM K H b [.int many,.ref l,.int first]/\PX K H l xs/\PR (bF K H) xs rs
def xq (K:Po):Sp:=λvs H Q _=>∃(x:V) (many:Int) (rs:List Bk.Pn) (first:Int),vs=[x]/\Ul K H x many rs first/\1<=many/\many<=8/\Q .Qb H
theorem Fr:QE ["book"] ["book"] (ao uZ):={}
theorem C4 (F:Qh K "look_parts" "look_parts" uZ f fd)(T:Rf K mg CO)(W:Df P w K mg base PV 1 "is_whole" ["value"] iA)(WC:Df P w K mg base PV 2 "is_count" ["many"] pX):P4 P w K mg base PV 3 f fd ["book"] (xq K):=by
 refine F.ok Fr (λvs H Q E h=>?_) (λm A outer s H vs Q E c h=>?_)
 .obtain⟨x,many,rs,first,rfl,_⟩:=h;rfl
 obtain⟨x,many,rs,first,rfl,⟨b,l,xs,rfl,q,d,j⟩,e,g,z⟩:=h;refine⟨_,af (aH (PW.pt (gc (cp (cz (aG bK rfl T.t.Tn dz (aa (pv 0) (aa (eE (v:=.ty "tuple") rfl T.t.tuple fU rfl) ad)))))
    (fB (aq dY (aG aX rfl T.t.len cr (aa (pv 0) ad)) ae (aw _))))) (ai aK) au)
  (af (aH (cp (cz (aE WC c rfl pS (aa (P9 K (pv 0) ae) ad)))) (ai aK) au)
  (af (aH (cp (cz (aG bK rfl T.t.Tn dz (aa (P9 K (pv 0) ae) (aa (eE (v:=.ty "list") rfl T.t.list oH rfl) ad))))) (ai aK) au)
  (ai (aH (cp (cz (aE W (c.mono (by decide)) rfl pS (aa (P9 K (pv 0) ae) ad)))) (ai aK) au)))),?_⟩
 refine⟨_,rfl,_,_,_,_,_,rfl,rfl,.tup q,li,_,rfl,az ?_⟩;refine⟨_,rfl,b,_,rfl,.inr q,rfl,_,rfl,az ?_⟩;refine⟨_,rfl,b,_,0,.int many,rfl,rfl,q,bJ,many,rfl,_,rfl,?_⟩;rw[Qk ⟨e,g⟩];refine az ?_;refine⟨_,rfl,b,_,1,.ref l,rfl,rfl,q,fO,_,_,_,_,_,rfl,rfl,.lst d,GC,_,rfl,az ?_⟩;exact⟨_,rfl,b,_,2,.int first,rfl,rfl,q,nO,first,rfl,_,rfl,az z⟩
noncomputable def gj (ms:List Nat):List V:=ms.map λm:Nat=>V.int m
theorem C5 {ms:List Nat}(h:k<ms.length):SJ (gj ms) (k:Int)=some (.int ((ms.getD k 0:Nat):Int)):=cH (by
 unfold gj;rw[So,Q5 h,Vc,Q5 h];rfl)
theorem Fs:QE ["many","things","first"] ["many","things","first"] (ao uY):={}
def xt (K:Po):Sp:=λvs H Q _=>∃(many number:Int) (x:V) (r:Bk.Pn),vs=[.int many,x,.int number]/\bF K H x r/\r≠[]/\(r.map (·.1)).Pairwise (· < ·)/\(∀d∈r,0<=d.1/\d.1<many/\1<=d.2/\d.2<number)/\Q .Qb H
theorem mE:QE ["many","room","number","last","door"] ["many","room","number"] (ao uX):={}
theorem C6 (F:Qh K "look_doors" "look_doors" uX f fd)(T:Rf K mg CO)(WD:Df P w K mg base PV 2 "is_door" ["door"] (xp K)):P4 P w K mg base PV 3 f fd ["many","room","number"] (xt K):=by
 refine F.ok mE (λvs H Q E h=>?_) (λU A outer s H vs Q E u h=>?_)
 .obtain⟨many,number,x,r,rfl,_⟩:=h;rfl
 obtain⟨many,number,x,r,rfl,⟨a,xs,rfl,q,m⟩,ne,rise,all,z⟩:=h;obtain⟨G,J⟩:=T.en;refine⟨_,af (aH (PW.pt (gc (cp (cz (aG bK rfl T.t.Tn dz (aa (pv 1) (aa (eE (v:=.ty "tuple") rfl T.t.tuple fU rfl) ad)))))
    (fB (aq bu (aG aX rfl T.t.len cr (aa (pv 1) ad)) ae (aw _))))) (ai aK) au)
  (af (aQ (i:=3) mE.nd rfl (Q8 rfl) (lW jB ae))
  (ai (PS.Tz (dM Wg rfl (iK (pv 1)) (cD (i:=4) mE.nd rfl (Q8 rfl))
   (af (aH (cp (cz (aE WD u rfl pS (aa (pv 4) ad)))) (ai aK) au)
   (af (aH (cp (jX hV hV (pv 3) (P9 K (pv 4) ae) (pv 0))) (ai aK) au)
   (af (aH (cp (jX hW hV (aA (v:=.int 1) rfl J ⟨G,rfl⟩) (P9 K (pv 4) ae) (pv 2))) (ai aK) au)
   (ai (aQ (i:=3) mE.nd rfl (Q8 rfl) (P9 K (pv 4) ae)))))))))),?_⟩
 refine⟨_,rfl,_,_,_,_,_,rfl,rfl,.tup q,li,_,rfl,az ?_⟩;have hlen:=m.length;have W:0<xs.length:=by rw[hlen];exact Y8.mpr ne
 refine⟨_,rfl,a,_,rfl,.inr q,rfl,_,rfl,?_⟩;rw[Qd (λh=>by have:=V.int.inj h;lia)];refine az ?_;refine⟨1,rfl,?_⟩;refine⟨_,rfl,a,rfl,⟨_,q⟩,lV (K:=K) (a:=a) (xs:=xs) (λi j c=>∃(last:Int) (g:Option V),j=[some (.int many),some (.ref a),some (.int number),some (.int last),g]/\c=H/\∀d,r[i]?=some d->last<d.1) ⟨-1,none,rfl,rfl,λd hd=>?_⟩ ?_ ?_ ?_⟩
 .have:=(all d (Q6 hd)).1;(first|trivial|lia)
 .rintro i j c _ ⟨last,g,rfl,rfl,_⟩;exact q
 .rintro i y j c D ⟨last,g,rfl,rfl,lt⟩;obtain⟨⟨b,dk⟩,hd,p,rfl,e⟩:=cB m D;obtain⟨S,C,O,n⟩:=all _ (Q6 hd);have I:last<b:=lt _ hd;refine⟨_,rfl,.ref p,(b,dk),rfl,⟨p,rfl,e⟩,_,rfl,az ?_⟩;refine⟨_,rfl,_,rfl,p,_,0,.int b,rfl,rfl,e,bJ,last,b,rfl,rfl,_,rfl,?_⟩;rw[Qk I];refine aU ⟨_,rfl,b,many,rfl,rfl,_,rfl,?_⟩;rw[Qk (show b<many from C)];refine az ?_;refine⟨_,rfl,p,_,1,.int dk,rfl,rfl,e,fO,1,dk,rfl,rfl,_,rfl,?_⟩;rw[Qk (show 1<=dk from O)];refine aU ⟨_,rfl,dk,number,rfl,rfl,_,rfl,?_⟩;rw[Qk (show dk<number from n)];refine az ?_;refine⟨_,rfl,p,_,0,.int b,rfl,rfl,e,bJ,b,some (.ref p),rfl,rfl,λd N=>?_⟩;obtain⟨L,M⟩:=Rh.mp hd;obtain⟨R,o⟩:=Rh.mp N;have:=Ż.mp rise i (i+1) (by simpa using L) (by simpa using R) (Yd _);rw[List.getElem_map,List.getElem_map,M,o] at this;exact this
 .rintro j c ⟨last,g,rfl,rfl,_⟩;exact z
theorem Pk {ns:List Int}:gj (ns.map Int.toNat)=(ns.map Int.toNat).map λm:Nat=>V.int m:=rfl
def u9 (K:Po):Sp:=λvs H Q _=>∃(x:V) (r:Bk.Pn) (l:D') (ms:List Nat) (m:Nat),vs=[x,.ref l]/\bF K H x r/\r≠[]/\r.length<=8/\PX K H l (gj ms)/\
 (∀d∈r,0<=d.1/\d.1<8/\0<=d.2/\d.2<ms.length/\(ms.getD d.2.toNat 0).testBit d.1.toNat=false/\Bk.mB ms d=m)/\∀H',ar H H'->Q (.int (m:Int)) H'
theorem va:QE ["room","things","found"] ["room","things"] (ao mD):={}
theorem AO (F:Qh K "things_of_room" "things_of_room" mD f fd)(T:Rf K mg CO)(WT:Df P w K mg base PV 1 "things_through" ["door","things"] (rL K)):P4 P w K mg base PV 2 f fd ["room","things"] (u9 K):=by
 refine F.ok va (λvs H Q E h=>?_) (λP3 A outer s H vs Q E u h=>?_)
 .obtain⟨x,r,l,I,m,rfl,_⟩:=h;rfl
 obtain⟨x,r,l,I,m,rfl,⟨a,xs,rfl,q,o⟩,ne,r8,J,all,z⟩:=h;refine⟨_,af (qk (i0:=2) va.nd rfl (Q8 rfl) rfl (show Uk (ao mD) ["room","things","found"] _ _ from by constructor <;> decide +kernel) (iK (pv 0)) (λ_ _ _ _ _ _=>iy)
    (λcl C Qy RI fp ac=>aE WT u rfl pS (aa (pv 0) (aa (pv 2) ad))) rfl)
  (af (aH (aq (oE u.Yp) (pv 2) (ay zZ (bC (aa (cI (show U4 _ (fI K) from bL) (pv 2) ae (λ_ _=>rfl)) ad)) (aG aX rfl T.t.len cr (aa (pv 2) ad))) (aw _)) (ai aK) au)
  (ai (aD (cI (show U4 _ (fI K) from bL) (pv 2) ae (λ_ _=>rfl))))),?_⟩
 refine⟨_,rfl,a,rfl,⟨_,q⟩,nC (K:=K) (a:=a) (xs:=xs) (λi ys b=>b=H/\ys=Rj i (V.int (m:Int))) ⟨rfl,rfl⟩ ?_ (by have:=o.length;rw[QA];lia) ?_ ?_⟩
 .rintro i ys b hi ⟨rfl,rfl⟩;exact⟨q,by simp⟩
 .rintro i x ys b N ⟨rfl,rfl⟩;obtain⟨⟨dt,dk⟩,hd,p,rfl,qd⟩:=cB o N;obtain⟨Y,U,a3,Z,W,O⟩:=all _ (Q6 hd);refine ZI (aU ?_);refine⟨_,rfl,_,rfl,.ref p,l,I,(dt,dk),rfl,⟨p,rfl,qd⟩,J,Y,U,a3,Z,W,rfl,?_⟩;rw[O,agh]
 rintro ys b p ⟨rfl,rfl⟩ e;have hlen:=o.length;have Vs:0<xs.length:=by rw[hlen];exact Y8.mpr ne
 have s1:ar b (upd b p (.lst (Rj xs.length (V.int (m:Int))))):=ag e _;have c:SJ (Rj xs.length (V.int (m:Int))) 0=some (V.int (m:Int)):=cH (j:=0) (by rw[afX,PK Vs]);have n:(Rj xs.length (V.int (m:Int))).length=xs.length:=agb;refine⟨_,rfl,_,rfl,p,_,0,.int (m:Int),rfl,rfl,PX.up,c,by show 1<=PH;decide,λg M=>?_⟩;have s2:ar (upd b p (.lst (Rj xs.length (V.int (m:Int))))) (upd (upd b p (.lst (Rj xs.length (V.int (m:Int))))) g (.lst [V.int (m:Int)])):=ag M _;have d:(upd (upd b p (.lst (Rj xs.length (V.int (m:Int))))) g (.lst [V.int (m:Int)])) p=some (.lst (Rj xs.length (V.int (m:Int)))):=s2 _ _ ak;refine⟨_,rfl,p,_,rfl,.inl (.inl (.inl d)),g,((Rj xs.length (V.int (m:Int))).length:Nat),[V.int (m:Int)],rfl,rfl,ak,by lia,by rw[n];lia,by rw[n,QA];simp;lia,λR G=>?_⟩;have X:∀k:Nat,(Rj k [V.int (m:Int)]).flatten=Rj k (V.int (m:Int)):=λk=>by
  induction k with
  | zero=>rfl
  | succ k ih=>rw[Y7,á,ih,Y7];rfl
 rw[n,UT,X];have v:(Rj xs.length (V.int (m:Int))).all ce=true:=by
  rw[Ve];intro y L;rw[List.eq_of_mem_replicate L];rfl
 have D:=(ag G (.lst (Rj xs.length (V.int (m:Int))))) _ _ d;refine⟨p,R,_,_,rfl,rfl,.inl (.inl D),PX.up,v,v,_,rfl,?_⟩;have S:dU (Rj xs.length (V.int (m:Int))) (Rj xs.length (V.int (m:Int)))=true:=by
  have:=kZ (Rj xs.length (m:Int)) (Rj xs.length (m:Int));rw[List.map_replicate,Qk rfl] at this;exact this
 rw[S];refine az ?_;exact⟨_,rfl,p,_,0,.int (m:Int),rfl,rfl,.inl (.inl D),c,z _ ((s1.trans s2).trans (ag G _))⟩
structure OF (many:Int)(rs):Prop where
 wf:Bk.WF rs
 mask:Bk.YM rs
 less:∀r∈rs,∀d∈r,d.1<many
 Qi:rs.length<=1000
def AQ (K:Po):Sp:=λvs H Q _=>∃(many:Int) (l:D') (xs:List V) (rs:List Bk.Pn),vs=[.int many,.ref l]/\PX K H l xs/\PR (bF K H) xs rs/\OF many rs/\
 ∀(t:D') (H':Hp),ar H H'->H' t=some (.lst (gj (Bk.cf rs)))->Q (.ref t) H'
theorem vb:QE ["many","rooms","things","room"] ["many","rooms"] (ao yO):={}
theorem Ft (F:Qh K "things_from" "things_from" yO f fd)(T:Rf K mg CO)(WD:Df P w K mg base PV 3 "look_doors" ["many","room","number"] (xt K))(WO:Df P w K mg base PV 2 "things_of_room" ["room","things"] (u9 K)):
  P4 P w K mg base PV 4 f fd ["many","rooms"] (AQ K):=by
 refine F.ok vb (λvs H Q E h=>?_) (λO A outer s H vs Q E u h=>?_)
 .obtain⟨many,l,xs,rs,rfl,_⟩:=h;rfl
 obtain⟨many,l,xs,rs,rfl,p,C,W,z⟩:=h;refine⟨_,af (aQ (i:=2) vb.nd rfl (Q8 rfl) (bC (aa ae (aa ae ad))))
  (af (PS.Tz (dM Wg rfl (fR (pv 1)) (cD (i:=3) vb.nd rfl (Q8 rfl))
   (af (bv (aE WD u rfl pS (aa (pv 0) (aa (pv 3) (aa (aG aX rfl T.t.len cr (aa (pv 2) ad)) ad)))))
   (ai (bv (gI Xj Y2 Y3 eT (pv 2) (aa (aE WO (u.mono (by decide)) rfl pS (aa (pv 3) (aa (pv 2) ad))) ad)))))))
  (ai (aD (pv 2)))),?_⟩
 refine⟨by show 2<=PH;decide,λt D=>?_⟩;have s1:ar H (upd H t (.lst [V.int 0,V.int 0])):=ag D _;have hlen:=C.length;refine⟨_,rfl,l,rfl,⟨_,s1.R0 p⟩,gu (K:=K) (a:=l) (xs:=xs) (λi n g=>∃j,n=[some (.int many),some (.ref l),some (.ref t),j]/\ar H g/\g t=some (.lst (gj (Bk.cf (rs.take i))))) ⟨none,rfl,s1,ak⟩ ?_ ?_ ?_⟩
 .rintro i n g _ ⟨j,rfl,s2,_⟩;exact s2.R0 p
 .rintro i x n g J ⟨j,rfl,s2,c⟩;obtain⟨r,m,y⟩:=cB C J;have N:=(Rh.mp m).1;have Qi:=W.Qi;have L:(rs.take i).length=i:=by rw[SO];lia
  have ok:=W.wf i r m;obtain⟨mt,I⟩:=Bk.yR W.mask W.wf m;have mem:=Q6 m;have v:(gj (Bk.cf (rs.take i))).length=i+2:=by unfold gj;rw[Qx,Bk.fX,L]
  refine⟨_,rfl,_,rfl,_,rfl,t,_,rfl,.inl (.inl (.inl c)),many,_,x,r,rfl,y.same s2,ok.ne,ok.rise,λd hd=>⟨(mt d hd).1,W.less r mem d hd,(ok.ahead d hd).1,?_⟩,?_⟩
  .rw[v];have:=(ok.ahead d hd).2;(first|trivial|lia)
  refine⟨_,rfl,.inl ⟨rfl,_,.inl (.inl c)⟩,_,rfl,_,rfl,x,r,t,Bk.cf (rs.take i),Bk.RG rs (i+2),rfl,y.same s2,ok.ne,Bk.C7 ok.rise (λd hd=>⟨(mt d hd).1,(mt d hd).2.1⟩),.inl (.inl c),mt,λM s3=>?_⟩;refine⟨t,_,_,rfl,rfl,s3 _ _ c,by rw[v,QA];lia,?_⟩;have G:H t=none:=D;refine⟨_,rfl,λb o e=>?_,?_⟩
  .rw[al (ax e G)];exact s3 b o (s2 b o e)
  .rw[ak,I];unfold gj;rw[UC];rfl
 .rintro n g ⟨j,rfl,s2,c⟩;rw[hlen,UV] at c;exact⟨_,rfl,z t g s2 c⟩
theorem bF.agY (s:dh d H H')(hd:H d=some (.dK kvs))(h:bF K H x r):bF K H' x r:=by
 obtain⟨a,xs,e,q,z⟩:=h;exact⟨a,xs,e,s.P6 hd q,bf (λ_ _ ⟨p,e,q⟩=>⟨p,e,s.P6 hd q⟩) z⟩
def oX (K:Po)(n:Nat):Sp:=λvs H Q _=>∃(l wd:D') (xs:List V) (rs:List Bk.Pn) (k:Int) (ws:List Int),vs=[.ref l,.int k,.ref wd]/\PX K H l xs/\PR (bF K H) xs rs/\Bk.WF rs/\rs.length<=1000/\
 H wd=some (.dK (UO ws))/\Bk.Wd rs ws/\Bk.fu n rs k/\∀H',dh wd H H'->H' wd=some (.dK (UO (Bk.walk n rs k ws)))->Q .Qb H'
theorem AR:QE ["rooms","number","walked","door"] ["rooms","number","walked"] (ao tz):={}
theorem vc (F:Qh K "walk_rooms" "walk_rooms" tz f fd)(T:Rf K mg CO)(n:Nat)(WW:∀m,n=m+1->Df P w K mg base PV (m+1) "walk_rooms" ["rooms","number","walked"] (oX K m)):
  P4 P w K mg base PV (n+1) f fd ["rooms","number","walked"] (oX K n):=by
 refine F.ok AR (λvs H Q E h=>?_) (λP3 A outer s H vs Q E u h=>?_)
 .obtain⟨l,wd,xs,rs,k,j,rfl,_⟩:=h;rfl
 obtain⟨l,wd,xs,rs,k,j,rfl,L,R,wf,Qi,b,W,N,z⟩:=h;obtain⟨Y,X⟩:=T.low
 by_cases c:k∈j
 .refine⟨_,af (aH (zK (Al (sX u) (pv 1) (pv 2))) (ai pQ) au) (af aK (ai aK)),?_⟩;refine⟨_,rfl,_,rfl,wd,_,rfl,iR.k (k:=.inl k) b,_,rfl,?_⟩;rw[qo,Qk c];refine aU ?_;rw[Bk.mz c] at z;exact z H (dh.refl _ _) b
 cases n with
 | zero=>
  exfalso;rcases N with e|e
  .exact c (e▸W.z)
  .exact c (e▸W.o)
 | succ n=>
  obtain⟨k2,kl,fd'⟩:2<=k/\(k-2).toNat<rs.length/\∀d∈Bk.bd rs k,Bk.fu n rs d.2:=by
   rcases N with e|e|e
   .exact Py (e▸W.z) c
   .exact Py (e▸W.o) c
   .exact e
  have D:=WW n rfl;refine⟨_,af (aH (zK (Al (sX u) (pv 1) (pv 2))) (ai pQ) au)
   (af (PS.Tz (dM Wg rfl (iK (cI (show U4 _ (fI K) from bL) (pv 0) (ay oo (pv 1) (aA (v:=.int 2) rfl X ⟨Y,rfl⟩)) (λ_ _=>rfl))) (cD (i:=3) AR.nd rfl (Q8 rfl))
    (ai (bv (aE D u rfl pS (aa (pv 0) (aa (P9 K (pv 3) ae) (aa (pv 2) ad))))))))
   (ai (E5 (sX u) (pv 2) (pv 1) hR rfl))),?_⟩
  refine⟨_,rfl,_,rfl,wd,_,rfl,iR.k (k:=.inl k) b,_,rfl,?_⟩;rw[qo,Qd c];refine az ?_;obtain⟨x,Z,ra⟩:=gJ R (Bk.gT kl);obtain⟨a,ys,rfl,M,O⟩:=id ra;have ik:SJ xs (k-2)=some (.ref a):=by
   have:=cH Z;rw[show(((k-2).toNat:Nat):Int)=k-2 by lia] at this;exact this
  refine⟨_,rfl,_,rfl,k,2,rfl,rfl,l,xs,k-2,.ref a,rfl,rfl,L,ik,a,rfl,⟨_,M⟩,
   lV (K:=K) (a:=a) (xs:=ys) (λi I g=>∃C,I=[some (.ref l),some (.int k),some (.ref wd),C]/\dh wd H g/\g wd=some (.dK (UO (((Bk.bd rs k).take i).foldl (λw d=>Bk.walk n rs d.2 w) j)))) ⟨none,rfl,dh.refl _ _,b⟩ ?_ ?_ ?_⟩
  .rintro i I g _ ⟨C,rfl,s2,_⟩;exact s2.P6 b M
  .rintro i y I g U ⟨C,rfl,s2,t⟩;obtain⟨⟨dt,dk⟩,hd,p,rfl,qd⟩:=cB O U;obtain⟨il,ie⟩:=Rh.mp hd;obtain⟨G,J⟩:=Bk.lB wf W kl k2 c fd' i (by lia);refine⟨_,rfl,_,rfl,p,_,1,.int dk,rfl,rfl,s2.P6 b qd,fO,_,rfl,l,wd,xs,rs,dk,_,rfl,s2.R0 b L,bf (λ_ _ z=>z.agY s2 b) R,wf,Qi,t,G,fd' _ (Q6 hd),λH3 s3 S=>?_⟩;refine⟨_,rfl,s2.trans s3,?_⟩;rw[cC hd,Yc];exact S
  .rintro I g ⟨C,rfl,s2,t⟩;have hl:=O.length;obtain⟨G,J⟩:=Bk.lB wf W kl k2 c fd' (Bk.bd rs k).length (P1 _);rw[hl] at t;rw[UV] at t G J;refine⟨_,rfl,_,rfl,wd,_,rfl,ur.k (k:=.inl k) t ?_,?_⟩
   .unfold UO;rw[Qx,QA];have:=G.len;lia
   .refine z _ (s2.trans (dh.upd _)) ?_;have e:Bk.walk (n+1) rs k j=(Bk.bd rs k).foldl (λw d=>Bk.walk n rs d.2 w) j++[k]:=by rw[Bk.walk];exact Pr c
    rw[ak,Fu J,e]
theorem xx (F:Qh K "walk_rooms" "walk_rooms" tz f fd)(T:Rf K mg CO)(b:bA K fd ["rooms","number","walked"] [])(m:mg "walk_rooms"=some (.ref f)):
  ∀n,P4 P w K mg base PV (n+1) f fd ["rooms","number","walked"] (oX K n)
 | 0=>vc F T 0 λm h=>nomatch h
 | n+1=>vc F T (n+1) λk h=>by
  cases h;exact⟨f,fd,xx F T b m n,b,F.kp,m⟩
theorem bF.rep (h:bF K H x r):cu.rep K H x (enc r):=by
 obtain⟨a,xs,e,q,z⟩:=h;refine⟨a,xs,e,q,?_⟩;clear q e
 induction z with
 | nil=>exact .nil
 | cons h _ b=>
  obtain⟨p,e,q⟩:=h;exact .cons ⟨p,_,e,q,.cons rfl (.cons rfl .nil)⟩ b
theorem rM:∀{xs:List V}{rs:List Bk.Pn},PR (bF K H) xs rs->PR (cu.rep K H) xs (rs.map enc)
 | _,_,.nil=>.nil
 | _,_,.cons h t=>.cons h.rep (rM t)
def xz (K:Po)(n:Nat):Sp:=λvs H Q _=>∃(l:D') (xs:List V) (rs:List Bk.Pn) (k:Int),vs=[.ref l,.int k]/\PX K H l xs/\PR (bF K H) xs rs/\Bk.WF rs/\rs.length<70/\rs.Nodup/\Bk.fu n rs k/\Bk.walk n rs k [0,1]=bw (rs.length+2)/\
 ∀H',ar H H'->Q .Qb H'
theorem xA:QE ["rooms","first","walked"] ["rooms","first"] (ao u8):={}
theorem C8 (n:Nat)(F:Qh K "look_turn" "look_turn" u8 f fd)(T:Rf K mg CO)(WW:Df P w K mg base PV (n+1) "walk_rooms" ["rooms","number","walked"] (oX K n)):
  P4 P w K mg base PV (n+2) f fd ["rooms","first"] (xz K n):=by
 refine F.ok xA (λvs H Q E h=>?_) (λP3 A outer s H vs Q E j h=>?_)
 .obtain⟨l,xs,rs,k,rfl,_⟩:=h;rfl
 obtain⟨l,xs,rs,k,rfl,g,J,wf,Qi,nd,W,wk,z⟩:=h;obtain⟨t0,m0⟩:=T.no;obtain⟨t1,m1⟩:=T.en;obtain⟨Z,Y⟩:=T.low;refine⟨_,af (aH (aq dY (aG AM rfl T.t.len cr (aa (bX (AL cu (K9 P w) (by have:=j.un;show(A.deeper _).units+1+1+1+1<Qv;lia) rfl (λI h=>lm I h) (λ⟨p,_,e,_⟩=>⟨p,e⟩)) rfl T.set yS (aa (pv 0) ad)) ad))
    (aG aX rfl T.t.len cr (aa (pv 0) ad)) (aw _)) (ai aK) au)
  (af (aQ (i:=2) xA.nd rfl (Q8 rfl) (pZ (cU (aA (v:=.int 0) rfl m0 ⟨t0,rfl⟩) hR (cU (aA (v:=.int 1) rfl m1 ⟨t1,rfl⟩) hR pY)) rfl rfl (by decide) (by decide)))
  (af (bv (aE WW j rfl pS (aa (pv 0) (aa (pv 1) (aa (pv 2) ad)))))
  (ai (aH (aq (oE j.Yp) (bX (qc rfl) rfl T.t.list oH (aa (pv 2) ad))
    (bX (kO rfl) rfl T.t.list oH (aa (bX qT rfl T.t.range wV (aa (ay bT (aA (v:=.int 2) rfl Y ⟨Z,rfl⟩) (aG aX rfl T.t.len cr (aa (pv 0) ad))) ad)) ad)) (aw _))
   (ai aK) au)))),?_⟩
 refine⟨_,rfl,.ref l,rs.map enc,rfl,⟨l,xs,rfl,g,rM J⟩,by rw[Qx];exact Qi,λp bs ks u pb D mem=>?_⟩;have s1:ar H (upd H p (j8 w p bs)):=ag u _;have hlen:=J.length;have y:(rs.map enc).Nodup:=by
  unfold È;rw[Wc];exact nd.imp λh e=>h (xy e)
 have lb:bs.length=xs.length:=by
  have h1:=dC ks (rs.map enc) D λx hx=>(mem x).mp hx;have h2:=dC (rs.map enc) ks y λx hx=>(mem x).mpr hx;have h3:=pb.length;rw[Qx] at h1 h2;lia
 refine⟨p,bs,rfl,ak,?_⟩;refine⟨_,rfl,l,_,rfl,.inl (s1.R0 g),rfl,_,rfl,?_⟩;rw[lb,Qk rfl];refine az ?_;intro wd d;refine⟨ak,[(RH 0,V.bl true),(RH 1,V.bl true)],rfl,by decide,?_⟩;have R:(upd (upd (upd H p (j8 w p bs)) wd (HO.dK [])) wd (HO.dK (gf [] [(RH 0,V.bl true),(RH 1,V.bl true)]))) wd=some (.dK (UO [0,1])):=by rw[ak];rfl
 have s3:ar H (upd (upd (upd H p (j8 w p bs)) wd (HO.dK [])) wd (HO.dK (gf [] [(RH 0,V.bl true),(RH 1,V.bl true)]))):=λb o e=>by
  have nb:b≠wd:=ax (s1 b o e) d;rw[al nb,al nb];exact s1 b o e
 refine⟨_,rfl,_,rfl,_,rfl,l,wd,xs,rs,k,[0,1],rfl,s3.R0 g,bf (λ_ _ z=>z.same s3) J,wf,by lia,R,⟨by decide,λx hx=>?_,by decide,by decide⟩,W,λN s4 L=>?_⟩
 .rcases Qe.mp hx with rfl|hx
  .omega
  .rw[Ri.mp hx];lia
 rw[wk] at L;have m:H wd=none:=s1.free d;have s5:ar H N:=λb o e=>s4 b o (ax e m) (s3 b o e);have e1:(UO (bw (rs.length+2))).map (λU=>kV U.1)=(bw (rs.length+2)).map V.int:=by
  unfold UO;rw[Yi];rfl
 refine⟨_,rfl,wd,_,rfl,L,λC X=>?_⟩;rw[e1];have s6:=s5.trans (ag X (.lst ((bw (rs.length+2)).map V.int)));refine⟨_,rfl,l,_,rfl,.inl (s6.R0 g),2,_,rfl,rfl,_,rfl,λr1 c=>?_⟩;have s7:=s6.trans (ag c (.Wv 0 (2+((xs.length:Nat):Int))));refine⟨r1,0,2+((xs.length:Nat):Int),rfl,ak,by (first|trivial|lia),by (first|trivial|lia),by lia,by lia,by lia,λM O=>?_⟩;have S:jY 0 (2+((xs.length:Nat):Int)-0).toNat=(bw (rs.length+2)).map V.int:=by
  rw[gP,show(2+((xs.length:Nat):Int)-0).toNat=rs.length+2 by lia]
 rw[S];have G:(upd (upd (upd N C (.lst ((bw (rs.length+2)).map V.int))) r1 (.Wv 0 (2+((xs.length:Nat):Int)))) M (.lst ((bw (rs.length+2)).map V.int))) C=some (.lst ((bw (rs.length+2)).map V.int)):=
  ag O _ _ _ (ag c _ _ _ ak)
 refine⟨C,M,_,_,rfl,rfl,.inl (.inl G),PX.up,gO _,gO _,_,rfl,?_⟩;rw[kZ,Qk rfl];exact az (z _ (s7.trans (ag O _)))
structure ô (many:Nat)(rs)(first:Nat):Prop where
 m1:1<=many
 m8:many<=8
 rooms:OF many rs
 Qi:rs.length<70
 nd:rs.Nodup
 fst:first=0\/(1<first/\first<rs.length+2/\Bk.RG rs first=2 ^ many-1)
 fits:Bk.fu 8 rs first
 walk:Bk.walk 8 rs first [0,1]=bw (rs.length+2)
theorem Ul.same (s:ar H H')(h:Ul K H x many rs first):Ul K H' x many rs first:=by
 obtain⟨b,l,xs,e,q,c,d⟩:=h.ex;exact⟨b,l,xs,e,s.P6 q,s.R0 c,bf (λ_ _ z=>z.same s) d⟩
theorem lC:QE ["book","many","rooms","first","things"] ["book"] (ao yP):={}
abbrev yT (many:Nat):Int->Prop:=λx=>0<=x/\x<(many:Int)
theorem yU (m1:1<=many)(m8:many<=8):ô many [] 0 where
 m1:=m1
 m8:=m8
 rooms:=⟨(λi r h=>by simp at h),(λi r h=>by simp at h),(λr h=>nomatch h),(by decide)⟩
 Qi:=by decide
 nd:=Zh
 fst:=.inl rfl
 fits:=.inl rfl
 walk:=by rw[show((0:Nat):Int)=0 from rfl,Bk.mz (by decide)];rfl
theorem AU {os:Bk.ap}(m1:1<=many)(m8:many<=8)(h:Bk.hG many (yT many) os)(ne:os≠[])(Qi:(Bk.lay many os []).2.length<70):ô many (Bk.lay many os []).2 (Bk.lay many os []).1:=by
 have b:Bk.WF []:=λi r h=>by simp at h
 have c:Bk.YM []:=λi r h=>by simp at h
 obtain⟨wf,pre,tells⟩:=Bk.cW many os [] h.plain ne b;obtain⟨mk,f⟩:=Bk.uU many (yT many) os [] h ne b c;have all:∀o∈Bk.RP (Bk.lay many os []).2 (Bk.lay many os []).1,o.length=many:=λo d=>(h o ((tells.mem o).mp d)).1;have g:=Bk.xn wf many _ tells.lo tells.hi all;refine⟨m1,m8,⟨wf,mk,Bk.vd many os [] (λo d x j=>(((h o d).2.2.2 x).mp j).2) (λr h=>by cases h),by lia⟩,Qi,Bk.rD many os [] Zh,.inr ⟨?_,tells.hi,Bk.C2 f⟩,g.le m8,?_⟩
 .have lo:=tells.lo;have m:(Bk.lay many os []).1≠1:=λe=>by
   have:=all [] (by rw[e,Bk.jL];exact Qa);simp at this;lia
  lia
 .have:=Bk.uT many os [] (Bk.lay many os []).2 h.plain ne b Th 8 m8;exact this
theorem Fv {os:Bk.ap}(h:Bk.hG many (yT many) os)(ne:os≠[]):Bk.cP (Bk.RP (Bk.lay many os []).2 (Bk.lay many os []).1)/\Bk.fN (Bk.RP (Bk.lay many os []).2 (Bk.lay many os []).1) os:=by
 obtain⟨wf,pre,tells⟩:=Bk.cW many os [] h.plain ne (λi r h=>by simp at h);exact⟨tells.rise,tells.mem⟩
noncomputable abbrev AV:PD:=top 19
noncomputable def xC (s:PD):List PD:=match s with
 | .ClassDef _ _ _ b _ _ _ _ _ _ _=>b
 | _=>[]
noncomputable abbrev yV:PD:=(xC AV).getD 0 (.Pass ⟨0,0,0,0⟩)
noncomputable abbrev tD:PD:=(xC AV).getD 1 (.Pass ⟨0,0,0,0⟩)
structure V2 (K)(C):Prop where
 cls:VZ K C
 rooms:gN K C "rooms"
 aaq:gN K C "numbers"
def nS (L:T9)(rs:List Bk.Pn):Prop:=L.length=rs.length/\∀(i:Nat) (e:List (List Int)×D'×Int),L[i]?=some e->∃r,rs[i]?=some r/\e.1=enc r/\e.2.2=(i:Int)+2
structure SL (K)(C)(H)(x lr dn)(rs):Prop where
 ex:∃dx xs L,H x=some (.ins C dx [("rooms",.ref lr),("numbers",.ref dn)])/\H lr=some (.lst xs)/\PR (bF K H) xs rs/\H dn=some (fL dn L)/\j6 K H L/\nS L rs
def oY (K:Po)(C:D'):Sp:=λvs H Q _=>∃(x dx:D'),vs=[.ref x]/\H x=some (.ins C dx [])/\∀(lr dn:D') (H':Hp),H lr=none->H dn=none->(∀b o,b≠x->H b=some o->H' b=some o)->SL K C H' x lr dn []->Q .Qb H'
theorem GZ:QE ["self"] ["self"] (ao yV):={}
theorem xD (F:Qh K "__init__" "Shelf.__init__" yV f fd)(c:V2 K C):P4 P w K mg base PV 1 f fd ["self"] (oY K C):=by
 refine F.ok GZ (λvs H Q E h=>?_) (λG A outer s H vs Q E D h=>?_)
 .obtain⟨x,p,rfl,_⟩:=h;rfl
 obtain⟨x,p,rfl,v,z⟩:=h;refine⟨_,af (zV (pv 0) (bC ad) rfl) (ai (zV (pv 0) Cv rfl)),?_⟩;refine⟨by show 0<=PH;decide,λn u=>?_⟩;have m:x≠n:=ax v u;refine⟨_,rfl,x,C,p,[],rfl,by rw[al m];exact v,c.cls,c.rooms,by decide,?_⟩;intro j d;have t:x≠j:=ax ak d;have y:n≠j:=λe=>by
  subst e;rw[al (QC m),ak] at d;cases d
 have g:H j=none:=by
  rw[al (QC t),al (QC y)] at d;exact d
 refine⟨_,rfl,x,C,p,[("rooms",.ref n)],rfl,by rw[al t,ak];rfl,c.cls,c.aaq,by show 1<1000;decide,?_⟩;refine z n j _ u g (λb o nb e=>?_) ⟨p,[],[],?_,?_,.nil,?_,(λe h=>nomatch h),rfl,(λi e h=>nomatch h)⟩
 .rw[al nb,al (ax e g),al nb,al (ax e u)];exact e
 .rw[ak];rfl
 .rw[al (QC m),al y,al (QC m),ak]
 .rw[al (QC t),ak]
theorem bF.soft (hd:H d=some o)(so:iV o)(h:bF K H x r):bF K (upd H d u) x r:=by
 obtain⟨a,xs,e,q,z⟩:=h;exact⟨a,xs,e,q.soft hd so,bf (λ_ _ ⟨p,e,q⟩=>⟨p,e,q.soft hd so⟩) z⟩
theorem nS.val (h:nS L rs)(r):fq L (enc r)=if r∈rs then some (((rs.idxOf r:Nat):Int)+2) else none:=xB h.1 h.2
theorem nS.snoc (h:nS L rs)(r)(b):nS (L++[(enc r,b,(rs.length:Int)+2)]) (rs++[r]):=by
 refine⟨by rw[Rt,Rt,h.1];rfl,λi e c=>?_⟩
 by_cases f:i<L.length
 .rw[Xh f] at c;obtain⟨g,n,j,m⟩:=h.2 i e c;exact⟨g,by rw[Xh (by rw[<-h.1];exact f)];exact n,j,m⟩
 .have d:=(Rh.mp c).1;rw[Rt] at d;have o:i=L.length:=by simp at d;lia
  subst o;rw[YZ (P1 _)] at c;simp at c;subst c;exact⟨r,by rw[h.1,YZ (P1 _)];simp,rfl,by rw[h.1]⟩
def jM (K:Po)(C:D'):Sp:=λvs H Q _=>∃(x lr dn:D') (rs:List Bk.Pn) (y:V) (r:Bk.Pn),vs=[.ref x,y]/\SL K C H x lr dn rs/\bF K H y r/\rs.length<1000/\
 ∀H',(∀b o,b≠lr->b≠dn->H b=some o->H' b=some o)->SL K C H' x lr dn (Bk.keep rs r).2->Q (.int ((Bk.keep rs r).1:Nat)) H'
theorem G0:QE ["self","room"] ["self","room"] (ao tD):={}
theorem xE (F:Qh K "keep" "Shelf.keep" tD f fd)(T:Rf K mg CO)(c:V2 K C):P4 P w K mg base PV 1 f fd ["self","room"] (jM K C):=by
 refine F.ok G0 (λvs H Q E h=>?_) (λP3 A outer s H vs Q E hr h=>?_)
 .obtain⟨x,g,d,rs,y,r,rfl,_⟩:=h;rfl
 obtain⟨x,g,d,rs,y,r,rfl,S,G,Qi,z⟩:=h;obtain⟨n,xs,L,p,R,pr,D,O,I⟩:=S.ex;obtain⟨b,ys,rfl,qb,pb⟩:=id G;obtain⟨t2,m2⟩:=T.low;have W:(eS PV P w K mg base ["self","room"] "Shelf.keep" (ao tD) f P3 A outer s H E).Tz.A.units+2<Qv:=by have:=hr.un;show(A.deeper _).units+2<Qv;lia
 refine⟨_,af (aH (aq (An W) (pv 1) (iM (pv 0) rfl) rfl)
   (af (E8 W (iM (pv 0) rfl) (pv 1) (ay bT (aG aX rfl T.t.len cr (aa (iM (pv 0) rfl) ad)) (aA (v:=.int 2) rfl m2 ⟨t2,rfl⟩)) rfl)
   (ai (bv (gI Xj Y2 Y3 eT (iM (pv 0) rfl) (aa (pv 1) ad))))) au)
  (ai (aD (E7 W (iM (pv 0) rfl) (pv 1) (λ_ _=>rfl)))),?_⟩
 have hlen:=pr.length;have n1:x≠g:=i8 p R (λh=>nomatch h);have n2:x≠d:=i8 p D (λh=>nomatch h);have Z:g≠d:=i8 R D (λh=>nomatch h);refine⟨_,rfl,_,rfl,x,C,n,_,.ref d,rfl,p,c.cls,c.aaq,rfl,d,L,b,enc r,rfl,rfl,D,O,G.rep,_,rfl,?_⟩;rw[I.val r]
 by_cases m:r∈rs
 .rw[PK m];refine az ?_;have U:Bk.keep rs r=(rs.idxOf r+2,rs):=by unfold Bk.keep;rw[PK m]
  rw[U] at z;refine⟨_,rfl,x,C,n,_,.ref d,rfl,p,c.cls,c.aaq,rfl,_,rfl,d,L,b,enc r,_,rfl,rfl,D,O,G.rep,(I.val r).trans (PK m),?_⟩;exact z H (λb o _ _ e=>e) S
 .rw[Pr m];refine aU ?_;have U:Bk.keep rs r=(rs.length+2,rs++[r]):=by unfold Bk.keep;rw[Pr m]
  rw[U] at z;refine⟨_,rfl,x,C,n,_,.ref g,rfl,p,c.cls,c.rooms,rfl,g,xs,rfl,.inl (.inl (.inl R)),_,2,rfl,rfl,_,rfl,x,C,n,_,.ref d,rfl,p,c.cls,c.aaq,rfl,_,rfl,d,L,b,enc r,_,rfl,rfl,rfl,D,O,G.rep,(I.val r).trans (Pr m),by rw[I.1,QA];lia,?_⟩;have X:iV (fL d L):=trivial;have j:∀u,upd H d u g=some (.lst xs):=λu=>by rw[al Z];exact R
  have YI:∀u,upd H d u x=some (.ins C n [("rooms",.ref g),("numbers",.ref d)]):=λu=>by rw[al n2];exact p
  have sl:iV (.lst xs):=trivial;refine⟨_,rfl,x,C,n,_,.ref g,rfl,YI _,c.cls,c.rooms,rfl,.inl ⟨rfl,_,.inl (.inl (j _))⟩,_,rfl,g,xs,.ref b,rfl,rfl,j _,by rw[QA];lia,?_⟩;have eL:(xs.length:Int)+2=(rs.length:Int)+2:=by lia
  have ZR:nS (L++[(enc r,b,(xs.length:Int)+2)]) (rs++[r]):=by rw[eL];exact I.snoc r b
  have M:∀{y:V}{r':Bk.Pn}{u v:HO},bF K H y r'->bF K (upd (upd H d u) g v) y r':=λh=>(h.soft D X).soft (j _) sl;have kk:∀{u v:HO},j6 K (upd (upd H d u) g v) (L++[(enc r,b,(xs.length:Int)+2)]):=λ{u v} e he=>by
   rcases QW.mp he with h|h
   .exact kh (j _) sl (kh D X (O e h))
   .rw[Ri.mp h];exact(M G).rep
  have Y:∀u v,upd (upd H d u) g v x=some (.ins C n [("rooms",.ref g),("numbers",.ref d)]):=λu v=>by rw[al n1];exact YI u
  have J:∀u v,upd (upd H d u) g v d=some u:=λu v=>by rw[al (QC Z),ak]
  refine⟨_,rfl,x,C,n,_,.ref d,rfl,Y _ _,c.cls,c.aaq,rfl,_,rfl,d,_,b,enc r,(xs.length:Int)+2,rfl,rfl,J _ _,kk,(M G).rep,?_,?_⟩
  .have N:=ZR.val r;rw[PK (Sc _ Qa)] at N;rw[N,Ŵ,Pr m];simp;lia
  .have:=z _ (λb o N h2 e=>by rw[al N,al h2];exact e) ⟨n,_,_,Y _ _,ak,dG (bf (λ_ _ h=>M h) pr) (.cons (M G) .nil),J _ _,kk,ZR⟩;rw[show((rs.length+2:Nat):Int)=(xs.length:Int)+2 by lia] at this;exact this
def fz (K:Po)(H0:Hp)(dP:D')(H:Hp)(kv:Key×V)(e:Int×Bk.ap):Prop:=∃a vs,kv=(RH e.1,.ref a)/\H0 a=none/\a≠dP/\H a=some (.lst vs)/\PR (aV.rep K H) vs e.2
structure Yq (K:Po)(H0:Hp)(dP:D')(H:Hp)(kvs:List (Key×V))(g:List (Int×Bk.ap)):Prop where
 at_:H dP=some (.dK kvs)
 V3:PR (fz K H0 dP H) kvs g
 nd:(kvs.map (·.2)).Nodup
theorem fz.soft (hd:H d=some o)(so:iV o)(ne:kv.2≠.ref d)(h:fz K H0 dP H kv e):fz K H0 dP (upd H d u) kv e:=by
 obtain⟨a,vs,rfl,f,g,b,c⟩:=h;exact⟨a,vs,rfl,f,g,by rw[al (λz=>ne (by rw[z]))];exact b,bf (λ_ _ z=>eW hd so z) c⟩
theorem fz.same (s:ar H H')(h:fz K H0 dP H kv e):fz K H0 dP H' kv e:=by
 obtain⟨a,vs,rfl,d,f,b,c⟩:=h;exact⟨a,vs,rfl,d,f,s _ _ b,bf (λ_ _ z=>aV.mono s z) c⟩
theorem qu:∀{kvs:List (Key×V)}{g:List (Int×Bk.ap)},PR (fz K H0 dP H) kvs g->(cj kvs (.inl k)=none/\k∉g.map (·.1))\/∃a vs,cj kvs (.inl k)=some (.ref a)/\k∈g.map (·.1)/\V.ref a∈kvs.map (·.2)/\H0 a=none/\a≠dP/\H a=some (.lst vs)/\∃e∈g,vs.length=e.2.length
 | _,_,.nil=>.inl ⟨rfl,(λh=>nomatch h)⟩
 | kv::kvs,e::g,.cons h t=>by
  obtain⟨a,vs,rfl,n,x,f,j⟩:=h
  by_cases c:e.1=k
  .subst c;exact .inr ⟨a,vs,ed rfl,Qs.mpr ⟨e,Qa,rfl⟩,Qa,n,x,f,e,Qa,j.length⟩
  .rw[ef (λz=>c (Ê z))];rcases qu (k:=k) t with⟨d,b⟩|⟨u,m,d,b,y,A,v,s,p,w,o⟩
   .exact .inl ⟨d,λz=>by rcases Qe.mp z with z|z;exact c z.symm;exact b z⟩
   .exact .inr ⟨u,m,d,Qr _ b,Qr _ y,A,v,s,p,Qr _ w,o⟩
theorem vh (hy:aV.rep K H y o)(ha:H a=some (.lst vs)):∀{kvs:List (Key×V)}{g:List (Int×Bk.ap)},PR (fz K H0 dP H) kvs g->(kvs.map (·.2)).Nodup->(g.map (·.1)).Nodup->cj kvs (.inl k)=some (.ref a)->
  PR (fz K H0 dP (upd H a (.lst (vs++[y])))) kvs (g.map λe=>if e.1=k then (e.1,e.2++[o]) else e)
 | _,_,.nil,_,_,h=>nomatch h
 | kv::kvs,e::g,.cons h t,nd,m,b=>by
  rw[QJ,Tw] at nd m;have v:=h;obtain⟨w,A,rfl,u,x,n,p⟩:=h;rw[QJ]
  by_cases c:e.1=k
  .subst c;rw[ed rfl] at b;cases b;rw[ha] at n;cases n;rw[PK rfl];have rest:∀{kvs:List (Key×V)}{g:List (Int×Bk.ap)},PR (fz K H0 dP H) kvs g->V.ref a∉kvs.map (·.2)->e.1∉g.map (·.1)->PR (fz K H0 dP (upd H a (.lst (vs++[y])))) kvs (g.map λd=>if d.1=e.1 then (d.1,d.2++[o]) else d):=by
    intro kvs g t
    induction t with
    | nil=>intro _ _;exact .nil
    | @cons kv0 e0 kvs g h _ ih=>
     intro j f;rw[QJ,Qe,not_or] at j f;rw[QJ,Pr (QC f.1)];exact .cons (h.soft ha trivial (QC j.1)) (ih j.2 f.2)
   refine .cons ⟨a,vs++[y],rfl,u,x,ak,dG (bf (λ_ _ z=>eW ha trivial z) p) (.cons (eW ha trivial hy) .nil)⟩ (rest t nd.1 m.1)
  .rw[Pr c];rw[ef (λz=>c (Ê z))] at b;have s:V.ref w≠V.ref a:=λz=>by
    have:∀{kvs:List (Key×V)},cj kvs (.inl k)=some (.ref a)->V.ref a∈kvs.map (·.2):=by
     intro kvs
     induction kvs with
     | nil=>intro h;cases h
     | cons kv kvs ih=>
      intro h
      by_cases c:kv.1=.inl k
      .rw[ed c] at h;exact Qe.mpr (.inl (UW h).symm)
      .rw[ef c] at h;exact Qr _ (ih h)
    exact nd.1 (z▸this b)
   exact .cons (v.soft ha trivial s) (vh hy ha t nd.2 m.2 b)
theorem oZ (p:Nat)(os):(Bk.bV p os).length<=os.length:=
 Bk.qt (P:=λos=>(Bk.bV p os).length<=os.length) (P1 _) (λl x b=>by
  rw[Bk.fF,Rt];unfold Bk.lE
  split
  .rw[Qx];simp;lia
  .rw[Rt];simp;(first|trivial|lia)) os
theorem Yq.more {os:Bk.ap}(h:Yq K H0 dP H kvs (Bk.bV p os))(S9:H e0=none)(hy:aV.rep K H y o)(hv:cj kvs (.inl (Bk.QH p o))=some (.ref a))(hk:Bk.QH p o∈(Bk.bV p os).map (·.1))(ha:H a=some (.lst vs))(nd:a≠dP):Yq K H0 dP (upd (upd H e0 (.lst [])) a (.lst (vs++[y]))) kvs (Bk.bV p (os++[o])):=by
 have s1:ar H (upd H e0 (.lst [])):=ag S9 _;rw[Bk.fF];unfold Bk.lE;rw[PK hk];refine⟨?_,vh (aV.mono s1 hy) (s1 _ _ ha) (bf (λ_ _ z=>z.same s1) h.V3) h.nd (Bk.fZ p os).nd hv,h.nd⟩;rw[al (QC nd)];exact s1 _ _ h.at_
theorem Yq.fresh {os:Bk.ap}(h:Yq K H0 dP H kvs (Bk.bV p os))(S9:H e0=none)(h0:H0 e0=none)(hy:aV.rep K H y o)(hv:cj kvs (.inl (Bk.QH p o))=none)(hk:Bk.QH p o∉(Bk.bV p os).map (·.1)):
  Yq K H0 dP (upd (upd (upd H e0 (.lst [])) dP (.dK (du kvs (.inl (Bk.QH p o)) (.ref e0)))) e0 (.lst ([]++[y]))) (kvs++[(.inl (Bk.QH p o),.ref e0)]) (Bk.bV p (os++[o])):=by
 have s1:ar H (upd H e0 (.lst [])):=ag S9 _;have c:dP≠e0:=ax h.at_ S9;have ep:du kvs (.inl (Bk.QH p o)) (.ref e0)=kvs++[(.inl (Bk.QH p o),.ref e0)]:=by
  unfold du;rw[j4,hv,Pr (by decide)]
 have w:(upd H e0 (.lst [])) dP=some (.dK kvs):=s1 _ _ h.at_;have m:∀u,(upd (upd H e0 (.lst [])) dP u) e0=some (.lst []):=λu=>by rw[al (QC c),ak]
 have j:∀{kvs:List (Key×V)}{g:List (Int×Bk.ap)},PR (fz K H0 dP H) kvs g->∀b∈kvs,b.2≠.ref dP/\b.2≠.ref e0:=by
  intro kvs g t b d;obtain⟨e,_,a,vs,rfl,_,F,s,_⟩:=fK t b d;exact⟨λz=>F (V.ref.inj z),λz=>by
   have:a=e0:=V.ref.inj z;rw[this,S9] at s;cases s⟩
 have old:∀{kvs:List (Key×V)}{g:List (Int×Bk.ap)}{u v:HO},PR (fz K H0 dP H) kvs g->(∀b∈kvs,b.2≠.ref dP/\b.2≠.ref e0)->PR (fz K H0 dP (upd (upd (upd H e0 (.lst [])) dP u) e0 v)) kvs g:=by
  intro kvs g u v t
  induction t with
  | nil=>intro _;exact .nil
  | cons h _ ih=>
   intro f;obtain⟨C,D⟩:=f _ Qa;exact .cons (((h.same s1).soft w trivial C).soft (m u) trivial D) (ih λb d=>f b (Qr _ d))
 rw[Bk.fF];unfold Bk.lE;rw[Pr hk];refine⟨by rw[al c,ak,ep],dG (old h.V3 (j h.V3)) (.cons ⟨e0,[]++[y],rfl,h0,QC c,ak,.cons (eW (m _) trivial (eW w trivial (aV.mono s1 hy))) .nil⟩ .nil),?_⟩;rw[UC,Xn];refine⟨h.nd,by simp,λx A E n=>?_⟩;obtain⟨b,d,rfl⟩:=Qs.mp A;have:E=V.ref e0:=by simpa using n
 rw[this];exact(j h.V3 b d).2
def dE (lr dn:D')(H H':Hp):Prop:=∀b o,b≠lr->b≠dn->H b=some o->H' b=some o
theorem dE.refl:dE lr dn H H:=λ_ _ _ _ e=>e
theorem dE.trans (s:dE lr dn H H')(s':dE lr dn H' TB):dE lr dn H TB:=λb o c d e=>s' b o c d (s b o c d e)
theorem dE.of (s:ar H H'):dE lr dn H H':=λb o _ _ e=>s b o e
theorem dE.P6 (s:dE lr dn H H')(Rm:H lr=some (.lst rx))(Rg:H dn=some (fL dn L))(h:PM K H a xs):PM K H' a xs:=by
 rcases h with(h|⟨o,h⟩)|h
 .exact .inl (.inl (s _ _ (by rintro rfl;rw[Rm] at h;cases h) (by rintro rfl;rw[Rg] at h;cases h) h))
 .exact .inl (.inr ⟨o,s _ _ (by rintro rfl;rw[Rm] at h;cases h) (by rintro rfl;rw[Rg] at h;cases h) h⟩)
 .exact .inr h
theorem fh.ag0 (s:dE lr dn H H')(Rm:H lr=some (.lst rx))(Rg:H dn=some (fL dn L))(h:fh K H y d):fh K H' y d:=by
 obtain⟨p,e,q⟩:=h;exact⟨p,e,s.P6 Rm Rg q⟩
theorem yX (s:dE lr dn H H')(Rm:H lr=some (.lst rx))(Rg:H dn=some (fL dn L))(h:aV.rep K H y o):aV.rep K H' y o:=by
 obtain⟨p,rfl,q⟩:=dH h;exact cX (s.P6 Rm Rg q)
theorem SL.same (s:ar H H')(h:SL K C H x lr dn rs):SL K C H' x lr dn rs:=by
 obtain⟨n,xs,L,d,m,b,c,f,g⟩:=h.ex;exact⟨n,xs,L,s _ _ d,s _ _ m,bf (λ_ _ z=>z.same s) b,s _ _ c,λe j=>cu.mono s (f e j),g⟩
theorem SL.upd (hd:H d=some o)(so:iV o)(n1:x≠d)(n2:lr≠d)(n3:dn≠d)(h:SL K C H x lr dn rs):SL K C (L2.upd H d u) x lr dn rs:=by
 obtain⟨p,xs,L,f,n,b,c,g,j⟩:=h.ex;exact⟨p,xs,L,by rw[al n1];exact f,by rw[al n2];exact n,bf (λ_ _ z=>z.soft hd so) b,by rw[al n3];exact c,λe m=>kh hd so (g e m),j⟩
noncomputable abbrev mL:PD:=top 33
noncomputable abbrev pi:PD:=top 32
def aO (as:List D')(H H':Hp):Prop:=∀b o,b∉as->H b=some o->H' b=some o
def cY (H:Hp)(as:List D'):Prop:=∀a∈as,∃o,H a=some o/\iV o
theorem aO.refl:aO as H H:=λ_ _ _ e=>e
theorem aO.trans (s:aO as H H')(s':aO as H' TB):aO as H TB:=λb o h e=>s' b o h (s b o h e)
theorem aO.of (s:ar H H'):aO as H H':=λb o _ e=>s b o e
theorem aO.wide (s:aO as H H')(h:∀a∈as,a∈bs):aO bs H H':=λb o n e=>s b o (λz=>n (h b z)) e
theorem aO.ofS (s:dE lr dn H H'):aO [lr,dn] H H':=λb o n e=>s b o (λz=>n (by simp[z])) (λz=>n (by simp[z])) e
theorem aO.RC (s:aO as H H')(so:cY H as)(h:PM K H a xs):PM K H' a xs:=by
 rcases h with(h|⟨o,h⟩)|h
 .exact .inl (.inl (s _ _ (λz=>by obtain⟨u,e,f⟩:=so _ z;rw[h] at e;cases e;exact f) h))
 .exact .inl (.inr ⟨o,s _ _ (λz=>by obtain⟨u,e,f⟩:=so _ z;rw[h] at e;cases e;exact f) h⟩)
 .exact .inr h
theorem aO.sk (s:aO as H H')(so:cY H as):∀{k:SK},cx K H y k->cx K H' y k
 | .inl _,h=>h
 | .inr _,h=>by
  obtain⟨p,rfl,q⟩:=dH h;exact cX (s.RC so q)
theorem aO.door (s:aO as H H')(so:cY H as)(h:fh K H y d):fh K H' y d:=let ⟨p,e,q⟩:=h;⟨p,e,s.RC so q⟩
theorem aO.base (s:aO as H H')(s0:ar H0 H)(h:∀a∈as,H0 a=none):ar H0 H':=λb o e=>s b o (λz=>by rw[h b z] at e;cases e) (s0 b o e)
structure Uv (K)(H)(dk)(kn):Prop where
 ex:∃L:KL,H dk=some (Sm dk L)/\jg K H L/\PR (λ(e:SK×V×Int) (p:SK×Nat)=>e.1=p.1/\e.2.2=(p.2:Int)) L kn
theorem lK:∀{L:KL}{kn:List (SK×Nat)},PR (λ(e:SK×V×Int) (p:SK×Nat)=>e.1=p.1/\e.2.2=(p.2:Int)) L kn->fP L s=(Bk.cw kn s).map λn=>(n:Int)
 | _,_,.nil=>rfl
 | e::L,p::kn,.cons r t=>by
  obtain⟨k1,g,f⟩:=e;obtain⟨k2,h⟩:=p;obtain⟨b,c⟩:=r;dsimp only at b c;subst b c
  by_cases z:k1=s
  .subst z;simp[fP,Bk.cw]
  .have d:=lK (s:=s) t;simp only[fP,Bk.cw] at d ⊢;rw[Y5 (by simpa using z),Y5 (by simpa using z)];exact d
def gW (K:Po)(H:Hp)(y:V)(d:Int×SK):Prop:=∃p lv,y=.ref p/\PM K H p [.int d.1,lv]/\cx K H lv d.2
theorem gW.same (s:ar H H')(h:gW K H y d):gW K H' y d:=let ⟨p,lv,e,q,r⟩:=h;⟨p,lv,e,s.P6 q,r.mono s⟩
theorem Uv.same (s:ar H H')(h:Uv K H dk kn):Uv K H' dk kn:=let ⟨L,e,k,p⟩:=h.ex;⟨L,s _ _ e,λx b=>(k x b).mono s,p⟩
theorem Uv.ae5 (s:aO as H H')(so:cY H as)(n:dk∉as)(h:Uv K H dk kn):Uv K H' dk kn:=let ⟨L,e,k,p⟩:=h.ex;⟨L,s _ _ n e,λx b=>s.sk so (k x b),p⟩
theorem SL.acX (h:SL K C H x lr dn rs):cY H [lr,dn]:=by
 obtain⟨j,xs,L,e,c,d,b,f,g⟩:=h.ex;intro a ha;rcases Qe.mp ha with rfl|ha
 .exact⟨_,c,trivial⟩
 .obtain rfl:a=dn:=by simpa using ha
  exact⟨_,b,trivial⟩
theorem Uv.ag1 (h:Uv K H dk kn):∃o,H dk=some o/\iV o:=let ⟨_,e,_⟩:=h.ex;⟨_,e,trivial⟩
def jP (K:Po)(H0:Hp)(PB:SK->List (Int×SK))(good:SK->Prop):Sp:=λvs H Q _=>∃(v:V) (s:SK),vs=[v]/\ar H0 H/\cx K H v s/\good s/\¬Bk.SM s/\∀(l:D') (ys:List V) (H':Hp),ar H H'->H l=none->H' l=some (.lst ys)->PR (gW K H') ys (PB s)->Q (.ref l) H'
def pj (K:Po)(C:D')(H0:Hp)(fl:D')(PB:SK->List (Int×SK))(os:SK->Bk.ap)(QL:SK->Nat)(good:SK->Prop)(n:Nat):Sp:=λvs H Q _=>∃(x lr dn dk:D') (v:V) (s:SK) (rs:List Bk.Pn) (kn:List (SK×Nat)),
 vs=[.ref x,v,.ref fl,.ref dk]/\SL K C H x lr dn rs/\Uv K H dk kn/\cx K H v s/\ar H0 H/\H0 lr=none/\H0 dn=none/\H0 dk=none/\dk≠dn/\good s/\(Bk.SM s\/QL s<=n)/\Bk.UJ os Bk.SM good rs kn/\
 (Bk.aM PB n s (rs,kn)).2.1.length<1000/\(Bk.aM PB n s (rs,kn)).2.2.length<100000/\
 ∀H',aO [lr,dn,dk] H H'->SL K C H' x lr dn (Bk.aM PB n s (rs,kn)).2.1->Uv K H' dk (Bk.aM PB n s (rs,kn)).2.2->Q (.int ((Bk.aM PB n s (rs,kn)).1:Nat)) H'
noncomputable abbrev Em:List M':=["shelf","state","doors_from","known","doors","thing","later","number"]
theorem lL:QE Em ["shelf","state","doors_from","known"] (ao mL):={}
theorem rZ {os:SK->Bk.ap}(W:Bk.Way PB os QL Bk.SM good)(hs:good s)(ht:¬Bk.SM s)(hl:QL s<=n+1)(M:Bk.UJ os Bk.SM good p.1 p.2)(ds:List (Int×SK))(hd:∀d∈ds,d∈PB s):
  Bk.UJ os Bk.SM good (Bk.aB (Bk.aM PB n) ds p).2.1 (Bk.aB (Bk.aM PB n) ds p).2.2/\(Bk.cw p.2 s=none->Bk.cw (Bk.aB (Bk.aM PB n) ds p).2.2 s=none):=by
 have o:=W.pos s hs ht;obtain⟨m,hm⟩:∃m,QL s=m+1:=⟨QL s-1,by lia⟩
 obtain⟨G,_⟩:=Bk.nW W hs ht hm (g:=Bk.aM PB n) (λd hd p M=>by
  obtain⟨g',b⟩:=W.down s hs ht d hd;exact Bk.xJ W n d.2 p m g' (b.imp id λh=>by lia) (b.imp id λh=>by lia) M) ds p hd M
 refine⟨G.memo,λe=>?_⟩;obtain⟨more,f,j⟩:=G.add;rw[f];exact Bk.rS e λx c z=>by
  have:=(j x c).2.1;rw[z] at this;lia
theorem vq {P:PU}{w:Pz}{K:Po}{mg:M'->Option G'}{base:Ps}{CO:D'}{C:D'}{PB:SK->List (Int×SK)}{os:SK->Bk.ap}{QL:SK->Nat}{good:SK->Prop}{f fk fl:D'}{fd Uw U8:P5}{ol:J'}{H0:Hp}{kl:Nat}{xl:M'}(W:Bk.Way PB os QL Bk.SM good)(VU:∀s,(PB s).length<=8)(F:Qh K "grow" "grow" mL f fd)(T:Rf K mg CO)(c:V2 K C)(mk:XB K C "keep" fk)(Fk:P4 P w K mg base PV 1 fk Uw ["self","room"] (jM K C))(bk:bA K Uw ["self","room"] [])(FL:P4 P w K mg base PV kl fl U8 [xl] (jP K H0 PB good))(XW:base.get? fl=some ol)(XZ:ol.data=.func U8)(bl:∀us:List G',us.length=[xl].length->bindArgs U8 ⟨us,[]⟩=pure ([xl].zip us))(n:Nat)(WS:∀m,n=m+1->Df P w K mg base PV (m+kl+2) "grow" ["shelf","state","doors_from","known"] (pj K C H0 fl PB os QL good m)):P4 P w K mg base PV (n+kl+2) f fd ["shelf","state","doors_from","known"] (pj K C H0 fl PB os QL good n):=by
 refine F.ok lL (λvs H Q E h=>?_) (λP3 A outer s H vs Q E hr h=>?_)
 .obtain⟨x,G,J,dk,v,st,rs,j,rfl,_⟩:=h;rfl
 obtain⟨x,G,J,dk,v,st,rs,j,rfl,S,KA,rv,s0,f1,f2,f3,kdn,gd,lv,M,U,Yv,z⟩:=h;obtain⟨t0,m0⟩:=T.no;obtain⟨L,Uc,ZU,pk⟩:=KA.ex;have vk:=lK (s:=st) pk;have hu:(eS PV P w K mg base Em "grow" (ao mL) f P3 A outer s H E).Tz.A.units+1<Qv:=by have:=hr.un;show(A.deeper _).units+1<Qv;lia
 cases ek:Bk.cw j st with
 | some k=>
  have eg:Bk.aM PB n st (rs,j)=(k,(rs,j)):=by
   cases n with
   | zero=>unfold Bk.aM;dsimp only;rw[ek];rfl
   | succ n=>unfold Bk.aM;dsimp only;rw[ek]
  rw[eg] at z;refine⟨_,af (aH (aq (show QG _ _ (qv K) from rR hu) (pv 1) (pv 3) rfl) (af aK (af aK (ai aK))) au) (ai (aD (xG hu (pv 3) (pv 1) (λ_ _=>rfl)))),?_⟩;refine⟨_,rfl,_,rfl,dk,L,st,rfl,Uc,ZU,rv,_,rfl,?_⟩;rw[vk,ek];exact az ⟨_,rfl,_,rfl,dk,L,st,_,rfl,Uc,ZU,rv,by rw[vk,ek];rfl,z H aO.refl S KA⟩
 | none=>
  have ht:¬Bk.SM st:=λt=>by
   have:=M.ends st gd t;rw[ek] at this;cases this
  have hle:=lv.resolve_left ht;have Vs:=W.pos st gd ht;cases n with
  | zero=>lia
  | succ n=>
  have D:=WS n rfl;have eg:Bk.aM PB (n+1) st (rs,j)=if (Bk.aB (Bk.aM PB n) (PB st) (rs,j)).1=[] then (0,((Bk.aB (Bk.aM PB n) (PB st) (rs,j)).2.1,(Bk.aB (Bk.aM PB n) (PB st) (rs,j)).2.2++[(st,0)]))
    else ((Bk.keep (Bk.aB (Bk.aM PB n) (PB st) (rs,j)).2.1 (Bk.aB (Bk.aM PB n) (PB st) (rs,j)).1).1,((Bk.keep (Bk.aB (Bk.aM PB n) (PB st) (rs,j)).2.1 (Bk.aB (Bk.aM PB n) (PB st) (rs,j)).1).2,(Bk.aB (Bk.aM PB n) (PB st) (rs,j)).2.2++[(st,(Bk.keep (Bk.aB (Bk.aM PB n) (PB st) (rs,j)).2.1 (Bk.aB (Bk.aM PB n) (PB st) (rs,j)).1).1)])):=by
   rw[Bk.aM];dsimp only;rw[ek]
  have b12:(Bk.aB (Bk.aM PB n) (PB st) (rs,j)).2.1.length<1000/\(Bk.aB (Bk.aM PB n) (PB st) (rs,j)).2.2.length<100000:=by
   rw[eg] at U Yv
   split at U
   .rename_i hz;rw[PK hz] at Yv;dsimp only at U Yv;rw[Rt] at Yv;exact⟨U,by lia⟩
   .rename_i hz;rw[Pr hz] at Yv;dsimp only at U Yv;rw[Rt] at Yv;have:=(Bk.gA (Bk.aB (Bk.aM PB n) (PB st) (rs,j)).2.1 (Bk.aB (Bk.aM PB n) (PB st) (rs,j)).1).length_le;exact⟨by lia,by lia⟩
  refine⟨_,af (aH (aq (show QG _ _ (qv K) from rR hu) (pv 1) (pv 3) rfl)
   (af (aQ (i:=4) lL.nd rfl (lc rfl) (bC ad))
   (af (dM Wg rfl (fR (Da (i:=2) FL (hr.mono (by lia)) XW XZ rfl (by first|exact Q8 rfl|exact Xx (Q8 rfl)) bl pS (aa (pv 1) ad)))
     (Gf rfl (tP (cD (i:=5) lL.nd rfl (lc rfl)) (tP (cD (i:=6) lL.nd rfl (lc rfl)) EJ)))
    (af (aQ (i:=7) lL.nd rfl (lc rfl) (aE D (hr.mono (by lia)) rfl pS (aa (pv 0) (aa (pv 6) (aa (pv 2) (aa (pv 3) ad))))))
    (ai (aH (aq dY (pv 7) (aA (v:=.int 0) rfl m0 ⟨t0,rfl⟩) (aw _))
     (ai (bv (gI Xj Y2 Y3 eT (pv 4) (aa (aZ (aa (pv 5) (aa (pv 7) ad))) ad)))) au))))
   (ai (Fy hu (pv 3) (pv 1) (fH (aq hZ (aG aX rfl T.t.len cr (aa (pv 4) ad)) ae (aw _))
    (wO (pv 0) c.cls mk Fk (hr.mono (by lia)) bk .nil lY (aa (bX gZ rfl T.t.tuple fU (aa (pv 4) ad)) ad)) (aA (v:=.int 0) rfl m0 ⟨t0,rfl⟩)) rfl)))) au)
   (ai (aD (xG hu (pv 3) (pv 1) (λ_ _=>rfl)))),?_⟩
  refine⟨_,rfl,_,rfl,dk,L,st,rfl,Uc,ZU,rv,_,rfl,?_⟩;rw[vk,ek];refine aU ⟨by show 0<=PH;decide,λg hg=>?_⟩;have s1:=ag hg (.lst []);refine⟨rfl,_,rfl,v,st,rfl,s0.trans s1,rv.mono s1,gd,ht,λl ys Hd sd hl hly pd=>?_⟩;have R:=s1.trans sd;obtain⟨dx,rx,NL,hx,Rm,prs,Rg,ahZ,nl⟩:=S.ex;have ng:∀a o,H a=some o->a≠g:=λa o e=>ax e hg;have ZR:∀a o,H a=some o->a≠l:=λa o e=>ax (s1 _ _ e) hl;have gl:g≠l:=ax ak hl;have hgd:Hd g=some (.lst []):=sd _ _ ak;have dl:=pd.length;have d8:=VU st;refine⟨l,rfl,⟨_,PX.of hly⟩,gu (K:=K) (a:=l) (xs:=ys) (λi σ O=>∃v5 v6 v7 ds,σ=[some (.ref x),some v,some (.ref fl),some (.ref dk),some (.ref g),v5,v6,v7]/\aO [G,J,dk,g] Hd O/\O g=some (.lst ds)/\PR (fh K O) ds (Bk.aB (Bk.aM PB n) ((PB st).take i) (rs,j)).1/\
   SL K C O x G J (Bk.aB (Bk.aM PB n) ((PB st).take i) (rs,j)).2.1/\Uv K O dk (Bk.aB (Bk.aM PB n) ((PB st).take i) (rs,j)).2.2) ⟨none,none,none,[],rfl,aO.refl,hgd,.nil,S.same R,KA.same R⟩ ?_ ?_ ?_⟩
  .rintro i σ O _ ⟨v5,v6,v7,ds,rfl,s2,_⟩;refine PX.of (s2 _ _ ?_ hly);intro z;simp only[Qe,Rz,or_false] at z;rcases z with z|z|z|z
   .exact ZR G _ Rm z.symm
   .exact ZR J _ Rg z.symm
   .exact ZR dk _ Uc z.symm
   .exact gl z.symm
  .rintro i y σ O hy ⟨v5,v6,v7,ds,rfl,s2,hg2,ZV,S2,K2⟩;obtain⟨⟨t,X⟩,hd,p,lvv,rfl,qd,rl⟩:=cB pd hy;have mem:=Q6 hd;obtain⟨g',l'⟩:=W.down st gd ht _ mem;have abF:cY Hd [G,J,dk,g]:=λa N=>by
    simp only[Qe,Rz,or_false] at N;rcases N with rfl|rfl|rfl|rfl
    .exact⟨_,R _ _ Rm,trivial⟩
    .exact⟨_,R _ _ Rg,trivial⟩
    .exact⟨_,R _ _ Uc,trivial⟩
    .exact⟨_,hgd,trivial⟩
   have qd2:PM K O p [.int t,lvv]:=s2.RC abF qd;have rl2:cx K O lvv X:=s2.sk abF rl;obtain⟨M2,_⟩:=rZ W (n:=n) (p:=(rs,j)) gd ht hle M ((PB st).take i) (λd hd=>Ÿ hd);have sn:=Bk.ph (g:=Bk.aM PB n) (d:=(t,X)) ((PB st).take i) (rs,j);rw[<-cC hd] at sn;have tk:=Bk.y8 (PB:=PB) (n:=n) (ds:=PB st) (p:=(rs,j)) (i+1);rw[sn] at tk;dsimp only at tk;have s02:ar H0 O:=s2.base (s0.trans R) λa N=>by
    simp only[Qe,Rz,or_false] at N;rcases N with rfl|rfl|rfl|rfl
    .exact f1
    .exact f2
    .exact f3
    .exact s0.free hg
   refine⟨p,_,rfl,qd2,rfl,_,_,rfl,_,_,rfl,rfl,?_⟩;refine⟨_,rfl,_,rfl,_,rfl,_,rfl,x,G,J,dk,lvv,X,_,_,rfl,S2,K2,rl2,s02,f1,f2,f3,kdn,g',l'.imp id (λh=>by dsimp only at h;lia),M2,(show(Bk.aM PB n X (Bk.aB (Bk.aM PB n) ((PB st).take i) (rs,j)).2).2.1.length<1000 by lia),(show(Bk.aM PB n X (Bk.aB (Bk.aM PB n) ((PB st).take i) (rs,j)).2).2.2.length<100000 by lia),λH5 s5 S5 K5=>?_⟩;have so2:cY O [G,J,dk]:=λa N=>by
    simp only[Qe,Rz,or_false] at N;rcases N with rfl|rfl|rfl
    .exact S2.acX _ (by simp)
    .exact S2.acX _ (by simp)
    .exact K2.ag1
   have ngs:g∉[G,J,dk]:=λz=>by
    simp only[Qe,Rz,or_false] at z;rcases z with z|z|z
    .exact ng G _ Rm z.symm
    .exact ng J _ Rg z.symm
    .exact ng dk _ Uc z.symm
   have ZW:H5 g=some (.lst ds):=s5 _ _ ngs hg2;have afn:=bf (λ_ _ z=>s5.door so2 z) ZV;refine⟨_,rfl,rfl,_,rfl,?_⟩
   by_cases zr:(Bk.aM PB n X (Bk.aB (Bk.aM PB n) ((PB st).take i) (rs,j)).2).1=0
   .rw[zr];refine az ⟨_,_,_,ds,rfl,s2.trans (s5.wide (by simp)),ZW,?_,?_,?_⟩
    .rw[sn,PK zr];exact afn
    .rw[sn];exact S5
    .rw[sn];exact K5
   .rw[Qd (λh=>zr (by have e:((Bk.aM PB n X (Bk.aB (Bk.aM PB n) ((PB st).take i) (rs,j)).2).1:Int)=0:=V.int.inj h;lia))];refine aU ⟨_,rfl,.inl ⟨rfl,_,.inl (.inl ZW)⟩,_,rfl,_,rfl,by show 2<=PH;decide,λtq YQ=>?_⟩;have s6:=ag YQ (.tup [V.int t,V.int ((Bk.aM PB n X (Bk.aB (Bk.aM PB n) ((PB st).take i) (rs,j)).2).1:Nat)]);have lds:ds.length<=8:=by
     have h1:=ZV.length;have h2:=Bk.rY (g:=Bk.aM PB n) ((PB st).take i) (rs,j);rw[SO] at h2;lia
    refine⟨g,ds,.ref tq,rfl,rfl,s6 _ _ ZW,by rw[QA];lia,_,_,_,ds++[.ref tq],rfl,?_,ak,?_,?_,?_⟩
    .intro b o u e;rw[al (λz=>u (by simp[z]))];exact s6 _ _ (s5 _ _ (λz=>u (by simp only[Qe] at z ⊢;rcases z with z|z|z|z <;> simp_all)) (s2 b o u e))
    .have s7:aO [g] (upd H5 tq (.tup [V.int t,V.int ((Bk.aM PB n X (Bk.aB (Bk.aM PB n) ((PB st).take i) (rs,j)).2).1:Nat)])) (upd (upd H5 tq (.tup [V.int t,V.int ((Bk.aM PB n X (Bk.aB (Bk.aM PB n) ((PB st).take i) (rs,j)).2).1:Nat)])) g (.lst (ds++[.ref tq]))):=λb o u e=>by
      rw[al (λz=>u (by simp[z]))];exact e
     have ZX:cY (upd H5 tq (.tup [V.int t,V.int ((Bk.aM PB n X (Bk.aB (Bk.aM PB n) ((PB st).take i) (rs,j)).2).1:Nat)])) [g]:=λa N=>by
      obtain rfl:a=g:=by simpa using N
      exact⟨_,s6 _ _ ZW,trivial⟩
     rw[sn,Pr zr];exact dG (bf (λ_ _ z=>s7.door ZX (z.same s6)) afn) (.cons ⟨tq,rfl,s7.RC ZX PM.up⟩ .nil)
    .rw[sn];exact(S5.same s6).upd (s6 _ _ ZW) trivial (ng x _ hx) (ng G _ Rm) (ng J _ Rg)
    .rw[sn];refine(K5.same s6).ae5 (as:=[g]) (λb o u e=>?_) (λa N=>?_) (λz=>ng dk _ Uc (by simpa using z))
     .rw[al (λz=>u (by simp[z]))];exact e
     .obtain rfl:a=g:=by simpa using N
      exact⟨_,s6 _ _ ZW,trivial⟩
  .rintro σ O ⟨v5,v6,v7,ds,rfl,s2,hg2,ZV,S2,K2⟩;rw[dl,UV] at ZV S2 K2;obtain⟨_,Y⟩:=rZ W (n:=n) (p:=(rs,j)) gd ht hle M (PB st) (λd hd=>hd);have Y:=Y ek;obtain⟨L2',ah0,ahR,pk2⟩:=K2.ex;have abF:cY Hd [G,J,dk,g]:=λa N=>by
    simp only[Qe,Rz,or_false] at N;rcases N with rfl|rfl|rfl|rfl
    .exact⟨_,R _ _ Rm,trivial⟩
    .exact⟨_,R _ _ Rg,trivial⟩
    .exact⟨_,R _ _ Uc,trivial⟩
    .exact⟨_,hgd,trivial⟩
   have rv2:cx K O v st:=s2.sk abF (rv.mono R);have kl:L2'.length<PH:=by have:=pk2.length;rw[QA];lia
   have v2:=lK (s:=st) pk2;rw[Y] at v2;have sH2:∀b o,b∉[G,J,dk]->H b=some o->O b=some o:=λb o u e=>s2 b o (λz=>by
    simp only[Qe,Rz,or_false] at z u;rcases z with z|z|z|z
    .exact u (.inl z)
    .exact u (.inr (.inl z))
    .exact u (.inr (.inr z))
    .exact ng b o e z) (R b o e)
   have dkl:dk≠G:=i8 Uc Rm (by intro h;cases h);have fin:∀(I:Hp) (k:Nat) (rs6:List Bk.Pn),(∀b o,b∉[G,J,dk]->H b=some o->I b=some o)->SL K C I x G J rs6->Uv K I dk (Bk.aB (Bk.aM PB n) (PB st) (rs,j)).2.2->cx K I v st->
     (∀H',aO [G,J,dk] H H'->SL K C H' x G J rs6->Uv K H' dk ((Bk.aB (Bk.aM PB n) (PB st) (rs,j)).2.2++[(st,k)])->Q (.int (k:Nat)) H')->
     ∃d L Z n',V.int (k:Int)=V.int n'/\V.ref dk=V.ref d/\I d=some (Sm d L)/\jg K I L/\cx K I v Z/\fP L Z=none/\L.length<PH/\
      ∃d2 L2 k2 n2,V.ref dk=V.ref d2/\(upd I d (Sm d (L++[(Z,v,n')]))) d2=some (Sm d2 L2)/\jg K (upd I d (Sm d (L++[(Z,v,n')]))) L2/\cx K (upd I d (Sm d (L++[(Z,v,n')]))) v k2/\fP L2 k2=some n2/\Q (.int n2) (upd I d (Sm d (L++[(Z,v,n')]))):=by
    intro I k rs6 s6 S6 K6 r6 hz;obtain⟨L6,h1,h2,h3⟩:=K6.ex;have v6:=lK (s:=st) h3;rw[Y] at v6;have s7:aO [dk] I (upd I dk (Sm dk (L6++[(st,v,(k:Int))]))):=λb o u e=>by
     rw[al (λz=>u (by simp[z]))];exact e
    have ZX:cY I [dk]:=λa N=>by
     obtain rfl:a=dk:=by simpa using N
     exact⟨_,h1,trivial⟩
    have keys:jg K (upd I dk (Sm dk (L6++[(st,v,(k:Int))]))) (L6++[(st,v,(k:Int))]):=λe he=>by
     rcases QW.mp he with he|he
     .exact s7.sk ZX (h2 e he)
     .obtain rfl:e=(st,v,(k:Int)):=by simpa using he
      exact s7.sk ZX r6
    have p7:=dG h3 (.cons (F:=λ(e:SK×V×Int) (p:SK×Nat)=>e.1=p.1/\e.2.2=(p.2:Int)) (a:=(st,v,(k:Int))) (b:=(st,k)) ⟨rfl,rfl⟩ .nil);have v7:=lK (s:=st) p7;rw[Bk.nV Y] at v7;obtain⟨dx6,x6,N6,g1,g2,g3,g4,g5,g6⟩:=S6.ex;refine⟨dk,L6,st,k,rfl,rfl,h1,h2,r6,v6,by have:=h3.length;rw[QA];lia,dk,_,st,k,rfl,ak,keys,s7.sk ZX r6,v7,hz _ (λb o u e=>?_) ?_ ⟨_,ak,keys,p7⟩⟩
    .rw[al (λz=>u (by simp[z]))];exact s6 b o u e
    .exact S6.upd h1 trivial (i8 g1 h1 (by intro h;cases h)) (QC dkl) (QC kdn)
   refine⟨_,rfl,g,ds,rfl,.inl (PX.of hg2),_,0,rfl,rfl,_,rfl,?_⟩;have dl2:=ZV.length
   by_cases hz:(Bk.aB (Bk.aM PB n) (PB st) (rs,j)).1=[]
   .rw[eg,PK hz] at z;rw[hz] at dl2;rw[Qd (by rw[dl2];decide)];refine az ?_;obtain⟨d,L,Z,n',e1,e2,r1,r2,r3,r4,r5,q⟩:=fin O 0 _ sH2 S2 K2 rv2 z;exact⟨_,rfl,_,rfl,d,L,Z,n',e1,e2,r1,r2,r3,r4,r5,_,rfl,_,rfl,q⟩
   .rw[eg,Pr hz] at z;have ah1:0<ds.length:=by rw[dl2];exact Y8.mpr hz
    rw[Qk (by lia)];obtain⟨dx2,x2,N2,ZK,afo,_,aaC,_⟩:=S2.ex;refine aU ⟨_,rfl,x,dx2,_,rfl,ZK,rfl,_,rfl,g,ds,rfl,.inl ⟨PX.of hg2,λr0 U7=>?_⟩⟩;have s3:=ag U7 (.tup ds);refine⟨x,G,J,_,.ref r0,_,rfl,S2.same s3,⟨r0,ds,rfl,PM.up,bf (λ_ _ z=>z.same s3) ZV⟩,by lia,λI s6 S6=>?_⟩;have so3:cY (upd O r0 (.tup ds)) [G,J]:=(S2.same s3).acX;obtain⟨d,L,Z,n',e1,e2,r1,r2,r3,r4,r5,q⟩:=fin I _ _ (λb o u e=>s6 b o (λz=>u (by simp[z])) (λz=>u (by simp[z])) (s3 b o (sH2 b o u e))) S6 ((K2.same s3).ae5 (aO.ofS s6) so3 (λz=>by
     simp only[Qe,Rz,or_false] at z;exact z.elim dkl kdn)) ((aO.ofS s6).sk so3 (rv2.mono s3)) z
    exact⟨_,rfl,_,rfl,d,L,Z,n',e1,e2,r1,r2,r3,r4,r5,_,rfl,_,rfl,q⟩
theorem xK {os:SK->Bk.ap}(W:Bk.Way PB os QL Bk.SM good)(VU:∀s,(PB s).length<=8)(F:Qh K "grow" "grow" mL f fd)(T:Rf K mg CO)(c:V2 K C)(mk:XB K C "keep" fk)(Fk:P4 P w K mg base PV 1 fk Uw ["self","room"] (jM K C))(bk:bA K Uw ["self","room"] [])(FL:P4 P w K mg base PV kl fl U8 [xl] (jP K H0 PB good))(XW:base.get? fl=some ol)(XZ:ol.data=.func U8)(bl:∀us:List G',us.length=[xl].length->bindArgs U8 ⟨us,[]⟩=pure ([xl].zip us))(b:bA K fd ["shelf","state","doors_from","known"] [])(m:mg "grow"=some (.ref f)):∀n,P4 P w K mg base PV (n+kl+2) f fd ["shelf","state","doors_from","known"] (pj K C H0 fl PB os QL good n)
 | 0=>vq W VU F T c mk Fk bk FL XW XZ bl 0 λm h=>nomatch h
 | n+1=>vq W VU F T c mk Fk bk FL XW XZ bl (n+1) λk h=>by
  cases h;exact⟨f,fd,xK W VU F T c mk Fk bk FL XW XZ bl b m n,b,F.kp,m⟩
noncomputable abbrev jQ:PD:=top 31
def ky (K:Po)(C:D')(n:Nat):Sp:=λvs H Q _=>∃(x lr dn l:D') (rs:List Bk.Pn) (p:Nat) (ys:List V) (os:Bk.ap),vs=[.ref x,.ref l,.int (p:Int)]/\SL K C H x lr dn rs/\PX K H l ys/\PR (aV.rep K H) ys os/\Bk.Xy p n os/\os.length<=1000/\rs.length+os.length*n<1000/\
 ∀H',dE lr dn H H'->SL K C H' x lr dn (Bk.lay n (os.map (SR p)) rs).2->Q (.int ((Bk.lay n (os.map (SR p)) rs).1:Nat)) H'
theorem kz:QE ["shelf","orders","place","parted","order","doors"] ["shelf","orders","place"] (ao jQ):={}
theorem pq (F:Qh K "shelve" "shelve" jQ f fd)(T:Rf K mg CO)(c:V2 K C)(mk:XB K C "keep" fk)(Fk:P4 P w K mg base PV 1 fk Uw ["self","room"] (jM K C))(bk:bA K Uw ["self","room"] [])(n:Nat)(WS:∀m,n=m+1->Df P w K mg base PV (m+2) "shelve" ["shelf","orders","place"] (ky K C m)):P4 P w K mg base PV (n+2) f fd ["shelf","orders","place"] (ky K C n):=by
 refine F.ok kz (λvs H Q E h=>?_) (λP3 A outer s H vs Q E hr h=>?_)
 .obtain⟨x,N,J,l,rs,p,ys,os,rfl,_⟩:=h;rfl
 obtain⟨x,N,J,l,rs,p,ys,os,rfl,S,ql,po,ok,Qi,ah2,z⟩:=h;obtain⟨t1,m1⟩:=T.en;cases n with
 | zero=>
  refine⟨_,af (aH (aq bu (pv 2) (aG aX rfl T.t.len cr (aa (cI (show U4 _ (fI K) from bL) (pv 1) ae (λ_ _=>rfl)) ad)) (aw _)) (ai (aD (aA (v:=.int 1) rfl m1 ⟨t1,rfl⟩))) au) (af aK (af aK (af aK (ai aK)))),?_⟩;obtain⟨o,U⟩:=Xi os ok.ne;have hp:0<os.length:=ã U;obtain⟨y,hy,ro⟩:=gJ po (Q5 hp);obtain⟨a,rfl,X⟩:=dH ro;have la:=ok.len _ (Xo hp);refine⟨_,rfl,_,rfl,l,_,0,.ref a,rfl,rfl,ql,cH (j:=0) hy,a,_,rfl,.inr X,rfl,_,rfl,?_⟩;rw[Qk (by rw[Qx,la];rfl)];exact aU (z H (λb o _ _ e=>e) S)
 | succ n=>
  have D:=WS n rfl;refine⟨_,af (aH (aq bu (pv 2) (aG aX rfl T.t.len cr (aa (cI (show U4 _ (fI K) from bL) (pv 1) ae (λ_ _=>rfl)) ad)) (aw _)) (ai aK) au)
   (af (aQ (i:=3) kz.nd rfl (Xx rfl) uv)
   (af (PS.Tz (dM Wg rfl (fR (pv 1)) (cD (i:=4) kz.nd rfl (Q8 rfl))
    (ai (bv (gI Xj Y2 Y3 eT
     (gI af2 afD PySem.F.type_dict_setdefault sS (pv 3) (aa (P9 K (pv 4) (pv 2)) (aa (bC ad) ad))) (aa (pv 4) ad))))))
   (af (qk (i0:=5) kz.nd rfl (Q8 rfl) rfl (show Uk (ao jQ) ["shelf","orders","place","parted","order","doors"] _ _ from by constructor <;> decide +kernel) (E9 (pv 3)) (λ_ _ _ _ _ _=>iy)
     (λcl C' Qy RI fp ac=>aZ (aa (pv 0) (aa (aE D hr rfl pS (aa (pv 1) (aa (E4 (sX hr) (pv 4) (pv 0) (λ_ _=>rfl)) (aa (ay bT (pv 3) ae) ad)))) ad))) rfl)
   (ai (aD (wO (pv 0) c.cls mk Fk (hr.mono (by lia)) bk .nil lY (aa (bX gZ rfl T.t.tuple fU (aa (pv 5) ad)) ad))))))),?_⟩
  obtain⟨o,U⟩:=Xi os ok.ne;have hp:0<os.length:=ã U;obtain⟨y,hy,ro⟩:=gJ po (Q5 hp);obtain⟨a,rfl,X⟩:=dH ro;have la:=ok.len _ (Xo hp);have hlen:=po.length;refine⟨_,rfl,_,rfl,l,_,0,.ref a,rfl,rfl,ql,cH (j:=0) hy,a,_,rfl,.inr X,rfl,_,rfl,?_⟩;rw[Qd (λh=>by have:=V.int.inj h;rw[Qx,la] at this;lia)];refine az ?_;intro d Y;have s1:ar H (upd H d (.dK [])):=ag Y _;refine⟨_,rfl,l,rfl,⟨_,s1.R0 ql⟩,gu (K:=K) (a:=l) (xs:=ys) (λi σ G=>∃v4 kvs,σ=[some (.ref x),some (.ref l),some (.int (p:Int)),some (.ref d),v4,none]/\ar H G/\Yq K H d G kvs (Bk.bV p (os.take i))) ⟨none,[],rfl,s1,ak,.nil,Zh⟩ ?_ ?_ ?_⟩
  .rintro i σ G _ ⟨v4,kvs,rfl,s2,_⟩;exact s2.R0 ql
  .rintro i y σ G hy ⟨v4,kvs,rfl,s2,PA⟩;obtain⟨o,U,ro⟩:=cB po hy;obtain⟨a,rfl,X⟩:=dH ro;have lo:=ok.len o (Q6 U);have il:=(Rh.mp U).1;have at_:SJ (o.map V.int) (p:Int)=some (.int (Bk.QH p o)):=cH (by
    unfold Bk.QH;rw[So,Q5 (show p<o.length by lia)];rfl)
   have gl:kvs.length<=i:=by
    have h1:=PA.V3.length;have h2:=oZ p (os.take i);rw[SO] at h2;lia
   refine⟨_,rfl,.inr (.inr (.inl ⟨rfl,.inl ⟨_,PA.at_⟩⟩)),_,rfl,_,rfl,a,_,(p:Int),.int (Bk.QH p o),rfl,rfl,s2.P6 X,at_,by show 0<=PH;decide,λO Z=>?_⟩;have s3:ar G (upd G O (.lst [])):=ag Z _;refine⟨d,kvs,.inl (Bk.QH p o),.ref O,rfl,rfl,s3 _ _ PA.at_,by rw[QA];lia,λy' W=>?_,λW=>?_⟩
   .rcases qu (k:=Bk.QH p o) PA.V3 with⟨R,_⟩|⟨ga,vs,R,b2,b3,b4,b5,b6,e,b7,b8⟩
    .rw[R] at W;cases W
    rw[R] at W;cases W;have vl:vs.length<=os.length:=by
     rw[b8,(Bk.fZ p (os.take i)).each e b7];refine RX (VI _ _) ?_;rw[SO];lia
    refine⟨.inl ⟨rfl,_,.inl (.inl (s3 _ _ b6))⟩,_,rfl,ga,vs,.ref a,rfl,rfl,s3 _ _ b6,by rw[QA];lia,_,kvs,rfl,λb u q=>?_,?_⟩
    .rw[al (ax q b4)];exact s3 b u (s2 b u q)
    .rw[cC U];exact PA.more Z (cX (s2.P6 X)) R b2 b6 b5
   .rcases qu (k:=Bk.QH p o) PA.V3 with⟨R,b2⟩|⟨ga,vs,R,_⟩
    .have ned:d≠O:=ax PA.at_ Z;have he1:(upd (upd G O (.lst [])) d (.dK (du kvs (.inl (Bk.QH p o)) (.ref O)))) O=some (.lst []):=by rw[al (QC ned),ak]
     refine⟨.inl ⟨rfl,_,.inl (.inl he1)⟩,_,rfl,O,[],.ref a,rfl,rfl,he1,by decide,_,kvs++[(.inl (Bk.QH p o),.ref O)],rfl,λb u q=>?_,?_⟩
     .rw[al (ax q (s2.free Z)),al (ax q Y)];exact s3 b u (s2 b u q)
     .rw[cC U];exact PA.fresh Z (s2.free Z) (cX (s2.P6 X)) R b2
    .rw[R] at W;cases W
  .rintro σ G ⟨v4,kvs,rfl,s2,PA⟩;rw[hlen,UV] at PA;have S':=S;obtain⟨dx,rx,L,hx,Rm,prs,Rg,ZU,nl⟩:=S.ex;have M:N≠d:=ax Rm Y;have YD:J≠d:=ax Rg Y;have keys:=ok.keys;have gl:kvs.length=(Bk.bV p os).length:=PA.V3.length;have gk:(Bk.bV p os).length=(Bk.heads (os.map (SR p))).length:=by rw[<-keys,Qx]
   have ahw:=oZ p os;refine⟨_,rfl,d,kvs,rfl,PA.at_,λob=>?_⟩;have dPs:iV (.dK kvs):=trivial;have xdP:x≠d:=ax hx Y;have S2:SL K C (upd G d (.Q2 ob (.dK kvs))) x N J rs:=(S.same s2).upd PA.at_ dPs xdP M YD;have kn:(kvs.map (·.1)).Nodup:=by
    have e:∀{kvs:List (Key×V)}{g:List (Int×Bk.ap)},PR (fz K H d G) kvs g->kvs.map (·.1)=g.map λe=>RH e.1:=by
     intro kvs g t
     induction t with
     | nil=>rfl
     | cons h _ ih=>
      obtain⟨a,vs,rfl,_⟩:=h;rw[QJ,QJ,ih]
    rw[e PA.V3];have:=(Bk.fZ p os).nd;unfold È at this ⊢;rw[Wc] at this ⊢;exact this.imp λh z=>h (Ê z)
   refine Ap (a:=d) (ob:=ob) (kvs:=kvs) (λi ds I=>dE N J (upd G d (.Q2 ob (.dK kvs))) I/\SL K C I x N J (Bk.aW (Bk.lay n) (os.map (SR p)) ((Bk.heads (os.map (SR p))).take i) rs).2/\PR (fh K I) ds (Bk.aW (Bk.lay n) (os.map (SR p)) ((Bk.heads (os.map (SR p))).take i) rs).1/\ds.length=i) ⟨dE.refl,S2,.nil,rfl⟩ ?_ (by rw[QA];lia) ?_ ?_
   .rintro i ds I hi ⟨s3,_,_,hl⟩;exact⟨s3 _ _ (QC M) (QC YD) ak,by lia⟩
   .rintro i kv ds I XY ⟨s3,S3,p3,hl⟩;obtain⟨e,he,ga,vs,rfl,g1,g2,g3,g4⟩:=cB PA.V3 XY;have mem:=Q6 he;obtain⟨oke,rst,ele⟩:=ok.group mem;have ht:(Bk.heads (os.map (SR p)))[i]?=some e.1:=by rw[<-keys,So,he];rfl
    obtain⟨bd1,bd2⟩:=Bk.yW (n:=n) (rs:=rs) ht;have lr2:e.2.length=(Bk.rests e.1 (os.map (SR p))).length:=by rw[<-rst,Qx]
    rw[Qx,<-lr2] at bd1;have mul:Xs os*(n+1)=Xs os*n+Xs os:=iN _ _;have ahx:=s3 _ _ (QC M) (QC YD) (ak (H:=G) (a:=d) (o:=.Q2 ob (.dK kvs)));have nga:ga≠N/\ga≠J:=⟨(λz=>by rw[z,Rm] at g1;cases g1),(λz=>by rw[z,Rg] at g1;cases g1)⟩
    have hg3:I ga=some (.lst vs):=s3 _ _ nga.1 nga.2 (by rw[al g2];exact g3);have afo:(upd G d (.Q2 ob (.dK kvs))) N=some (.lst rx):=by rw[al M];exact s2 _ _ Rm
    have aaC:(upd G d (.Q2 ob (.dK kvs))) J=some (fL J L):=by rw[al YD];exact s2 _ _ Rg
    have rv:PR (aV.rep K I) vs e.2:=bf (λ_ _ z=>yX s3 afo aaC (eW PA.at_ dPs z)) g4;refine ZI (aU ?_);refine⟨_,rfl,_,rfl,_,rfl,_,rfl,d,.ref ga,rfl,.inl ⟨kvs,.inl e.1,.inr ⟨ob,ahx⟩,rfl,(G3 kn XY).symm⟩,_,rfl,(p:Int),1,rfl,rfl,x,N,J,ga,_,p+1,vs,e.2,rfl,S3,.inl (.inl hg3),rv,oke,by lia,by lia,λH4 s4 S4=>?_⟩;rw[rst] at S4 ⊢;refine⟨by show 2<=PH;decide,λtq YQ=>?_⟩;obtain⟨dx3,rx3,L3,_,afp,_,ac9,_⟩:=S3.ex;have s5:=ag YQ (.tup [V.int e.1,V.int ((Bk.lay n (Bk.rests e.1 (os.map (SR p))) (Bk.aW (Bk.lay n) (os.map (SR p)) ((Bk.heads (os.map (SR p))).take i) rs).2).1:Nat)]);rw[cC ht,Bk.rP];refine⟨s3.trans (s4.trans (dE.of s5)),S4.same s5,dG (bf (λ_ _ z=>(z.ag0 s4 afp ac9).same s5) p3) (.cons ⟨tq,rfl,PM.up⟩ .nil),by simp;(first|trivial|lia)⟩
   .rintro ds I c0 ⟨s3,S3,p3,hl⟩ hc0;rw[gl,gk,UV] at S3 p3;have s4:ar I (upd I c0 (.lst ds)):=ag hc0 _;have S4:=S3.same s4;obtain⟨dx4,_,_,hx4,_⟩:=S4.ex;refine⟨_,rfl,x,dx4,_,rfl,hx4,rfl,_,rfl,c0,ds,rfl,.inl ⟨PX.up,λr0 U7=>?_⟩⟩;have s5:=ag U7 (.tup ds);have db:=Bk.wI (n:=n) (os:=os.map (SR p)) (rs:=rs);rw[Qx] at db;have mul:Xs os*(n+1)=Xs os*n+Xs os:=iN _ _;refine⟨x,N,J,_,.ref r0,_,rfl,S4.same s5,⟨r0,ds,rfl,PM.up,bf (λ_ _ z=>z.same (s4.trans s5)) p3⟩,by lia,λH6 s6 S6=>?_⟩;refine z H6 (λb u h1 h2 q=>?_) S6;refine s6 b u h1 h2 (s5 b u (s4 b u (s3 b u h1 h2 ?_)));rw[al (ax q Y)];exact s2 b u q
theorem se (F:Qh K "shelve" "shelve" jQ f fd)(T:Rf K mg CO)(c:V2 K C)(mk:XB K C "keep" fk)(Fk:P4 P w K mg base PV 1 fk Uw ["self","room"] (jM K C))(bk:bA K Uw ["self","room"] [])(b:bA K fd ["shelf","orders","place"] [])(m:mg "shelve"=some (.ref f)):∀n,P4 P w K mg base PV (n+2) f fd ["shelf","orders","place"] (ky K C n)
 | 0=>pq F T c mk Fk bk 0 λm h=>nomatch h
 | n+1=>pq F T c mk Fk bk (n+1) λk h=>by
  cases h;exact⟨f,fd,se F T c mk Fk bk b m n,b,F.kp,m⟩
noncomputable abbrev qw:PD:=top 30
theorem sf:∀{a b:List Int},Bk.lt a b->HT.bW a b=true
 | [],[],h=>h.elim
 | [],_::_,_=>rfl
 | _::_,[],h=>h.elim
 | x::a,y::b,h=>by
  rcases h with h|⟨rfl,h⟩
  .rw[HT.fb,Pr (by lia)];exact Qk h
  .rw[HT.fb,PK rfl];exact sf h
noncomputable def bx (many:Nat)(os:Bk.ap):List Bk.Pn×Nat:=if os=[] then ([],0) else ((Bk.lay many os []).2,(Bk.lay many os []).1)
structure XA (K:Po)(H0 H:Hp)(t lr:D')(many:Int)(rs:List Bk.Pn)(first:Int):Prop where
 ft:H0 t=none
 fl:H0 lr=none
 at_:H t=some (.tup [.int many,.ref lr,.int first])
 rooms:∃xs,H lr=some (.lst xs)/\PR (bF K H) xs rs
def vt (K:Po):Sp:=λvs H Q _=>∃(many:Nat) (l:D') (ys:List V) (os:Bk.ap),vs=[.int (many:Int),.ref l]/\PX K H l ys/\PR (aV.rep K H) ys os/\(∀o∈os,uq many o)/\1<=many/\many<=8/\os.length<64/\
 ∀(t lr:D') (H':Hp),ar H H'->XA K H H' t lr many (bx many os).1 (bx many os).2->Q (.ref t) H'
theorem kA:QE ["many","orders","order","shelf","first"] ["many","orders"] (ao qw):={}
theorem A6 (F:Qh K "book_of" "book_of" qw f fd)(T:Rf K mg CO)(c:V2 K C)(M:Mk K C fi)(Fi:P4 P w K mg base PV 1 fi X1 ["self"] (oY K C))(bi:bA K X1 ["self"] [])(mC:mg "Shelf"=some (.ref C))(WC:Df P w K mg base (QP P w) 3 "look_count" ["many"] (ma CO))(WL:Df P w K mg base (QP P w) 4 "look_order" ["many","order"] (Ah K CO))(WS:∀n,Df P w K mg base PV (n+2) "shelve" ["shelf","orders","place"] (ky K C n)):
  P4 P w K mg base (QP P w) 12 f fd ["many","orders"] (vt K):=by
 refine F.U5 kA (λvs H Q E h=>?_) (λX P3 A outer s H vs Q E hX hp Sl O h=>?_)
 .obtain⟨many,l,ys,os,rfl,_⟩:=h;rfl
 obtain⟨many,l,ys,os,rfl,N,po,good,m1,m8,Qi,z⟩:=h;obtain⟨t0,m0⟩:=T.no;have hlen:=po.length;subst hX;refine⟨_,af (bv (aE WC (O.mono (by decide)) rfl hp (aa (pv 0) ad)))
  (af (PS.Tz (dM Wg rfl (fR (pv 1)) (cD (i:=2) kA.nd rfl (Q8 rfl)) (ai (bv (aE WL (O.mono (by decide)) rfl sY (aa (pv 0) (aa (pv 2) ad)))))))
  (af (aH (aq bu (aG aX rfl T.t.len cr (aa (pv 1) ad)) ae (aw _)) (ai (aD (aZ (aa (pv 0) (aa (bC ad) (aa (aA (v:=.int 0) rfl m0 ⟨t0,rfl⟩) ad)))))) au)
  (af (aQ (i:=3) kA.nd rfl (Q8 rfl) (tU M Fi (O.mono (by decide)) rfl mC bi .nil lY))
  (af (aQ (i:=4) kA.nd rfl (Q8 rfl) (aE (WS many) (O.mono (by lia)) rfl pS (aa (pv 3) (aa (aG uG rfl T.t.sorted nE (aa (pv 1) ad)) (aa ae ad)))))
  (ai (aD (aZ (aa (pv 0) (aa (iM (pv 3) rfl) (aa (pv 4) ad)))))))))),?_⟩
 refine⟨_,rfl,(many:Int),rfl,dA (by lia) (by lia),?_⟩;rw[PK (by lia)];refine⟨_,rfl,l,rfl,⟨_,N⟩,gu (K:=K) (a:=l) (xs:=ys) (λi R G=>∃J,R=[some (.int (many:Int)),some (.ref l),J,none,none]/\ar H G) ⟨none,rfl,ar.refl H⟩ ?_ ?_ ?_⟩
 .rintro i R G _ ⟨J,rfl,s2⟩;exact s2.R0 N
 .rintro i y R G hy ⟨J,rfl,s2⟩;obtain⟨o,m,ro⟩:=cB po hy;obtain⟨a,rfl,qa⟩:=dH ro;have g:=good o (Q6 m);have gl:(o.length:Int)=many:=g.2.2.1;refine⟨_,rfl,_,rfl,(many:Int),a,o,rfl,dA (by lia) (by lia),⟨s2.P6 qa,by lia,λx hx=>?_⟩,λ_ H3 s3=>⟨_,rfl,s2.trans s3⟩,λng=>Py g ng⟩;have:=g.2.2.2.mem hx;exact dA (by lia) (by lia)
 .rintro R G ⟨J,rfl,s2⟩;refine⟨_,rfl,l,_,rfl,.inl (s2.R0 N),rfl,_,rfl,?_⟩
  by_cases Y:os=[]
  .subst Y;have y0:ys.length=0:=hlen;rw[y0,Qk (by rfl)];refine aU ⟨_,rfl,by show 0<=PH;decide,λj L=>?_⟩;have s3:=s2.trans (ag L (.lst []));refine⟨by show 3<=PH;decide,λt I=>?_⟩;have s4:=ag I (.tup [V.int (many:Int),V.ref j,V.int 0]);exact z t j _ (s3.trans s4) ⟨s3.free I,s2.free L,ak,[],s4 _ _ ak,.nil⟩
  .have Vs:0<os.length:=Y8.mpr Y;rw[Qd (λh=>by have:=V.int.inj h;lia)];refine az ?_;intro x Z p ada W;have u1:=ag ada (.own x);have YI:(upd G Z (.own x)) x=none:=by rw[al (QC W)];exact p
   have u2:=ag YI (.ins C Z []);have s3:=s2.trans (u1.trans u2);refine⟨x,Z,rfl,ak,λj dn H3 L Rg keep SA=>⟨rfl,?_⟩⟩;have s4:ar H H3:=λb u q=>keep b u (ax q (s2.free p)) (s3 b u q);have ZY:H j=none:=s3.free L;have fdn:H dn=none:=s3.free Rg;refine⟨_,rfl,_,rfl,.ref l,os,rfl,⟨l,ys,rfl,s4.R0 N,bf (λ_ _ z=>aV.mono s4 z) po⟩,λks hk=>?_,Qi,λl2 D d Uq U perm ZZ=>?_⟩
   .have g:=good ks hk;have:(ks.length:Int)=many:=g.2.2.1;intro e;subst e;simp at this;lia
   have s5:=ag Uq (.lst D);have mem:∀o∈d,uq many o:=λo m=>good o (perm.mem_iff.mp m);have kl:d.length=os.length:=perm.length_eq;have d0:d.map (SR 0)=d:=(ä λo _=>(ē:o.drop 0=o)).trans (List.map_id _);have Wt:Bk.lay many (d.map (SR 0)) []=Bk.lay many os []:=by
    rw[d0];exact Bk.j9 many [] λo=>perm.mem_iff
   have lb:bx many os=((Bk.lay many os []).2,(Bk.lay many os []).1):=by unfold bx;rw[Pr Y]
   refine⟨x,j,dn,l2,[],0,D,d,rfl,SA.same s5,PX.up,bf (λ_ _ z=>aV.mono s5 z) U,⟨λe=>?_,λo m=>?_,λo m y hy=>?_,?_⟩,by lia,?_,λH5 s6 S5=>?_⟩
   .rw[e] at kl;simp at kl;lia
   .have:(o.length:Int)=many:=(mem o m).2.2.1;lia
   .have g:=mem o m;have gl:(o.length:Int)=many:=g.2.2.1;have:=g.2.2.2.mem hy;lia
   .exact ZZ.imp λh z=>by
     have:=sf z;rw[ē,ē,h] at this;cases this
   .show 0+d.length*many<1000;have:d.length*many<=63*8:=Nat.mul_le_mul (by lia) m8;lia
   .rw[Wt] at S5 ⊢;obtain⟨dx5,S,L5,hx5,ahy,pr5,_⟩:=S5.ex;refine⟨_,rfl,_,rfl,x,C,dx5,_,.ref j,rfl,hx5,c.cls,c.rooms,rfl,_,rfl,by show 3<=PH;decide,λt I=>?_⟩;have s7:=ag I (.tup [V.int (many:Int),V.ref j,V.int (((Bk.lay many os []).1:Nat):Int)]);have s8:ar H H5:=λb u q=>s6 b u (ax q ZY) (ax q fdn) (s5 b u (s4 b u q));rw[lb] at z;exact z t j _ (s8.trans s7) ⟨s8.free I,ZY,ak,S,s7 _ _ ahy,bf (λ_ _ z=>z.same s7) pr5⟩
def iD (K:Po)(H0:Hp)(fl:D')(PB:SK->List (Int×SK))(QL:SK->Nat)(good:SK->Prop)(n:Nat):Sp:=λvs H Q _=>∃(many:Int) (v:V) (s:SK),vs=[.int many,v,.ref fl]/\cx K H v s/\ar H0 H/\good s/\(Bk.SM s\/QL s<=n)/\(Bk.fj PB n s).1.length<1000/\
 ∀(t lr:D') (H':Hp),ar H H'->XA K H H' t lr many (Bk.fj PB n s).1 (Bk.fj PB n s).2->Q (.ref t) H'
theorem qx:QE ["many","state","doors_from","shelf","first"] ["many","state","doors_from"] (ao pi):={}
theorem Dh {P:PU}{w:Pz}{K:Po}{mg:M'->Option G'}{base:Ps}{CO:D'}{C:D'}{PB:SK->List (Int×SK)}{os:SK->Bk.ap}{QL:SK->Nat}{good:SK->Prop}{f fi fl:D'}{fd X1:P5}{H0:Hp}{kl n:Nat}(n5:n<=5)(h0:os (.inl 0)=[])(h1:os (.inl 1)=[[]])(hgd:∀k,good (.inl k)->k=0\/k=1)(VU:∀s,(PB s).length<=8)(F:Qh K "grown" "grown" pi f fd)(T:Rf K mg CO)(c:V2 K C)(M:Mk K C fi)(Fi:P4 P w K mg base PV 1 fi X1 ["self"] (oY K C))(bi:bA K X1 ["self"] [])(mC:mg "Shelf"=some (.ref C))(WS:Df P w K mg base PV (n+kl+2) "grow" ["shelf","state","doors_from","known"] (pj K C H0 fl PB os QL good n)):P4 P w K mg base PV (n+kl+3) f fd ["many","state","doors_from"] (iD K H0 fl PB QL good n):=by
 refine F.ok qx (λvs H Q E h=>?_) (λP3 A outer s H vs Q E S h=>?_)
 .obtain⟨many,v,st,rfl,_⟩:=h;rfl
 obtain⟨many,v,st,rfl,rv,s0,gd,lv,Qi,z⟩:=h;obtain⟨X,m0⟩:=T.no;obtain⟨U,Y⟩:=T.en;refine⟨_,af (aQ (i:=3) qx.nd rfl (Q8 rfl) (tU M Fi (S.mono (by lia)) rfl mC bi .nil lY))
  (af (aQ (i:=4) qx.nd rfl (Q8 rfl) (aE WS (S.mono (by lia)) rfl pS (aa (pv 3) (aa (pv 1) (aa (pv 2) (aa (G5 (pZ (cU (aA (v:=.int 0) rfl m0 ⟨X,rfl⟩) (aA (v:=.int 0) rfl m0 ⟨X,rfl⟩) (cU (aA (v:=.int 1) rfl Y ⟨U,rfl⟩) (aA (v:=.int 1) rfl Y ⟨U,rfl⟩) pY)) rfl rfl (by decide) (by decide))) ad))))))
  (ai (aD (aZ (aa (pv 0) (aa (iM (pv 3) rfl) (aa (pv 4) ad))))))),?_⟩
 intro x p d D L;have u1:=ag D (.own x);have YI:(upd H p (.own x)) x=none:=by rw[al (QC L)];exact d
 have u2:=ag YI (.ins C p []);have s3:=u1.trans u2;refine⟨x,p,rfl,ak,λg Z o Rm Rg keep W=>⟨rfl,?_⟩⟩;have s4:ar H o:=λb u q=>keep b u (ax q d) (s3 b u q);have O:H g=none:=s3.free Rm;have j:H Z=none:=s3.free Rg;refine⟨_,rfl,_,rfl,_,rfl,λdk m=>?_⟩;refine⟨ak,[(.inl 0,.int 0),(.inl 1,.int 1)],rfl,by decide,dk,[(0,0),(1,1)],rfl,?_,?_⟩
 .rw[ak];rfl
 have u5:upd (upd (upd o dk (.dK [])) dk (.dK (gf [] [(.inl 0,.int 0),(.inl 1,.int 1)]))) dk (Sm dk (UP [(0,0),(1,1)]))=upd o dk (Sm dk (UP [(0,0),(1,1)])):=by rw[pP,pP]
 rw[u5];have s5:=ag m (Sm dk (UP [(0,0),(1,1)]));have KA:Uv K (upd o dk (Sm dk (UP [(0,0),(1,1)]))) dk Bk.V4:=⟨UP [(0,0),(1,1)],ak,λe he=>by
  rcases Qe.mp he with rfl|he
  .rfl
  .obtain rfl:=Ri.mp he;rfl,.cons ⟨rfl,rfl⟩ (.cons ⟨rfl,rfl⟩ .nil)⟩
 have fw:=(Bk.vp VU n st ([],Bk.V4)).2;have p9:9 ^ n<=9 ^ 5:=agi (by (first|trivial|lia)) n5;have Z0:=s4.trans s5;obtain⟨_,_,NL,_,afp,_,y,_⟩:=W.ex;refine⟨x,g,Z,dk,v,st,[],Bk.V4,rfl,W.same s5,KA,rv.mono Z0,s0.trans Z0,s0.free O,s0.free j,s0.free (s4.free m),(λe=>by rw[e,y] at m;cases m),gd,lv,Bk.Ek h0 h1 hgd,Qi,?_,λH6 s6 S6 _=>?_⟩
 .have:(Bk.V4).length=2:=rfl;dsimp only at fw;lia
 obtain⟨R,N,L6,J,G,I,_⟩:=S6.ex;refine⟨_,rfl,_,rfl,x,C,R,_,.ref g,rfl,J,c.cls,c.rooms,rfl,_,rfl,by show 3<=PH;decide,λt ht=>?_⟩;have s7:=ag ht (.tup [V.int many,V.ref g,V.int (((Bk.aM PB n st ([],Bk.V4)).1:Nat):Int)]);have s8:ar H H6:=s6.base Z0 λa ha=>by
  simp only[Qe,Rz,or_false] at ha;rcases ha with rfl|rfl|rfl
  .exact O
  .exact j
  .exact s4.free m
 exact z t g _ (s8.trans s7) ⟨s8.free ht,O,ak,N,s7 _ _ G,bf (λ_ _ z=>z.same s7) I⟩
noncomputable abbrev tE:PD:=top 37
noncomputable abbrev mM:PD:=top 38
noncomputable abbrev nY:PD:=top 39
theorem zc:SF "min"=some (.builtin "min"):=by decide +kernel
theorem G7:SF "dict"=some (.type "dict"):=by decide +kernel
structure TxJ (K)(mg:M'->Option G')(CO):Prop where
 t:Rf K mg CO
 min:mg "min"=none
 dict:mg "dict"=none
def vB (K:Po):Sp:=λvs H Q _=>∃(c:D') (cl:Bk.Cl) (a b:Int),vs=[.ref c,.int a,.int b]/\cu.rep K H (.ref c) (enc cl)/\∀(v:V) (H':Hp),ar H H'->cx K H' v (Bk.eM cl a b)->Q v H'
theorem Be:QE ["closes","one","other","settled"] ["closes","one","other"] (ao tE):={}
theorem FA {cl:Bk.Cl}:(enc cl).any (λa=>decide (a=[x,y]))=decide ((x,y)∈cl):=by
 induction cl with
 | nil=>rfl
 | cons p cl f=>
  rw[show enc (p::cl)=[p.1,p.2]::enc cl from rfl,Wi,f];obtain⟨a,b⟩:=p
  by_cases h:a=x/\b=y
  .obtain⟨rfl,rfl⟩:=h;simp
  .have c:¬[a,b]=[x,y]:=λe=>h (by injection e with e1 e2;injection e2 with e2 _;exact⟨e1,e2⟩);have d:¬(x,y)=(a,b):=λe=>h (by injection e with e1 e2;exact⟨e1.symm,e2.symm⟩);simp[c,d]
theorem xM (a:Int):(if (1:Int)<a then (1:Int) else a)=min a 1:=by
 by_cases h:1<a
 .rw[PK h,ũ (by lia)]
 .rw[Pr h,Ũ (by lia)]
theorem xN (F:Qh K "meet" "meet" tE f fd)(T:TxJ K mg CO):P4 P w K mg base PV 1 f fd ["closes","one","other"] (vB K):=by
 refine F.ok Be (λvs H Q E h=>?_) (λR A outer s H vs Q E L h=>?_)
 .obtain⟨c,cl,a,b,rfl,_⟩:=h;rfl
 obtain⟨c,cl,a,b,rfl,M,z⟩:=h;obtain⟨N,W⟩:=T.t.no;obtain⟨m,n⟩:=T.t.en;have S:(A.deeper (Ō "meet" (ao tE) s.heap.objs.size f R)).units+1+aV.Tc<Qv:=by have:=L.un;show(A.deeper _).units+1+1<Qv;lia
 refine⟨_,af (aQ (i:=3) Be.nd rfl (lc rfl) (DY (cG hW (pv 1) (aA (v:=.int 1) rfl n ⟨m,rfl⟩) (aw _)) (jz (cG hW (pv 2) (aA (v:=.int 1) rfl n ⟨m,rfl⟩) (aw _)))))
  (af (aH (PW.pt (jy (nA (pv 3) (λ_=>rfl)) (ix (aq (show QG _ _ (Dm aV K true) from Bd aV S) (aZ (aa (aG (qM rfl) rfl T.min zc (aa (pv 1) (aa (aA (v:=.int 1) rfl n ⟨m,rfl⟩) ad))) (aa (aG (qM rfl) rfl T.min zc (aa (pv 2) (aa (aA (v:=.int 1) rfl n ⟨m,rfl⟩) ad))) ad))) (pv 0) rfl)))) (ai (aD (aA (v:=.int 0) rfl W ⟨N,rfl⟩))) au)
  (af (aH (PW.pt (jy (aq hW (pv 1) (aA (v:=.int 1) rfl n ⟨m,rfl⟩) (aw _)) (ix (aq hW (pv 2) (aA (v:=.int 1) rfl n ⟨m,rfl⟩) (aw _))))) (ai (aD (aA (v:=.int 1) rfl n ⟨m,rfl⟩))) au)
  (ai (aD (aZ (aa (pv 1) (aa (pv 2) ad))))))),?_⟩
 have last:∀(C:Hp) (G:Option V),ar H C->¬((a<=1\/b<=1)/\(min a 1,min b 1)∉cl)->kT (yf (ye (jW (VY (UM λi j=>V.bl (decide (i<=j))) (eP 1) (tC (V.int 1)))) (jW (VY (UM λi j=>V.bl (decide (i<=j))) (eP 2) (tC (V.int 1))))) (nz (tC (V.int 1))) sV) (nz (tT (e9 (eP 1) (e9 (eP 2) kY)))) { nx:=λx g=>Q V.Qb g,rt:=Q } [some (.ref c),some (.int a),some (.int b),G] C:=by
  intro C G s1 y;refine⟨_,rfl,a,1,rfl,rfl,_,rfl,?_⟩;have two:¬(a<=1/\b<=1)->nz (tT (e9 (eP 1) (e9 (eP 2) kY))) { nx:=λx g=>Q V.Qb g,rt:=Q } [some (.ref c),some (.int a),some (.int b),G] C:=λnb=>by
   refine⟨_,rfl,_,rfl,by show 2<=PH;decide,λp I=>?_⟩;refine z _ _ (s1.trans (ag I _)) ?_;unfold Bk.eM;rw[Pr y,Pr nb];exact cX (o:=[a,b]) PM.up
  by_cases e:a<=1
  .rw[Qk e];refine aU ⟨_,rfl,b,1,rfl,rfl,_,rfl,?_⟩
   by_cases d:b<=1
   .rw[Qk d];refine aU (z _ _ s1 ?_);unfold Bk.eM;rw[Pr y,PK ⟨e,d⟩];rfl
   .rw[Qd d];exact az (two λh=>d h.2)
  .rw[Qd e];exact az (az (two λh=>e h.1))
 have rest:∀st:Bool,st=decide (a<=1\/b<=1)->kT (yf (ye (λU D Q=>eP 3 U D λx g=>∃k,Cc K x g k/\Q k g) (jW (VY (Dm aV K true) (tT (e9 (tCB (λxs H Q=>∃i j,xs=[V.int i,V.int j]/\Q (V.int (if j<i then j else i)) H) (e9 (eP 1) (e9 (tC (V.int 1)) kY))) (e9 (tCB (λxs H Q=>∃i j,xs=[V.int i,V.int j]/\Q (V.int (if j<i then j else i)) H) (e9 (eP 2) (e9 (tC (V.int 1)) kY))) kY))) (eP 0)))) (nz (tC (V.int 0))) sV)
   (kT (yf (ye (jW (VY (UM λi j=>V.bl (decide (i<=j))) (eP 1) (tC (V.int 1)))) (jW (VY (UM λi j=>V.bl (decide (i<=j))) (eP 2) (tC (V.int 1))))) (nz (tC (V.int 1))) sV) (nz (tT (e9 (eP 1) (e9 (eP 2) kY))))) { nx:=λx g=>Q V.Qb g,rt:=Q } [some (.ref c),some (.int a),some (.int b),some (.bl st)] H:=by
  intro st J;refine⟨_,rfl,st,rfl,?_⟩;cases st with
  | false=>
   have y:¬(a<=1\/b<=1):=of_decide_eq_false J.symm;exact az (az (last H _ (ar.refl H) λh=>y h.1))
  | true=>
   have O:a<=1\/b<=1:=Wb J.symm;refine aU ⟨_,rfl,a,1,rfl,_,rfl,b,1,rfl,by show 2<=PH;decide,λp I=>?_⟩;have s1:=ag I (.tup [V.int (if (1:Int)<a then 1 else a),V.int (if (1:Int)<b then 1 else b)]);refine⟨_,rfl,[if (1:Int)<a then 1 else a,if (1:Int)<b then 1 else b],enc cl,cX (o:=[if (1:Int)<a then 1 else a,if (1:Int)<b then 1 else b]) PM.up,cu.mono s1 M,_,rfl,?_⟩;rw[xM,xM] at s1 ⊢;rw[PK rfl,FA]
   by_cases u:(min a 1,min b 1)∈cl
   .rw[Qk u];exact az (last _ _ s1 λh=>h.2 u)
   .rw[Qd u];refine aU (z _ _ s1 ?_);unfold Bk.eM;rw[PK ⟨O,u⟩];rfl
 refine⟨_,rfl,a,1,rfl,rfl,_,rfl,?_⟩
 by_cases e:a<=1
 .rw[Qk e];exact aU (rest true (Qk (.inl e)).symm)
 .rw[Qd e];refine az ⟨_,rfl,b,1,rfl,rfl,rest (decide (b<=1)) ?_⟩
  by_cases d:b<=1
  .rw[Qk d,Qk (.inr d)]
  .rw[Qd d,Qd (λh=>h.elim e d)]
theorem pB (r:Bk.Pn)(t:Int):(cj (Q9 r) (.inl t)).getD (.int 0)=.int (Bk.cb r t):=by
 unfold Bk.cb
 induction r with
 | nil=>rfl
 | cons d r b=>
  rw[show Q9 (d::r)=(.inl d.1,.int d.2)::Q9 r from rfl]
  by_cases h:d.1=t
  .rw[ed (by rw[h]),af9 (by simpa using h)];rfl
  .rw[ef (λz=>h (Ê z)),Y5 (by simpa using h)];exact b
def sr (K:Po):Sp:=λvs H Q _=>∃(l:D') (xs:List V) (rs:List Bk.Pn) (k:Int),vs=[.ref l,.int k]/\PX K H l xs/\PR (bF K H) xs rs/\(k=0\/(2<=k/\k<(rs.length:Int)+2))/\((Bk.bq rs k).map (·.1)).Nodup/\(Bk.bq rs k).length<=100/\
 ∀(d:D') (H':Hp),ar H H'->H d=none->H' d=some (.dK (Q9 (Bk.bq rs k)))->Q (.ref d) H'
theorem Bg:QE ["rooms","number"] ["rooms","number"] (ao nY):={}
theorem pC (F:Qh K "doors_by_thing" "doors_by_thing" nY f fd)(T:TxJ K mg CO):P4 P w K mg base PV 1 f fd ["rooms","number"] (sr K):=by
 refine F.ok Bg (λvs H Q E h=>?_) (λL A outer s H vs Q E J h=>?_)
 .obtain⟨l,xs,rs,k,rfl,_⟩:=h;rfl
 obtain⟨l,xs,rs,k,rfl,e,G,y,nd,Qi,z⟩:=h;obtain⟨p,I⟩:=T.t.no;obtain⟨n,j⟩:=T.t.low;refine⟨_,af (aH (aq bu (pv 1) (aA (v:=.int 0) rfl I ⟨p,rfl⟩) (aw _)) (ai (aD uv)) au)
  (ai (aD (bX (za rfl) rfl T.dict G7 (aa (cI (show U4 _ (fI K) from bL) (pv 0) (ay oo (pv 1) (aA (v:=.int 2) rfl j ⟨n,rfl⟩)) (λ_ _=>rfl)) ad)))),?_⟩
 refine⟨_,rfl,rfl,_,rfl,?_⟩
 by_cases k0:k=0
 .subst k0;rw[Qk rfl];exact aU λd hd=>z d _ (ag hd _) hd ak
 .obtain⟨k2,kl⟩:=y.resolve_left k0;rw[Qd λh=>k0 (V.int.inj h)];refine az ⟨_,rfl,_,rfl,k,2,rfl,rfl,?_⟩;have b:(k-2).toNat<rs.length:=by lia
  obtain⟨x,o,D⟩:=gJ G (Bk.gT b);obtain⟨a,ys,rfl,g,m⟩:=id D;have C:SJ xs (k-2)=some (.ref a):=by
   have:=cH o;rw[show(((k-2).toNat:Nat):Int)=k-2 by lia] at this;exact this
  have u:Bk.bq rs k=Bk.bd rs k:=by unfold Bk.bq;rw[Pr k0]
  rw[u] at nd Qi z;exact⟨l,xs,k-2,.ref a,rfl,rfl,e,C,a,ys,Bk.bd rs k,rfl,g,m,nd,Qi,λq c=>z q _ (ag c _) c ak⟩
structure YR (rs:List Bk.Pn)(k:Int):Prop where
 rn:k=0\/(2<=k/\k<(rs.length:Int)+2)
 rise:((Bk.bq rs k).map (·.1)).Pairwise (· < ·)
 small:∀d∈Bk.bq rs k,0<=d.1/\d.1<4
theorem YR.nd (R:YR rs k):((Bk.bq rs k).map (·.1)).Nodup:=R.rise.imp λh e=>by lia
theorem YR.Qi (R:YR rs k):(Bk.bq rs k).length<=4:=by
 have:=qy R.nd λx b=>by
  obtain⟨d,hd,rfl⟩:=Qs.mp b;exact R.small d hd
 rwa[Qx] at this
def iY (K:Po):Sp:=λvs H Q _=>∃(c l1 l2:D') (U9 U':List V) (PN PP:List Bk.Pn) (cl:Bk.Cl) (y:V) (a b:Int),vs=[.ref c,.ref l1,.ref l2,y]/\cu.rep K H (.ref c) (enc cl)/\PX K H l1 U9/\PR (bF K H) U9 PN/\PX K H l2 U'/\PR (bF K H) U' PP/\aV.rep K H y [a,b]/\YR PN a/\YR PP b/\
 ∀(l:D') (ys:List V) (H':Hp),ar H H'->H l=none->H' l=some (.lst ys)->PR (gW K H') ys (Bk.gp cl PN PP a b)->Q (.ref l) H'
noncomputable abbrev NDp:List M':=["closes","rooms","others","pair","mine","theirs","found","thing"]
theorem iZ:QE NDp ["closes","rooms","others","pair"] (ao mM):={}
theorem su (F:Qh K "doors_of_pair" "doors_of_pair" mM f fd)(T:TxJ K mg CO)(WB:Df P w K mg base PV 1 "doors_by_thing" ["rooms","number"] (sr K))(WM:Df P w K mg base PV 1 "meet" ["closes","one","other"] (vB K)):
  P4 P w K mg base PV 2 f fd ["closes","rooms","others","pair"] (iY K):=by
 refine F.ok iZ (λvs H Q E h=>?_) (λP3 A outer s H vs Q E hr h=>?_)
 .obtain⟨c,l1,l2,U9,U',j,n,cl,y,a,b,rfl,_⟩:=h;rfl
 obtain⟨c,l1,l2,U9,U',j,n,cl,y,a,b,rfl,rc,q1,p1,q2,p2,ry,D,R2,z⟩:=h;obtain⟨t0,m0⟩:=T.t.no;have hu:(A.deeper (Ō "doors_of_pair" (ao mM) s.heap.objs.size f P3)).units+1<Qv:=by have:=hr.un;show(A.deeper _).units+1<Qv;lia
 obtain⟨pa,rfl,qa⟩:=dH ry;refine⟨_,af (aQ (i:=4) iZ.nd rfl (lc rfl) (aE WB hr rfl pS (aa (pv 1) (aa (P9 K (pv 3) ae) ad))))
  (af (aQ (i:=5) iZ.nd rfl (lc rfl) (aE WB hr rfl pS (aa (pv 2) (aa (P9 K (pv 3) ae) ad))))
  (af (aQ (i:=6) iZ.nd rfl (lc rfl) (bC ad))
  (af (dM Wg rfl (fR (aG (vz rfl) rfl T.t.t.sorted nE (aa (ay G6 (bX sj rfl T.t.set yS (aa (pv 4) ad)) (bX sj rfl T.t.set yS (aa (pv 5) ad))) ad)))
    (cD (i:=7) iZ.nd rfl (lc rfl))
    (ai (bv (gI Xj Y2 Y3 eT (pv 6) (aa (aZ (aa (pv 7) (aa (aE WM hr rfl pS (aa (pv 0) (aa (iT hu (pv 4) (pv 7) (aA (v:=.int 0) rfl m0 ⟨t0,rfl⟩) ⟨rfl,rfl,rfl,rfl⟩) (aa (iT hu (pv 5) (pv 7) (aA (v:=.int 0) rfl m0 ⟨t0,rfl⟩) ⟨rfl,rfl,rfl,rfl⟩) ad)))) ad))) ad)))))
  (ai (aD (pv 6)))))),?_⟩
 refine⟨_,rfl,_,rfl,pa,_,0,.int a,rfl,rfl,qa,rfl,l1,U9,j,a,rfl,q1,p1,D.rn,D.nd,by have:=D.Qi;lia,λY H1 s1 f1 hd1=>?_⟩;refine⟨_,rfl,_,rfl,pa,_,1,.int b,rfl,rfl,s1.P6 qa,rfl,l2,U',n,b,rfl,s1.R0 q2,bf (λ_ _ z=>z.same s1) p2,R2.rn,R2.nd,by have:=R2.Qi;lia,λZ H2 s2 f2 hd2=>?_⟩;refine⟨by show 0<=PH;decide,λg hg=>?_⟩;have s3:=ag hg (.lst []);have Z6:=s1.trans (s2.trans s3);have X:=s3 _ _ (s2 _ _ hd1);have J:=s3 _ _ hd2;refine⟨_,rfl,Y,_,rfl,X,D.Qi,λk1 ka fk1 nda adc=>?_⟩;have s4:=ag fk1 (gC w k1 true ka);refine⟨_,rfl,Z,_,rfl,s4 _ _ J,R2.Qi,λk2 kb I ndb u=>?_⟩;have s5:=ag I (gC w k2 true kb);refine⟨k1,k2,ka,kb,rfl,rfl,ax ak I,s5 _ _ ak,ak,λx hx=>?_,λk3 kc fk3 R S=>?_⟩
 .rcases hx with hx|hx
  .obtain⟨d,hd,rfl⟩:=Qs.mp ((adc x).mp hx);exact D.small d hd
  .obtain⟨d,hd,rfl⟩:=Qs.mp ((u x).mp hx);exact R2.small d hd
 have s6:=ag fk3 (gC w k3 false kc);have kc4:kc.length<=4:=qy R λx hx=>by
  rcases(S x).mp hx with hx|hx
  .obtain⟨d,hd,rfl⟩:=Qs.mp ((adc x).mp hx);exact D.small d hd
  .obtain⟨d,hd,rfl⟩:=Qs.mp ((u x).mp hx);exact R2.small d hd
 refine⟨k3,false,kc,rfl,ak,by lia,λsl ns L N ahB=>?_⟩;have s7:=ag L (.lst (ns.map V.int));have en:=Bk.wK (r1:=Bk.bq j a) (r2:=Bk.bq n b) N ahB R (λx=>by rw[S,adc,u]) (λd hd=>by have:=D.small d hd;lia) (λd hd=>by have:=R2.small d hd;lia);have nl:ns.length<=4:=by rw[N.length_eq];exact kc4
 subst en;have Wu:=s4.trans (s5.trans (s6.trans s7));have s17:=Z6.trans Wu;have nsg:sl≠g:=QC (ax ((s4.trans (s5.trans s6)) _ _ (ak (H:=H2) (a:=g) (o:=.lst []))) L);have g7:=Wu _ _ (ak (H:=H2) (a:=g) (o:=.lst []));have gH:H g=none:=(s1.trans s2).free hg;refine⟨sl,rfl,⟨_,PX.up⟩,gu (K:=K) (a:=sl) (xs:=(Bk.gL (Bk.bq j a) (Bk.bq n b)).map V.int) (λi σ p=>∃v7 ys,σ=[some (.ref c),some (.ref l1),some (.ref l2),some (.ref pa),some (.ref Y),some (.ref Z),some (.ref g),v7]/\ar H p/\p Y=some (.dK (Q9 (Bk.bq j a)))/\p Z=some (.dK (Q9 (Bk.bq n b)))/\p sl=some (.lst ((Bk.gL (Bk.bq j a) (Bk.bq n b)).map V.int))/\p g=some (.lst ys)/\PR (gW K p) ys ((Bk.gp cl j n a b).take i))
  ⟨none,[],rfl,s17,Wu _ _ X,Wu _ _ J,ak,g7,.nil⟩ ?_ ?_ ?_⟩
 .rintro i σ p _ ⟨v7,ys,rfl,_,_,_,hsl,_⟩;exact PX.of hsl
 .rintro i x σ p hx ⟨v7,ys,rfl,s8,W,O,U,G,m⟩;rw[So] at hx;obtain⟨t,ht,rfl⟩:=Xk.mp hx;have hpd:(Bk.gp cl j n a b)[i]?=some (t,Bk.eM cl (Bk.cb (Bk.bq j a) t) (Bk.cb (Bk.bq n b) t)):=by
   unfold Bk.gp;rw[So,ht];rfl
  have il:=(Rh.mp ht).1;refine⟨_,rfl,.inl ⟨rfl,_,.inl (.inl G)⟩,_,rfl,_,rfl,_,rfl,Y,rfl,.inl ⟨_,.inl W⟩,_,rfl,_,.inl ⟨_,.inl t,.inl W,rfl,rfl⟩,_,rfl,Z,rfl,.inl ⟨_,.inl O⟩,_,rfl,_,.inl ⟨_,.inl t,.inl O,rfl,rfl⟩,?_⟩;rw[pB,pB];refine⟨c,cl,_,_,rfl,cu.mono s8 rc,λv H9 s9 rv=>?_⟩;refine⟨by show 2<=PH;decide,λC YQ=>?_⟩;have TH:=ag YQ (.tup [V.int t,v]);have M:=TH _ _ (s9 _ _ G);have yl:ys.length<=i:=by
   have:=m.length;rw[SO] at this;lia
  refine⟨g,ys,.ref C,rfl,rfl,M,by rw[QA];lia,_,ys++[.ref C],rfl,λb' o' e'=>?_,?_,?_,?_,ak,?_⟩
  .rw[al (ax e' gH)];exact TH _ _ (s9 _ _ (s8 _ _ e'))
  .rw[al (i8 W G (by intro h;cases h))];exact TH _ _ (s9 _ _ W)
  .rw[al (i8 O G (by intro h;cases h))];exact TH _ _ (s9 _ _ O)
  .rw[al nsg];exact TH _ _ (s9 _ _ U)
  .have UQ:aO [g] (upd H9 C (.tup [V.int t,v])) (upd (upd H9 C (.tup [V.int t,v])) g (.lst (ys++[.ref C]))):=λb' o' hb e=>by
    rw[al (λz=>hb (by simp[z]))];exact e
   have so:cY (upd H9 C (.tup [V.int t,v])) [g]:=λa' ha=>by
    obtain rfl:a'=g:=by simpa using ha
    exact⟨_,M,trivial⟩
   rw[cC hpd];refine dG (bf (λ_ _ z=>?_) m) (.cons ⟨C,v,rfl,UQ.RC so PM.up,UQ.sk so (rv.mono TH)⟩ .nil);obtain⟨p',lv',e',q',r'⟩:=z.same (s9.trans TH);exact⟨p',lv',e',UQ.RC so q',UQ.sk so r'⟩
 .rintro σ p ⟨v7,ys,rfl,s8,W,O,U,G,m⟩;have pl:(Bk.gp cl j n a b).length=(Bk.gL (Bk.bq j a) (Bk.bq n b)).length:=by unfold Bk.gp;rw[Qx]
  rw[Qx,<-pl,UV] at m;exact⟨_,rfl,z g ys p s8 gH G m⟩
noncomputable abbrev cQ:PD:=top 36
noncomputable def i3 (st:PD):PZ:=match (bR st).getD 2 (.Pass ⟨0,0,0,0⟩) with
 | .Return (some (.Call _ [_,_,e] _ _)) _=>e
 | _=>.Name "" ⟨0,0,0,0⟩
noncomputable def zd:PZ->Zt
 | .Lambda a _ _ _=>a
 | _=>dQ cQ
noncomputable def ze:PZ->PZ
 | .Lambda _ b _ _=>b
 | e=>e
noncomputable def zf:PZ->Su
 | .Lambda _ _ s _=>s
 | _=>ao cQ
noncomputable def ju:PZ->Qp
 | .Lambda _ _ _ p=>p
 | _=>⟨0,0,0,0⟩
theorem Bh (wf:Bk.WF rs)(s4:∀r∈rs,∀d∈r,0<=d.1/\d.1<4)(rn:Bk.Rn rs k)(k1:k≠1):YR rs k:=by
 rcases rn with rfl|⟨f,b⟩
 .exact⟨.inl rfl,Yb,λd hd=>nomatch hd⟩
 .have c:Bk.bq rs k=Bk.bd rs k:=by unfold Bk.bq;rw[Pr (by lia)]
  refine⟨.inr ⟨by lia,b⟩,?_,λd hd=>?_⟩
  .rw[c];exact(Bk.mJ wf (k:=k) (by lia) b).1.rise
  .rw[c] at hd;have e:Bk.bd rs k∈rs:=Q6 (Bk.gT (by lia));exact s4 _ e d hd
def Dp (K:Po)(cl:Bk.Cl)(many:Int)(PN PP:List Bk.Pn)(f1 f2:Int)(QR:List V)(c:D')(oc:J')(H0:Hp):Prop:=∃(cA b1 b2 l1 l2:D') (U9 U':List V),QR=[.ref cA,.ref b1,.ref b2]/\cu.rep K H0 (.ref cA) (enc cl)/\
 PM K H0 b1 [.int many,.ref l1,.int f1]/\PX K H0 l1 U9/\PR (bF K H0) U9 PN/\PM K H0 b2 [.int many,.ref l2,.int f2]/\PX K H0 l2 U'/\PR (bF K H0) U' PP/\H0 c=some (.Q2 oc (.own 0))
theorem FC (J:Bk.X3 many PN PP f1 f2)(L:YN base f fd "pair" ["closes","one","other"] QR qual (zd (i3 cQ)) (ze (i3 cQ)) (zf (i3 cQ)) Q4 c)(ho:kC oc qual)(WD:Df P w K mg base PV 2 "doors_of_pair" ["closes","rooms","others","pair"] (iY K))(pre:Dp K cl many PN PP f1 f2 QR c oc H0):
  P4 P w K mg base PV 3 f fd ["pair"] (jP K H0 (Bk.gB cl PN PP) (Bk.mI PN PP)):=by
 obtain⟨I,O,t,j,g,o,F,rfl,p,y,D,C,u,x,M,G⟩:=pre;refine AW (k:=2) L (by decide) (λvs H Q E h=>?_) (λvs H Q E h=>?_) ho (λA outer s H v Q E m h=>?_)
 .obtain⟨v,st,rfl,_⟩:=h;rfl
 .obtain⟨v,st,_,s0,_⟩:=h;exact s0 _ _ G
 .obtain⟨R,st,ev,s0,e,N,d,z⟩:=h;cases ev;refine⟨_,aE WD m rfl pS (aa (pv 1) (aa (P9 K (pv 2) ae) (aa (P9 K (pv 3) ae) (aa (pv 0) ad)))),?_⟩
  match st,N,d,e,z with
  | .inl k,_,d,_,_=>exact Py trivial d
  | .inr [a,b],⟨a1,b1',nab,n,pg⟩,_,e,z=>
   refine⟨_,rfl,_,rfl,O,_,1,.ref j,rfl,rfl,s0.P6 y,rfl,_,rfl,t,_,1,.ref g,rfl,rfl,s0.P6 u,rfl,_,rfl,?_⟩;exact⟨I,j,g,o,F,PN,PP,cl,v,a,b,rfl,cu.mono s0 p,s0.R0 D,bf (λ_ _ z=>z.same s0) C,s0.R0 x,bf (λ_ _ z=>z.same s0) M,e,Bh J.w1 J.s1 pg.ra a1,Bh J.w2 J.s2 pg.rb b1',z⟩
end Ord
namespace L2
open PySem
theorem dF.l (s:dF Pt H H'):Ord.aO [Pt] H H':=λb o c e=>s b o (λz=>c (by simp[z])) e
end L2
namespace Ord
open PySem L2 Mx
theorem vC (h:H Pt=some (.Sw ps)):cY H [Pt]:=λa b=>by
 obtain rfl:a=Pt:=by simpa using b
 exact⟨_,h,trivial⟩
theorem aO.R0 (s:aO as H H')(n:∀b∈as,∀xs,¬Rd H b (.lst xs))(h:PX K H a xs):PX K H' a xs:=by
 rcases h with(h|⟨o,h⟩)|h
 .exact .inl (.inl (s _ _ (λz=>n _ z _ (.inl h)) h))
 .exact .inl (.inr ⟨o,s _ _ (λz=>n _ z _ (.inr ⟨o,h⟩)) h⟩)
 .exact .inr h
theorem Bi (h:H Pt=some (.Sw ps)):∀b∈[Pt],∀xs,¬Rd H b (.lst xs):=λb c xs z=>by
 obtain rfl:b=Pt:=by simpa using c
 rcases z with z|⟨o,z⟩ <;> rw[h] at z <;> cases z
theorem aO.room (s:aO as H H')(so:cY H as)(h:bF K H x r):bF K H' x r:=by
 obtain⟨a,xs,e,q,p⟩:=h;exact⟨a,xs,e,s.RC so q,bf (λ_ _ z=>s.door so z) p⟩
noncomputable def X4 (x:M'):Option Bk.Cl:=if x="or" then some [(1,0),(0,1),(1,1)] else if x="and" then some [(1,1)] else if x="less" then some [(1,0)] else if x="odd" then some [(1,0),(0,1)] else none
structure TxC (P)(w)(K)(mg:M'->Option G')(a)(kvs):Prop where
 at_:mg "CLOSES"=some (.ref a)
 d:io P w K a kvs
 val:∀x cl,X4 x=some cl->∃c,valueAt kvs (.inr x)=some (.ref c)/\∀H,cu.rep K H (.ref c) (enc cl)
 Qb:∀x,X4 x=none->valueAt kvs (.inr x)=none
def iE (P:PU)(w:Pz)(K:Po)(mg:M'->Option G')(base:Ps)(fg:D')(TL:P5):Prop:=∀(fl:D') (U8:P5) (ol:J') (H0:Hp) (kl n:Nat) (xl:M') (PB:SK->List (Int×SK)) (os:SK->Bk.ap) (QL:SK->Nat) (good:SK->Prop),
 Bk.Way PB os QL Bk.SM good->os (.inl 0)=[]->os (.inl 1)=[[]]->(∀k,good (.inl k)->k=0\/k=1)->(∀s,(PB s).length<=8)->n<=5->P4 P w K mg base PV kl fl U8 [xl] (jP K H0 PB good)->base.get? fl=some ol->ol.data=.func U8->
 (∀us:List G',us.length=[xl].length->bindArgs U8 ⟨us,[]⟩=pure ([xl].zip us))->P4 P w K mg base PV (n+kl+3) fg TL ["many","state","doors_from"] (iD K H0 fl PB QL good n)
theorem Dq (Fg:Qh K "grown" "grown" pi f fd)(Fw:Qh K "grow" "grow" mL g gd)(T:Rf K mg CO)(c:V2 K C)(M:Mk K C fi)(Fi:P4 P w K mg base PV 1 fi X1 ["self"] (oY K C))(bi:bA K X1 ["self"] [])(mC:mg "Shelf"=some (.ref C))(mk:XB K C "keep" fk)(Fk:P4 P w K mg base PV 1 fk Uw ["self","room"] (jM K C))(bk:bA K Uw ["self","room"] [])(b:bA K gd ["shelf","state","doors_from","known"] [])(m:mg "grow"=some (.ref g)):iE P w K mg base f fd:=
 λu t v H0 kl n y PB os x good W h0 e h d p s o hd j=>Dh p h0 e h d Fg T c M Fi bi mC ⟨g,gd,xK W d Fw T c mk Fk bk s o hd j b m n,b,Fw.kp,m⟩
theorem zh (J:Bk.X3 many PN PP f1 f2)(m5:many<=5)(c0:(0,0)∉cl)(L:YN base f fd "pair" ["closes","one","other"] QR qual (zd (i3 cQ)) (ze (i3 cQ)) (zf (i3 cQ)) Q4 c)(ho:kC oc qual)(WD:Df P w K mg base PV 2 "doors_of_pair" ["closes","rooms","others","pair"] (iY K))(pre:Dp K cl many PN PP f1 f2 QR c oc H0)(GK:iE P w K mg base fg TL):
  P4 P w K mg base PV (many+3+3) fg TL ["many","state","doors_from"] (iD K H0 f (Bk.gB cl PN PP) (Bk.vm PN PP) (Bk.mI PN PP) many):=by
 have d:=FC J L ho WD pre;obtain⟨j,g,e,rfl⟩:=L.fn;exact GK f _ _ H0 3 many "pair" _ _ _ _ (Bk.ku J.w1 J.w2 J.acP J.acQ c0) rfl rfl (λk h=>h) (Bk.Dg cl PN PP) m5 d e rfl (λus b=>match us,b with | [_],_=>rfl)
noncomputable abbrev qJ:M':="join_books"++".<locals>."++"<lambda>"
def jS (K:Po)(Pt:D'):Sp:=λvs H Q _=>∃(word:M') (x1 x2:V) (many:Nat) (PN PP:List Bk.Pn) (f1 f2:Int) (cl:Bk.Cl),vs=[.str word,x1,x2]/\X4 word=some cl/\Ul K H x1 many PN f1/\Ul K H x2 many PP f2/\Bk.X3 many PN PP f1 f2/\many<=4/\
 dW H Pt (ju (i3 cQ)) qJ/\(Bk.fj (Bk.gB cl PN PP) many (Bk.eM cl f1 f2)).1.length<1000/\
 ∀(t lr:D') (H':Hp),dF Pt H H'->dW H' Pt (ju (i3 cQ)) qJ->XA K H H' t lr many (Bk.fj (Bk.gB cl PN PP) many (Bk.eM cl f1 f2)).1 (Bk.fj (Bk.gB cl PN PP) many (Bk.eM cl f1 f2)).2->Q (.ref t) H'
theorem qA:QE ["word","one","other","closes","first"] ["word","one","other"] (ao cQ):={}
theorem Dr (F:Qh K "join_books" "join_books" cQ f fd)(VP:fd.code=.ref c0)(CH:TW base c0 Pt)(bm:Bm mg base)(T:TxJ K mg CO)(TC:TxC P w K mg aC kvs)(WM:Df P w K mg base PV 1 "meet" ["closes","one","other"] (vB K))(DP:∀Rk,Mod K mg Rk->Df P w K mg Rk PV 2 "doors_of_pair" ["closes","rooms","others","pair"] (iY K))(GR:∀Rk,Mod K mg Rk->iE P w K mg Rk fg TL)(mG:mg "grown"=some (.ref fg))(kG:Vj K (.ref fg)=true)(bG:bA K TL ["many","state","doors_from"] []):P4 P w K mg base PV 11 f fd ["word","one","other"] (jS K Pt):=by
 refine Qh.okC F qA (λvs H Q E h=>?_) (λP3 A outer s H vs Q E R5 hr h=>?_)
 .obtain⟨word,x1,x2,many,p,C,G,u,cl,rfl,_⟩:=h;rfl
 obtain⟨word,x1,x2,many,p,C,G,u,cl,rfl,g,B1,B2,J,m4,TA,Qi,z⟩:=h;obtain⟨R,l1,U9,rfl,t1,q1,p1⟩:=B1.ex;obtain⟨X,l2,U',rfl,t2,q2,p2⟩:=B2.ex;obtain⟨S,hv,rc⟩:=TC.val word cl g;have n:(0,0)∉cl:=by
  unfold X4 at g
  split at g
  .cases g;decide
  .split at g
   .cases g;decide
   .split at g
    .cases g;decide
    .split at g
     .cases g;decide
     .cases g
 have W:=Bk.ku J.w1 J.w2 J.acP J.acQ n;obtain⟨gd,_,lv⟩:=Bk.mK J.w1 J.w2 n J.pg;refine⟨_,af (aQ (i:=3) qA.nd rfl (lc rfl) (jR TC.d (aA (v:=.ref aC) rfl TC.at_ rfl) (pv 0) (λ_ _=>rfl)))
  (af (aQ (i:=4) qA.nd rfl (lc rfl) (aE WM (hr.mono (by decide)) rfl pS (aa (pv 3) (aa (P9 K (pv 1) ae) (aa (P9 K (pv 2) ae) ad)))))
  (ai (aD (pD (x:="pair") (ys:=["closes","one","other"]) (js:=[3,1,2]) (sp:=λf QR c m H0 vs H Q E=>Dp K cl many p C G u QR c m H0/\iD K H0 f (Bk.gB cl p C) (Bk.vm p C) (Bk.mI p C) many vs H Q E)
   (λRk f' fd' c' m QR H0 M L ho=>P4.pre λpre=>zh J (by lia) n L ho (DP Rk M) pre (GR Rk M))
   (hr.mono (by lia)) rfl mG kG bG lY (P9 K (pv 1) ae) (pv 4) (c:=c0) (Pt:=Pt) (R5.symm.trans VP) CH bm rfl rfl (λ_=>rfl) rfl rfl rfl (by decide +kernel) rfl (λy hy=>by
    have D:=Uf hy;simp only[Qe,Rz,or_false,Ī] at D;rcases D with⟨_,z⟩|⟨rfl,_⟩|⟨rfl,_⟩|⟨rfl,_⟩|⟨_,z⟩
    .cases z
    .exact⟨_,rfl⟩
    .exact⟨_,rfl⟩
    .exact⟨_,rfl⟩
    .cases z) (λy a e=>by
    have D:=Uf e;simp only[Qe,Rz,or_false,Ī] at D;rcases D with⟨rfl,rfl⟩|⟨rfl,rfl⟩|⟨rfl,rfl⟩ <;> rfl) (.cons ⟨rfl,rfl,rfl⟩ (.cons ⟨rfl,rfl,rfl⟩ (.cons ⟨rfl,rfl,rfl⟩ .nil))))))),?_⟩
 refine⟨_,rfl,.inr word,.ref S,_,rfl,rfl,hv,rfl,?_⟩;refine⟨_,rfl,_,rfl,R,_,2,.int G,rfl,rfl,t1,rfl,_,rfl,X,_,2,.int u,rfl,rfl,t2,rfl,?_⟩;refine⟨S,cl,G,u,rfl,rc H,λv H2 s2 rv=>?_⟩;refine⟨_,rfl,R,_,0,.int many,rfl,rfl,s2.P6 t1,rfl,_,rfl,?_⟩;obtain⟨ps,hT,htr,XM⟩:=TA;have Y:dW H2 Pt (ju (i3 cQ)) qJ:=⟨ps,s2 _ _ hT,htr,XM.imp id λ⟨c,m,e1,e2,Z⟩=>⟨c,m,e1,s2 _ _ e2,Z⟩⟩
 refine⟨Y,[.ref S,.ref R,.ref X],.cons rfl (.cons rfl (.cons rfl .nil)),λf' c' m N ff2 ff3 s3 TA3 hc3=>?_⟩;have WX:=s2 _ _ hT;have I:=vC WX;have nl:=Bi WX;refine⟨⟨S,R,X,l1,l2,U9,U',rfl,rc N,s3.l.RC I (s2.P6 t1),s3.l.R0 nl (s2.R0 q1),bf (λ_ _ z=>s3.l.room I (z.same s2)) p1,s3.l.RC I (s2.P6 t2),s3.l.R0 nl (s2.R0 q2),bf (λ_ _ z=>s3.l.room I (z.same s2)) p2,hc3⟩,?_⟩;refine⟨many,v,Bk.eM cl G u,rfl,s3.l.sk I rv,ar.refl N,gd,lv.imp id λe=>Zo e,Qi,λt lr H4 s4 O=>?_⟩;have up:∀b o,b≠Pt->H b=some o->N b=some o:=λb o j e=>s3 b o j (s2 b o e);obtain⟨ps3,Z4,U,adi⟩:=TA3;have fr:∀b,N b=none->H b=none:=λb j=>by
  cases e:H b with
  | none=>rfl
  | some o=>
   by_cases hp:b=Pt
   .rw[hp,Z4] at j;cases j
   .rw[up b o hp e] at j;cases j
 exact z t lr H4 (λb o j e=>s4 _ _ (up b o j e)) ⟨ps3,s4 _ _ Z4,U,adi.imp id λ⟨c,m,e1,e2,Z⟩=>⟨c,m,e1,s4 _ _ e2,Z⟩⟩ ⟨fr _ O.ft,fr _ O.fl,O.at_,O.rooms⟩
noncomputable abbrev zm:PD:=top 56
noncomputable abbrev tG:PD:=top 55
noncomputable abbrev kE:PD:=top 60
noncomputable abbrev vH:PD:=top 59
noncomputable abbrev vI:PD:=top 58
noncomputable def VD:Bk.Bs->List V
 | .free=>[.str "free"]
 | .at_ p t=>[.str "at",.int (p:Int),.int (t:Int)]
 | .ahead a b=>[.str "ahead",.int (a:Int),.int (b:Int)]
 | .next a b=>[.str "next",.int (a:Int),.int (b:Int)]
 | .Sv=>[.str "even"]
theorem FH (g t:Nat):Č ((g:Int) / 2 ^ t) 1=((g.testBit t).toNat:Int):=by
 have e:(g:Int) / 2 ^ t=((g >>> t:Nat):Int):=by
  rw[afT];simp
 rw[e,show(1:Int)=((1:Nat):Int) from rfl,oW]
 congr 1
 rw[Nat.and_one_is_mod,Nat.testBit_eq_decide_div_mod_eq,afT]
 by_cases h:g / 2 ^ t % 2=1
 .rw[h];rfl
 .rw[Qd h];show _=0;lia
def pG:Sp:=λvs H Q _=>∃g t:Nat,vs=[.int (g:Int),.int (t:Int)]/\Q (.bl (g.testBit t)) H
theorem Hf:QE ["gone","thing"] ["gone","thing"] (ao zm):={}
theorem mO (F:Qh K "has_gone" "has_gone" zm f fd):P4 P w K mg base PV 1 f fd ["gone","thing"] pG:=by
 refine F.ok Hf (λvs H Q E h=>?_) (λb A outer s H vs Q E c h=>?_)
 .obtain⟨g,t,rfl,_⟩:=h;rfl
 obtain⟨g,t,rfl,z⟩:=h;refine⟨_,ai (aD (cG bu (ay zP (ay Gg (pv 0) (pv 1)) ae) ae (aw _))),?_⟩;refine⟨_,rfl,_,rfl,_,_,rfl,rfl,by show(0:Int)<=(t:Int);lia,_,_,rfl,rfl,rfl,?_⟩;show Q (V.bl (decide (V.int (Č ((g:Int) / 2 ^ ((t:Int)).toNat) 1)=V.int 1))) H;rw[UT,FH];cases h:g.testBit t with
 | true=>rw[h] at z;exact z
 | false=>rw[h] at z;exact z
noncomputable def gD (ns:List Nat):List V:=ns.map λn:Nat=>V.int (n:Int)
def Bo:Sp:=λvs H Q _=>∃many g:Nat,vs=[.int (many:Int),.int (g:Int)]/\many<=8/\∀(l:D'),H l=none->Q (.ref l) (upd H l (.lst (gD (Bk.eu many g))))
theorem Bp:QE ["many","gone"] ["many","gone"] (ao tG):={}
theorem nu {α:Type}:(Q3 (i+1)).filter f=(Q3 i).filter f++if f i=true then [i] else []:=by
 rw[Ž,Ė]
 congr 1
 by_cases h:f i=true
 .rw[PK h,Y4 h];rfl
 .rw[Pr h,ß h];rfl
theorem xO (F:Qh K "things_left" "things_left" tG f fd)(T:Rf K mg CO)(WG:Df P w K mg base PV 1 "has_gone" ["gone","thing"] pG):P4 P w K mg base PV 2 f fd ["many","gone"] Bo:=by
 refine F.ok Bp (λvs H Q E h=>?_) (λv A outer s H vs Q E d h=>?_)
 .obtain⟨many,g,rfl,_⟩:=h;rfl
 obtain⟨many,g,rfl,o,z⟩:=h;refine⟨_,ai (aD (fT rfl (show Uk (ao tG) ["many","gone"] _ _ from by constructor <;> decide +kernel) (eQ rfl T.t.range (aa (pv 0) ad))
  (λ_ _ _ _ _ _=>jF (cp (cz (aE WG d rfl pS (aa (pv 2) (aa (pv 0) ad))))))
  (λcl C x m u ac=>pv 0) Bp.nd)),?_⟩
 refine⟨_,rfl,many,rfl,by show -(2:Int) ^ 62<=(many:Int);lia,by show(many:Int)<2 ^ 62;lia,iQ (lo:=0) (n:=((many:Int)).toNat) (λi b c=>c=H/\b=gD ((Q3 i).filter λt=>!g.testBit t)) ⟨rfl,rfl⟩ ?_ (by rw[QA,UT];lia) ?_ ?_⟩
 .rintro i b c _ ⟨_,rfl⟩;unfold gD;rw[Qx];exact RX (VI _ _) (by rw[Zb];exact P1 _)
 .rintro i b c j ⟨rfl,rfl⟩;rw[Int.zero_add];refine⟨_,rfl,_,rfl,g,i,rfl,?_⟩;refine⟨_,rfl,?_⟩;rw[nu (α:=Unit)];cases hb:g.testBit i with
  | true=>exact az ⟨rfl,by simp⟩
  | false=>
   refine aU ⟨_,rfl,rfl,?_⟩;unfold gD;rw[PK (by rfl),UC];rfl
 .rintro b c p ⟨rfl,rfl⟩ e;rw[UT];exact z p e
def sC:Sp:=λvs H Q _=>∃many g t:Nat,vs=[.int (many:Int),.int (g:Int),.int (t:Int)]/\many<=8/\t<=8/\∀H',ar H H'->Q (.int (Bk.pE many g t:Nat)) H'
theorem sD:QE ["many","gone","thing"] ["many","gone","thing"] (ao kE):={}
theorem pH (F:Qh K "crossed_by" "crossed_by" kE f fd)(T:Rf K mg CO)(WG:Df P w K mg base PV 1 "has_gone" ["gone","thing"] pG):P4 P w K mg base PV 2 f fd ["many","gone","thing"] sC:=by
 refine F.ok sD (λvs H Q E h=>?_) (λG A outer s H vs Q E d h=>?_)
 .obtain⟨many,g,t,rfl,_⟩:=h;rfl
 obtain⟨many,g,t,rfl,y,x,z⟩:=h;refine⟨_,ai (aD (aG aX rfl T.t.len cr (aa (fT rfl (show Uk (ao kE) ["many","gone","thing"] _ _ from by constructor <;> decide +kernel) (zN rfl T.t.range (aa (ay bT (pv 2) ae) (aa (pv 0) ad)))
  (λ_ _ _ _ _ _=>jF (cz (aE WG d rfl pS (aa (pv 2) (aa (pv 0) ad)))))
  (λcl C I v D ac=>pv 0) sD.nd) ad))),?_⟩
 refine⟨_,rfl,_,_,rfl,rfl,_,rfl,_,_,rfl,⟨by show -(2:Int) ^ 62<=(t:Int)+1;lia,by show(t:Int)+1<2 ^ 62;lia,by show -(2:Int) ^ 62<=(many:Int);lia,by show(many:Int)<2 ^ 62;lia⟩,?_⟩;have m:((many:Int)-((t:Int)+1)).toNat=many-(t+1):=by lia
 rw[m];refine iQ (lo:=(t:Int)+1) (n:=many-(t+1)) (λi b c=>c=H/\b.length=((Q3 i).filter λj=>g.testBit (t+1+j)).length) ⟨rfl,rfl⟩ ?_ (by rw[QA];lia) ?_ ?_
 .rintro i b c _ ⟨_,e⟩;rw[e];exact RX (VI _ _) (by rw[Zb];exact P1 _)
 .rintro i b c u ⟨rfl,e⟩;refine⟨_,rfl,_,rfl,g,t+1+i,by simp,_,rfl,?_⟩;rw[nu (α:=Unit)];cases hb:g.testBit (t+1+i) with
  | true=>exact aU ⟨_,rfl,rfl,by rw[PK rfl,Rt,Rt,e];rfl⟩
  | false=>exact az ⟨rfl,by simpa using e⟩
 .rintro b c p ⟨rfl,e⟩ o;refine⟨p,b,rfl,.inl PX.up,?_⟩;rw[e];exact z _ (ag o _)
def xP (K:Po):Sp:=λvs H Q _=>∃(r st:D') (a b p g m t:Nat),vs=[.ref r,.ref st,.int (t:Int)]/\PM K H r [.str "next",.int (a:Int),.int (b:Int)]/\PM K H st [.int (p:Int),.int (g:Int),.int (m:Int)]/\Q (.int (Bk.dm 0 p g m t (.next a b):Nat)) H
theorem FI:QE ["rule","state","thing"] ["rule","state","thing"] (ao vH):={}
theorem cT (a b:Nat):decide (V.int (a:Int)=V.int (b:Int))=decide (a=b):=by
 by_cases h:a=b
 .subst h;simp
 .rw[Qd h,Qd (λz=>h (by have:=V.int.inj z;lia))]
theorem kW (a b):(!decide (V.bl a=V.bl b))=(a != b):=by cases a <;> cases b <;> rfl
structure YT (K)(mg:M'->Option G')(CO):Prop where
 t:Rf K mg CO
 br:∃t,mg "BROKEN"=some (.int 2 t)
theorem vK (F:Qh K "mark_behind_next" "mark_behind_next" vH f fd)(T:YT K mg CO):P4 P w K mg base PV 1 f fd ["rule","state","thing"] (xP K):=by
 refine F.ok FI (λvs H Q E h=>?_) (λu A outer s H vs Q E o h=>?_)
 .obtain⟨r,st,a,b,p,g,m,t,rfl,_⟩:=h;rfl
 obtain⟨r,st,a,b,p,g,m,t,rfl,c,n,z⟩:=h;obtain⟨e,d⟩:=T.br;refine⟨_,af (aH (aq dY (cG bu (P9 K (pv 1) ae) ae (aw _)) (cG bu (pv 2) (P9 K (pv 0) ae) (aw _)) (aw _))
   (ai (aD (aA (v:=.int 2) rfl d ⟨e,rfl⟩))) au)
  (ai (aD (fH (aq bu (pv 2) (P9 K (pv 0) ae) (aw _)) ae ae))),?_⟩
 refine⟨_,rfl,st,_,2,.int (m:Int),rfl,rfl,n,rfl,rfl,_,rfl,_,rfl,r,_,2,.int (b:Int),rfl,rfl,c,rfl,rfl,rfl,_,rfl,?_⟩;have j:decide (V.int (m:Int)=V.int 1)=decide (m=1):=cT m 1;rw[j,cT,kW];simp only[Bk.dm] at z;cases hc:(decide (m=1) != decide (t=b)) with
 | true=>
  rw[hc] at z;exact aU z
 | false=>
  rw[hc] at z;refine az ⟨_,rfl,_,rfl,r,_,1,.int (a:Int),rfl,rfl,c,rfl,rfl,_,rfl,?_⟩;rw[cT]
  by_cases h:t=a
  .rw[Qk h];rw[Pr (by decide),PK h] at z;exact aU z
  .rw[Qd h];rw[Pr (by decide),Pr h] at z;exact az z
noncomputable abbrev qC:PD:=top 57
noncomputable abbrev mP:PD:=top 54
def xQ (K:Po):Sp:=λvs H Q _=>∃(r st:D') (b:Bk.Bs) (many p g m t:Nat),vs=[.int (many:Int),.ref r,.ref st,.int (t:Int)]/\PM K H r (VD b)/\PM K H st [.int (p:Int),.int (g:Int),.int (m:Int)]/\many<=8/\t<=8/\∀H',ar H H'->Q (.int (Bk.dm many p g m t b:Nat)) H'
theorem FJ:QE ["many","rule","state","thing"] ["many","rule","state","thing"] (ao vI):={}
theorem vL (F:Qh K "mark_behind" "mark_behind" vI f fd)(T:YT K mg CO)(WG:Df P w K mg base PV 1 "has_gone" ["gone","thing"] pG)(WN:Df P w K mg base PV 1 "mark_behind_next" ["rule","state","thing"] (xP K))(WC:Df P w K mg base PV 2 "crossed_by" ["many","gone","thing"] sC):
  P4 P w K mg base PV 3 f fd ["many","rule","state","thing"] (xQ K):=by
 refine F.ok FJ (λvs H Q E h=>?_) (λJ A outer s H vs Q E e h=>?_)
 .obtain⟨r,st,b,many,p,g,m,t,rfl,_⟩:=h;rfl
 obtain⟨r,st,b,many,p,g,m,t,rfl,c,d,D,y,z⟩:=h;obtain⟨o,n⟩:=T.br;refine⟨_,af (aH (aq bu (P9 K (pv 1) ae) av (aw _))
   (ai (aD (fH (aq dY (cG bu (P9 K (pv 2) ae) (P9 K (pv 1) ae) (aw _)) (cG bu (pv 3) (P9 K (pv 1) ae) (aw _)) (aw _)) (aA (v:=.int 2) rfl n ⟨o,rfl⟩) ae))) au)
  (af (aH (aq bu (P9 K (pv 1) ae) av (aw _))
   (ai (aD (fH (PW.pt (jy (aq bu (pv 3) (P9 K (pv 1) ae) (aw _)) (ix (cp (cz (aE WG (e.mono (by decide)) rfl pS (aa (P9 K (pv 2) ae) (aa (P9 K (pv 1) ae) ad)))))))) (aA (v:=.int 2) rfl n ⟨o,rfl⟩) ae))) au)
  (af (aH (aq bu (P9 K (pv 1) ae) av (aw _))
   (ai (aD (aE WN (e.mono (by decide)) rfl pS (aa (pv 1) (aa (pv 2) (aa (pv 3) ad)))))) au)
  (af (aH (aq bu (P9 K (pv 1) ae) av (aw _))
   (ai (aD (ay bD (ay bT (P9 K (pv 2) ae) (aE WC e rfl pS (aa (pv 0) (aa (P9 K (pv 2) ae) (aa (pv 3) ad))))) ae))) au)
  (ai (aD ae))))),?_⟩
 have G:(VD b)[0]?=some (.str (match b with | .free=>"free" | .at_ _ _=>"at" | .ahead _ _=>"ahead" | .next _ _=>"next" | .Sv=>"even")):=by cases b <;> rfl
 have I:∀v,(VD b)[0]?=some v->SJ (VD b) 0=some v:=λv h=>cH (j:=0) h;cases b with
 | free=>
  refine⟨_,rfl,r,_,0,.str "free",rfl,rfl,c,rfl,rfl,_,rfl,?_⟩;rw[show decide (V.str "free"=V.str "at")=false by decide +kernel];refine az ⟨_,rfl,r,_,0,.str "free",rfl,rfl,c,rfl,rfl,_,rfl,?_⟩;rw[show decide (V.str "free"=V.str "ahead")=false by decide +kernel];refine az ⟨_,rfl,r,_,0,.str "free",rfl,rfl,c,rfl,rfl,_,rfl,?_⟩;rw[show decide (V.str "free"=V.str "next")=false by decide +kernel];refine az ⟨_,rfl,r,_,0,.str "free",rfl,rfl,c,rfl,rfl,_,rfl,?_⟩;rw[show decide (V.str "free"=V.str "even")=false by decide +kernel];exact az (z H (ar.refl H))
 | at_ q u=>
  refine⟨_,rfl,r,_,0,.str "at",rfl,rfl,c,rfl,rfl,_,rfl,?_⟩;rw[show decide (V.str "at"=V.str "at")=true by decide +kernel];refine aU ⟨_,rfl,st,_,0,.int (p:Int),rfl,rfl,d,rfl,_,rfl,r,_,1,.int (q:Int),rfl,rfl,c,rfl,rfl,_,rfl,_,rfl,r,_,2,.int (u:Int),rfl,rfl,c,rfl,rfl,rfl,_,rfl,?_⟩;rw[cT,cT,kW];have z:=z H (ar.refl H);simp only[Bk.dm] at z;cases hc:(decide (p=q) != decide (t=u)) with
  | true=>rw[hc] at z;exact aU z
  | false=>rw[hc] at z;exact az z
 | ahead a b=>
  refine⟨_,rfl,r,_,0,.str "ahead",rfl,rfl,c,rfl,rfl,_,rfl,?_⟩;rw[show decide (V.str "ahead"=V.str "at")=false by decide +kernel];refine az ⟨_,rfl,r,_,0,.str "ahead",rfl,rfl,c,rfl,rfl,_,rfl,?_⟩;rw[show decide (V.str "ahead"=V.str "ahead")=true by decide +kernel];refine aU ⟨_,rfl,_,rfl,r,_,2,.int (b:Int),rfl,rfl,c,rfl,rfl,_,rfl,?_⟩;rw[cT];have z:=z H (ar.refl H);simp only[Bk.dm] at z
  by_cases h:t=b
  .rw[Qk h] at z ⊢;refine aU ⟨_,rfl,st,_,1,.int (g:Int),rfl,rfl,d,rfl,_,rfl,r,_,1,.int (a:Int),rfl,rfl,c,rfl,g,a,rfl,_,rfl,?_⟩;cases hb:g.testBit a with
   | true=>rw[hb] at z;exact az z
   | false=>rw[hb] at z;exact aU z
  .rw[Qd h] at z ⊢;exact az (az z)
 | next a b=>
  refine⟨_,rfl,r,_,0,.str "next",rfl,rfl,c,rfl,rfl,_,rfl,?_⟩;rw[show decide (V.str "next"=V.str "at")=false by decide +kernel];refine az ⟨_,rfl,r,_,0,.str "next",rfl,rfl,c,rfl,rfl,_,rfl,?_⟩;rw[show decide (V.str "next"=V.str "ahead")=false by decide +kernel];refine az ⟨_,rfl,r,_,0,.str "next",rfl,rfl,c,rfl,rfl,_,rfl,?_⟩;rw[show decide (V.str "next"=V.str "next")=true by decide +kernel];exact aU ⟨_,rfl,_,rfl,_,rfl,r,st,a,b,p,g,m,t,rfl,c,d,z H (ar.refl H)⟩
 | Sv=>
  refine⟨_,rfl,r,_,0,.str "even",rfl,rfl,c,rfl,rfl,_,rfl,?_⟩;rw[show decide (V.str "even"=V.str "at")=false by decide +kernel];refine az ⟨_,rfl,r,_,0,.str "even",rfl,rfl,c,rfl,rfl,_,rfl,?_⟩;rw[show decide (V.str "even"=V.str "ahead")=false by decide +kernel];refine az ⟨_,rfl,r,_,0,.str "even",rfl,rfl,c,rfl,rfl,_,rfl,?_⟩;rw[show decide (V.str "even"=V.str "next")=false by decide +kernel];refine az ⟨_,rfl,r,_,0,.str "even",rfl,rfl,c,rfl,rfl,_,rfl,?_⟩;rw[show decide (V.str "even"=V.str "even")=true by decide +kernel];refine aU ⟨_,rfl,st,_,2,.int (m:Int),rfl,rfl,d,rfl,_,rfl,_,rfl,st,_,1,.int (g:Int),rfl,rfl,d,rfl,_,rfl,many,g,t,rfl,D,y,λx C=>?_⟩;refine⟨_,_,rfl,rfl,_,_,rfl,rfl,by show(0:Int)<2;decide,?_⟩;have z:=z x C;simp only[Bk.dm] at z;rw[show(((m+Bk.pE many g t) % 2:Nat):Int)=((m:Int)+(Bk.pE many g t:Int)) % 2 by (first|trivial|lia)] at z;exact z
def vM (K:Po):Sp:=λvs H Q _=>∃(r st:D') (b:Bk.Bs) (many p g m t:Nat),vs=[.int (many:Int),.ref r,.ref st,.int (t:Int)]/\PM K H r (VD b)/\PM K H st [.int (p:Int),.int (g:Int),.int (m:Int)]/\many<=8/\t<=8/\∀v H',ar H H'->cx K H' v (Bk.Tu many b p g m t)->Q v H'
noncomputable abbrev NSB:List M':=["many","rule","state","thing","mark"]
theorem vO:QE NSB ["many","rule","state","thing"] (ao qC):={}
theorem sE (F:Qh K "state_behind" "state_behind" qC f fd)(T:YT K mg CO)(WM:Df P w K mg base PV 3 "mark_behind" ["many","rule","state","thing"] (xQ K)):
  P4 P w K mg base PV 4 f fd ["many","rule","state","thing"] (vM K):=by
 refine F.ok vO (λvs H Q E h=>?_) (λU A outer s H vs Q E x h=>?_)
 .obtain⟨r,st,b,many,p,g,m,t,rfl,_⟩:=h;rfl
 obtain⟨r,st,b,many,p,g,m,t,rfl,y,d,N,J,z⟩:=h;obtain⟨G,D⟩:=T.br;obtain⟨e,j⟩:=T.t.no;obtain⟨I,L⟩:=T.t.en;refine⟨_,af (aQ (i:=4) vO.nd rfl (lc rfl) (aE WM x rfl pS (aa (pv 0) (aa (pv 1) (aa (pv 2) (aa (pv 3) ad))))))
  (af (aH (aq bu (pv 4) (aA (v:=.int 2) rfl D ⟨G,rfl⟩) (aw _)) (ai (aD (aA (v:=.int 0) rfl j ⟨e,rfl⟩))) au)
  (af (aH (aq hV (ay bT (P9 K (pv 2) ae) ae) (pv 0) (aw _))
   (ai (aD (aZ (aa (ay bT (P9 K (pv 2) ae) ae) (aa (ay DZ (P9 K (pv 2) ae) (ay tS ae (pv 3))) (aa (pv 4) ad)))))) au)
  (ai (aD (fH (aq bu (pv 4) ae (aw _)) (aA (v:=.int 1) rfl L ⟨I,rfl⟩) (aA (v:=.int 0) rfl j ⟨e,rfl⟩)))))),?_⟩
 refine⟨_,rfl,_,rfl,_,rfl,_,rfl,r,st,b,many,p,g,m,t,rfl,y,d,N,J,λS s1=>?_⟩;refine⟨_,rfl,rfl,_,rfl,?_⟩;have u:decide (V.int ((Bk.dm many p g m t b:Nat):Int)=V.int 2)=decide (Bk.dm many p g m t b=2):=cT _ 2;rw[u];unfold Bk.Tu at z
 by_cases c:Bk.dm many p g m t b=2
 .rw[Qk c];rw[PK c] at z;exact aU (z _ _ s1 rfl)
 rw[Qd c];rw[Pr c] at z;refine az ⟨_,rfl,st,_,0,.int (p:Int),rfl,rfl,s1.P6 d,rfl,_,_,rfl,rfl,_,rfl,_,_,rfl,rfl,_,rfl,?_⟩
 by_cases n:p+1<many
 .rw[Qk (show(p:Int)+1<(many:Int) by lia)];rw[PK n] at z;refine aU ⟨_,rfl,st,_,0,.int (p:Int),rfl,rfl,s1.P6 d,rfl,_,_,rfl,rfl,_,rfl,st,_,1,.int (g:Int),rfl,rfl,s1.P6 d,rfl,_,rfl,1,(t:Int),rfl,rfl,⟨by lia,by lia,by decide⟩,_,_,rfl,rfl,_,rfl,by show 3<=PH;decide,λq R=>?_⟩;refine z _ _ (s1.trans (ag R _)) ?_;have O:(1:Int)*(2:Int) ^ ((t:Int)).toNat=((1 <<< t:Nat):Int):=by rw[UT,Nat.one_shiftLeft];simp
  have C:č (g:Int) ((1:Int)*(2:Int) ^ ((t:Int)).toNat)=((g ||| 1 <<< t:Nat):Int):=by rw[O,rK]
  dsimp only;rw[C];exact cX (o:=[((p+1:Nat):Int),((g ||| 1 <<< t:Nat):Int),((Bk.dm many p g m t b:Nat):Int)]) (PM.up (H:=S) (p:=q))
 .rw[Qd (show ¬(p:Int)+1<(many:Int) by lia)];rw[Pr n] at z;refine az ⟨_,rfl,rfl,_,rfl,?_⟩;have M:decide (V.int ((Bk.dm many p g m t b:Nat):Int)=V.int 0)=decide (Bk.dm many p g m t b=0):=cT _ 0;rw[M]
  by_cases h0:Bk.dm many p g m t b=0
  .rw[Qk h0];rw[PK h0] at z;exact aU (z _ _ s1 rfl)
  .rw[Qd h0];rw[Pr h0] at z;exact az (z _ _ s1 rfl)
noncomputable abbrev cK:PD:=top 53
noncomputable def gq (st:PD):PZ:=match (bR st).getD 0 (.Pass ⟨0,0,0,0⟩) with
 | .Return (some (.Call _ [_,_,e] _ _)) _=>e
 | _=>.Name "" ⟨0,0,0,0⟩
def i5 (K:Po):Sp:=λvs H Q _=>∃(r:D') (b:Bk.Bs) (many p g m:Nat) (y:V),vs=[.int (many:Int),.ref r,y]/\PM K H r (VD b)/\aV.rep K H y [(p:Int),(g:Int),(m:Int)]/\many<=8/\
 ∀(l:D') (ys:List V) (H':Hp),ar H H'->H l=none->H' l=some (.lst ys)->PR (gW K H') ys (Bk.dI many b (.inr [(p:Int),(g:Int),(m:Int)]))->Q (.ref l) H'
theorem vP:QE ["many","rule","state"] ["many","rule","state"] (ao mP):={}
theorem sG (F:Qh K "doors_by_rule" "doors_by_rule" mP f fd)(WL:Df P w K mg base PV 2 "things_left" ["many","gone"] Bo)(WS:Df P w K mg base PV 4 "state_behind" ["many","rule","state","thing"] (vM K)):
  P4 P w K mg base PV 5 f fd ["many","rule","state"] (i5 K):=by
 refine F.ok vP (λvs H Q E h=>?_) (λP3 A outer s H vs Q E G h=>?_)
 .obtain⟨r,b,many,p,g,m,y,rfl,_⟩:=h;rfl
 obtain⟨r,b,many,p,g,m,y,rfl,N,O,D,z⟩:=h;obtain⟨st,rfl,n⟩:=dH O;have n:PM K H st [.int (p:Int),.int (g:Int),.int (m:Int)]:=n;refine⟨_,ai (aD (fT rfl (show Uk (ao mP) ["many","rule","state"] _ _ from by constructor <;> decide +kernel) (fR (aE WL (G.mono (by decide)) rfl pS (aa (pv 0) (aa (P9 K (pv 2) ae) ad))))
  (λ_ _ _ _ _ _=>iy)
  (λcl C Qy W Z ac=>aZ (aa (pv 0) (aa (aE WS G rfl pS (aa (pv 1) (aa (pv 2) (aa (pv 3) (aa (pv 0) ad))))) ad))) vP.nd)),?_⟩
 refine⟨_,rfl,_,rfl,st,_,1,.int (g:Int),rfl,rfl,n,rfl,many,g,rfl,D,λo S=>?_⟩;have s0:=ag S (.lst (gD (Bk.eu many g)));have X:(Bk.eu many g).length<=8:=RX (VI _ _) (by rw[Zb];exact D);have J:(gD (Bk.eu many g)).length=(Bk.eu many g).length:=by unfold gD;rw[Qx]
 refine⟨o,rfl,⟨_,PX.up⟩,ud (K:=K) (a:=o) (xs:=gD (Bk.eu many g)) (λi c e=>ar (upd H o (.lst (gD (Bk.eu many g)))) e/\i<=(gD (Bk.eu many g)).length/\PR (gW K e) c ((Bk.dI many b (.inr [(p:Int),(g:Int),(m:Int)])).take i)) ⟨ar.refl _,RA _,.nil⟩ ?_ (by rw[QA,J];lia) ?_ ?_⟩
 .rintro i c e _ ⟨s2,_,d⟩;refine⟨PX.of (s2 _ _ ak),?_⟩;rw[d.length,SO];exact Nat.min_le_left _ _
 .rintro i x c e I ⟨s2,_,d⟩;have u:=I;unfold gD at u;rw[So] at u;obtain⟨t,M,rfl⟩:=Xk.mp u;have tm:=(Bk.i4.mp (Q6 M)).1;have j:=s0.trans s2;have hd:(Bk.dI many b (.inr [(p:Int),(g:Int),(m:Int)]))[i]?=some ((t:Int),Bk.Tu many b p g m t):=by
   rw[Bk.gb,So,M];rfl
  refine ZI (aU ⟨_,rfl,_,rfl,_,rfl,_,rfl,_,rfl,r,st,b,many,p,g,m,t,rfl,j.P6 N,j.P6 n,D,by lia,λv Y s3 T=>?_⟩);refine⟨by show 2<=PH;decide,λR U=>?_⟩;have s4:=ag U (.tup [V.int (t:Int),v]);refine⟨s2.trans (s3.trans s4),(Rh.mp I).1,?_⟩;rw[cC hd];exact dG (bf (λ_ _ z=>z.same (s3.trans s4)) d) (.cons ⟨R,v,rfl,PM.up,T.mono s4⟩ .nil)
 .rintro c e q ⟨s2,_,d⟩ L;have pl:(Bk.dI many b (.inr [(p:Int),(g:Int),(m:Int)])).length=(gD (Bk.eu many g)).length:=by rw[Bk.gb,Qx,J]
  rw[<-pl,UV] at d;have s3:=ag L (.lst c);exact z q c _ (s0.trans (s2.trans s3)) ((s0.trans s2).free L) ak (bf (λ_ _ z=>z.same s3) d)
def Dx (K:Po)(b:Bk.Bs)(many:Nat)(QR:List V)(c:D')(oc:J')(H0:Hp):Prop:=∃r:D',QR=[.int (many:Int),.ref r]/\PM K H0 r (VD b)/\H0 c=some (.Q2 oc (.own 0))
theorem FK (m8:many<=8)(L:YN base f fd "state" ["many","rule"] QR qual (zd (gq cK)) (ze (gq cK)) (zf (gq cK)) Q4 c)(ho:kC oc qual)(WD:Df P w K mg base PV 5 "doors_by_rule" ["many","rule","state"] (i5 K))(pre:Dx K b many QR c oc H0):
  P4 P w K mg base PV 6 f fd ["state"] (jP K H0 (Bk.dI many b) (Bk.pF many)):=by
 obtain⟨r,rfl,n,o⟩:=pre;refine AW (k:=5) L (by decide) (λvs H Q E h=>?_) (λvs H Q E h=>?_) ho (λA outer s H v Q E j h=>?_)
 .obtain⟨v,st,rfl,_⟩:=h;rfl
 .obtain⟨v,st,_,s0,_⟩:=h;exact s0 _ _ o
 .obtain⟨u,st,ev,s0,e,t,d,z⟩:=h;cases ev;refine⟨_,aE WD j rfl pS (aa (pv 1) (aa (pv 2) (aa (pv 0) ad))),?_⟩
  match st,t,d,e,z with
  | .inl k,_,d,_,_=>exact Py trivial d
  | .inr _,⟨p,g,m,rfl,hp,hg,hm⟩,_,e,z=>
   exact⟨_,rfl,_,rfl,_,rfl,r,b,many,p,g,m,v,rfl,s0.P6 n,e,m8,z⟩
theorem zn (m5:many<=5)(L:YN base f fd "state" ["many","rule"] QR qual (zd (gq cK)) (ze (gq cK)) (zf (gq cK)) Q4 c)(ho:kC oc qual)(WD:Df P w K mg base PV 5 "doors_by_rule" ["many","rule","state"] (i5 K))(pre:Dx K b many QR c oc H0)(GK:iE P w K mg base fg TL):
  P4 P w K mg base PV (many+6+3) fg TL ["many","state","doors_from"] (iD K H0 f (Bk.dI many b) (Bk.qB many) (Bk.pF many) many):=by
 have e:=FK (by lia) L ho WD pre;obtain⟨m,j,g,rfl⟩:=L.fn;exact GK f _ _ H0 6 many "state" _ _ _ _ (Bk.sB (b:=b) (by lia)) rfl rfl (λk h=>h) (Bk.Dv many b (by lia)) m5 e g rfl (λus d=>match us,d with | [_],_=>rfl)
noncomputable abbrev qW:M':="book_of_walk"++".<locals>."++"<lambda>"
def qD (K:Po)(Pw:D'):Sp:=λvs H Q _=>∃(r:D') (b:Bk.Bs) (many:Nat),vs=[.int (many:Int),.ref r]/\PM K H r (VD b)/\1<=many/\many<=4/\
 dW H Pw (ju (gq cK)) qW/\(Bk.fj (Bk.dI many b) many (.inr [0,0,0])).1.length<1000/\
 ∀(t lr:D') (H':Hp),dF Pw H H'->dW H' Pw (ju (gq cK)) qW->XA K H H' t lr many (Bk.fj (Bk.dI many b) many (.inr [0,0,0])).1 (Bk.fj (Bk.dI many b) many (.inr [0,0,0])).2->Q (.ref t) H'
theorem Dy:QE ["many","rule"] ["many","rule"] (ao cK):={}
theorem Bq (F:Qh K "book_of_walk" "book_of_walk" cK f fd)(VP:fd.code=.ref c0)(CH:TW base c0 Pw)(bm:Bm mg base)(DP:∀Rk,Mod K mg Rk->Df P w K mg Rk PV 5 "doors_by_rule" ["many","rule","state"] (i5 K))(GR:∀Rk,Mod K mg Rk->iE P w K mg Rk fg TL)(mG:mg "grown"=some (.ref fg))(kG:Vj K (.ref fg)=true)(bG:bA K TL ["many","state","doors_from"] []):P4 P w K mg base PV 14 f fd ["many","rule"] (qD K Pw):=by
 refine Qh.okC F Dy (λvs H Q E h=>?_) (λP3 A outer s H vs Q E R5 X h=>?_)
 .obtain⟨r,b,many,rfl,_⟩:=h;rfl
 obtain⟨r,b,many,rfl,Z,m1,m4,TA,Qi,z⟩:=h;refine⟨_,ai (aD (pD (x:="state") (ys:=["many","rule"]) (js:=[0,1]) (sp:=λf T c g H0 vs H Q E=>Dx K b many T c g H0/\iD K H0 f (Bk.dI many b) (Bk.qB many) (Bk.pF many) many vs H Q E)
   (λRk f' fd' c' g T H0 M L ho=>P4.pre λpre=>zn (by lia) L ho (DP Rk M) pre (GR Rk M))
   (X.mono (by lia)) rfl mG kG bG lY (pv 0) (aZ (aa ae (aa ae (aa ae ad)))) (c:=c0) (Pt:=Pw) (R5.symm.trans VP) CH bm rfl rfl (λ_=>rfl) rfl rfl rfl (by decide +kernel) rfl (λy Y=>by
    have j:=Uf Y;simp only[Qe,Rz,or_false,Ī] at j;rcases j with⟨_,z⟩|⟨rfl,_⟩|⟨rfl,_⟩|⟨_,z⟩
    .cases z
    .exact⟨_,rfl⟩
    .exact⟨_,rfl⟩
    .cases z) (λy a e=>by
    have j:=Uf e;simp only[Qe,Rz,or_false,Ī] at j;rcases j with⟨rfl,rfl⟩|⟨rfl,rfl⟩ <;> rfl) (.cons ⟨rfl,rfl,rfl⟩ (.cons ⟨rfl,rfl,rfl⟩ .nil)))),?_⟩
 refine⟨_,rfl,by show 3<=PH;decide,λq hq=>?_⟩;have s2:=ag hq (.tup [V.int 0,V.int 0,V.int 0]);obtain⟨ps,S,C,XM⟩:=TA;have D:dW (upd H q (.tup [V.int 0,V.int 0,V.int 0])) Pw (ju (gq cK)) qW:=⟨ps,s2 _ _ S,C,XM.imp id λ⟨c,g,G,p,I⟩=>⟨c,g,G,s2 _ _ p,I⟩⟩
 refine⟨D,[.int (many:Int),.ref r],.cons rfl (.cons rfl .nil),λf' c' g n ff2 ff3 s3 v J=>?_⟩;have WX:=s2 _ _ S;have U:=vC WX;have sk:cx K n (.ref q) (.inr [((0:Nat):Int),((0:Nat):Int),((0:Nat):Int)]):=s3.l.sk U (k:=.inr [((0:Nat):Int),((0:Nat):Int),((0:Nat):Int)]) (cX (o:=[((0:Nat):Int),((0:Nat):Int),((0:Nat):Int)]) PM.up);refine⟨⟨r,rfl,s3.l.RC U (s2.P6 Z),J⟩,?_⟩;refine⟨many,.ref q,.inr [((0:Nat):Int),((0:Nat):Int),((0:Nat):Int)],rfl,sk,ar.refl n,⟨0,0,0,rfl,by (first|trivial|lia),Nat.two_pow_pos _,by (first|trivial|lia)⟩,.inr (by show many-0<=many;lia),Qi,λt lr H4 s4 m=>?_⟩;have up:∀b o,b≠Pw->H b=some o->n b=some o:=λb o d e=>s3 b o d (s2 b o e);obtain⟨O,R,u,N⟩:=v;have fr:∀b,n b=none->H b=none:=λb d=>by
  cases e:H b with
  | none=>rfl
  | some o=>
   by_cases W:b=Pw
   .rw[W,R] at d;cases d
   .rw[up b o W e] at d;cases d
 exact z t lr H4 (λb o d e=>s4 _ _ (up b o d e)) ⟨O,s4 _ _ R,u,N.imp id λ⟨c,g,G,p,I⟩=>⟨c,g,G,s4 _ _ p,I⟩⟩ ⟨fr _ m.ft,fr _ m.fl,m.at_,m.rooms⟩
noncomputable abbrev qE:PD:=top 50
noncomputable abbrev vQ:PD:=top 51
noncomputable abbrev lO:PD:=top 49
def cg (K:Po)(H:Hp):V->Bk.Rl->Prop
 | v,.bs b=>∃p,v=.ref p/\PM K H p (VD b)
 | v,.Qb r=>∃p x,v=.ref p/\PM K H p [.str "not",x]/\cg K H x r
 | v,.both r s=>∃p x y,v=.ref p/\PM K H p [.str "both",x,y]/\cg K H x r/\cg K H y s
 | v,.either r s=>∃p x y,v=.ref p/\PM K H p [.str "either",x,y]/\cg K H x r/\cg K H y s
theorem cg.mono (s:∀{a xs},PM K H a xs->PM K H' a xs):∀{r:Bk.Rl}{v:V},cg K H v r->cg K H' v r
 | .bs _,_,⟨p,e,q⟩=>⟨p,e,s q⟩
 | .Qb _,_,⟨p,x,e,q,h⟩=>⟨p,x,e,s q,h.mono s⟩
 | .both _ _,_,⟨p,x,y,e,q,h,h'⟩=>⟨p,x,y,e,s q,h.mono s,h'.mono s⟩
 | .either _ _,_,⟨p,x,y,e,q,h,h'⟩=>⟨p,x,y,e,s q,h.mono s,h'.mono s⟩
theorem cg.same (s:ar H H')(h:cg K H v r):cg K H' v r:=h.mono λq=>s.P6 q
noncomputable def cL:Bk.Bs->M'
 | .free=>"free" | .at_ _ _=>"at" | .ahead _ _=>"ahead" | .next _ _=>"next" | .Sv=>"even"
noncomputable def zp:Bk.Bs->List Nat
 | .free=>[] | .at_ p t=>[p,t] | .ahead p t=>[p,t] | .next p t=>[p,t] | .Sv=>[]
theorem vS (b):VD b=.str (cL b)::gD (zp b):=by cases b <;> rfl
structure VE (P)(w)(K)(mg:M'->Option G')(CO aN aR aJ aF)(kN kR kJ):Prop where
 k:YT K mg CO
 str:mg "str"=none
 most:∃t,mg "MOST_WITHIN"=some (.int 6 t)
 nb:mg "NUMBERS_BEHIND"=some (.ref aN)
 dN:io P w K aN kN
 vN:∀b:Bk.Bs,b≠.free->∃t,valueAt kN (.inr (cL b))=some (.int ((zp b).length:Nat) t)
 nN:valueAt kN (.inr "not")=none/\valueAt kN (.inr "both")=none/\valueAt kN (.inr "either")=none
 rb:mg "RULES_BEHIND"=some (.ref aR)
 dR:io P w K aR kR
 vR:(∃t,valueAt kR (.inr "not")=some (.int 1 t))/\(∃t,valueAt kR (.inr "both")=some (.int 2 t))/\(∃t,valueAt kR (.inr "either")=some (.int 2 t))
 jo:mg "JOINS"=some (.ref aJ)
 dJ:io P w K aJ kJ
 vJ:(∃t,valueAt kJ (.inr "both")=some (.str "and" t))/\(∃t,valueAt kJ (.inr "either")=some (.str "or" t))
 nJ:∀b:Bk.Bs,valueAt kJ (.inr (cL b))=none
 fr:mg "FREE"=some (.ref aF)
 sF:∀H,PM K H aF [.str "free"]
theorem Dz:QE ["rule","count"] ["rule","count"] (ao qE):={}
theorem xR:QE ["many","rule","number"] ["many","rule"] (ao vQ):={}
theorem iG (x)(xs):cq (x::xs) (some 1) none=xs:=by
 unfold cq HT.Qg;simp
theorem Hg:SF "str"=some (.type "str"):=by decide +kernel
theorem FM:UG K (.type "str") (.type "str")=some true:=rfl
noncomputable abbrev NLR:List M':=["many","rule","depth","part"]
theorem qF:QE NLR ["many","rule","depth"] (ao lO):={}
theorem xS:∀r:Bk.Rl,1<=Bk.QQ r
 | .bs _=>P1 _
 | .Qb _=>dO _ _
 | .both _ _=>dO _ _
 | .either _ _=>dO _ _
noncomputable def ez:Bk.Rl->List Bk.Rl
 | .bs _=>[] | .Qb r=>[r] | .both r s=>[r,s] | .either r s=>[r,s]
noncomputable def eA:Bk.Rl->M'
 | .bs b=>cL b | .Qb _=>"not" | .both _ _=>"both" | .either _ _=>"either"
theorem Br:∀{r:Bk.Rl},cg K H v r->(∀b,r≠.bs b)->∃p xs,v=.ref p/\PM K H p (.str (eA r)::xs)/\PR (cg K H) xs (ez r)
 | .bs b,_,n=>Py rfl (n b)
 | .Qb _,⟨p,x,e,q,h⟩,_=>⟨p,_,e,q,.cons h .nil⟩
 | .both _ _,⟨p,x,y,e,q,h,h'⟩,_=>⟨p,_,e,q,.cons h (.cons h' .nil)⟩
 | .either _ _,⟨p,x,y,e,q,h,h'⟩,_=>⟨p,_,e,q,.cons h (.cons h' .nil)⟩
theorem FN:∀{r:Bk.Rl},Bk.Uy many r->∀s∈ez r,Bk.Uy many s/\Bk.QQ s+1<=Bk.QQ r
 | .bs _,_,s,h=>nomatch h
 | .Qb r,k,s,h=>by
  rw[Ri.mp h];exact⟨k,P1 _⟩
 | .both r b,k,s,h=>by
  simp only[ez,Qe,Rz,or_false] at h;have c:=ģ (Bk.QQ r) (Bk.QQ b);have d:=Ĥ (Bk.QQ r) (Bk.QQ b);rcases h with rfl|rfl
  .exact⟨k.1,Zc c⟩
  .exact⟨k.2,Zc d⟩
 | .either r b,k,s,h=>by
  simp only[ez,Qe,Rz,or_false] at h;have c:=ģ (Bk.QQ r) (Bk.QQ b);have d:=Ĥ (Bk.QQ r) (Bk.QQ b);rcases h with rfl|rfl
  .exact⟨k.1,Zc c⟩
  .exact⟨k.2,Zc d⟩
theorem vT (many:Nat):bx many []=([],0):=by unfold bx;rw[PK rfl]
theorem xT {os:Bk.ap}(h:os≠[]):bx many os=((Bk.lay many os []).2,(Bk.lay many os []).1):=by unfold bx;rw[Pr h]
section
variable {many:Nat}{os:Bk.ap}(S:Bk.Q1 many os)
include S
theorem Q1.whole:ô many (bx many os).1 (bx many os).2:=by
 have m1:=S.m1;have m5:=S.m5
 by_cases e:os=[]
 .subst e;rw[vT];exact yU m1 (by lia)
 .rw[xT e];exact AU m1 (by lia) S.adj e (S.rooms e)
theorem Q1.RP:Bk.RP (bx many os).1 (bx many os).2=os:=by
 by_cases e:os=[]
 .subst e;rw[vT];exact Bk.uR []
 .rw[xT e];obtain⟨a,b⟩:=Fv S.adj e;exact a.eq S.ZZ b
end
theorem DA (m1:1<=many)(m5:many<=5)(ho:o∈Bk.eY many):uq many o:=by
 obtain⟨a,b⟩:=Bk.kD m1 m5 ho;exact⟨by lia,by lia,by lia,b⟩
theorem XA.a (h:XA K H0 H t lr many rs first):Ul K H (.ref t) many rs first:=by
 obtain⟨xs,a,b⟩:=h.rooms;exact⟨t,lr,xs,rfl,PM.of h.at_,PX.of a,b⟩
noncomputable abbrev zq:PD:=top 62
noncomputable abbrev DB:PD:=top 63
noncomputable abbrev Wu:PD:=top 64
noncomputable abbrev vU:PD:=top 65
noncomputable abbrev DC:PD:=top 71
def X5 (K:Po)(H:Hp)(a:D'):Prop:=∃ns:List Int,PX K H a (ns.map V.int)
theorem X5.same (h:X5 K H a)(e:ar H H'):X5 K H' a:=let ⟨ns,q⟩:=h;⟨ns,e.R0 q⟩
def Bv (K:Po):Sp:=λvs H Q _=>∃(a:D') (k:Int),vs=[.ref a,.int k]/\X5 K H a/\∀c:Int,Q (.int c) H
theorem Hh:QE ["_law_script","_law_k"] ["_law_script","_law_k"] (ao zq):={}
theorem FQ (F:Qh K "_law_cell" "_law_cell" zq f fd)(T:Rf K mg CO):P4 P w K mg base PV 1 f fd ["_law_script","_law_k"] (Bv K):=by
 refine F.ok Hh (λvs H Q E h=>?_) (λn A outer s H vs Q E m h=>?_)
 .obtain⟨a,k,rfl,_⟩:=h;rfl
 obtain⟨a,k,rfl,⟨ns,d⟩,q⟩:=h;refine⟨_,af (aH (nA (pv 0) (λ_=>rfl)) (ai (aD (cI bL (pv 0) (ay bD (pv 1) (aG aX rfl T.t.len cr (aa (pv 0) ad))) (λ_ _=>rfl)))) au) (ai (aD ae)),?_⟩;refine⟨_,rfl,_,.inl ⟨_,d,rfl⟩,?_⟩;cases ns with
 | nil=>exact az (q 0)
 | cons c b=>
  refine aU ?_;have e:((c::b).map V.int).length=(c::b).length:=Qx _;have pos:(0:Int)<(((c::b).map V.int).length:Nat):=by rw[e];simp only[QU];lia
  have h0:=Wf k (Int.ne_of_gt pos);have j:=Wa k pos;have g:(k % (((c::b).map V.int).length:Nat)).toNat<(c::b).length:=by rw[e] at h0 j ⊢;lia
  refine⟨_,rfl,_,rfl,_,rfl,a,_,rfl,.inl d,_,_,rfl,rfl,pos,a,_,_,V.int ((c::b)[(k % (((c::b).map V.int).length:Nat)).toNat]'g),rfl,rfl,d,Bu h0 ?_,q _⟩;rw[So,Q5 g];rfl
def pI (K:Po):Sp:=λvs H Q _=>∃(a:D') (k:Int),vs=[.ref a,.int k]/\X5 K H a/\∀m:Int,0<=m->m<4294967231->Q (.int m) H
theorem zt:QE ["_law_script","_law_k","_law_number"] ["_law_script","_law_k"] (ao DB):={}
theorem Hi (F:Qh K "_law_mix" "_law_mix" DB f fd)(T:Rf K mg CO)(WC:Df P w K mg base PV 1 "_law_cell" ["_law_script","_law_k"] (Bv K)):P4 P w K mg base PV 2 f fd ["_law_script","_law_k"] (pI K):=by
 refine F.ok zt (λvs H Q E h=>?_) (λe A outer s H vs Q E b h=>?_)
 .obtain⟨a,k,rfl,_⟩:=h;rfl
 obtain⟨a,k,rfl,d,q⟩:=h;refine⟨_,af (aQ (i:=2) zt.nd rfl (Q8 rfl) (ay bD (ay bT (aE WC b rfl pS (aa (pv 0) (aa (pv 1) ad))) (ay ou ae (ay bT (pv 1) ae))) ae))
  (af (aQ (i:=2) zt.nd rfl (Q8 rfl) (ay bD (ay ou (pv 2) ae) ae))
  (ai (aD (ay bD (ay bT (ay ou (ay cS (pv 2) ae) ae) (pv 2)) ae)))),?_⟩
 refine⟨_,rfl,_,rfl,a,k,rfl,d,λc=>?_⟩;refine⟨_,rfl,_,_,rfl,rfl,_,_,rfl,rfl,.inl ⟨by decide,by decide⟩,_,_,rfl,rfl,_,_,rfl,rfl,by show(0:Int)<4294967291;decide,?_⟩;refine⟨_,rfl,_,_,rfl,rfl,.inr ⟨by decide,by decide⟩,_,_,rfl,rfl,by show(0:Int)<4294967279;decide,?_⟩;refine⟨_,rfl,_,_,rfl,rfl,⟨by decide,by decide⟩,_,_,rfl,rfl,.inr ⟨by decide,by decide⟩,_,rfl,_,_,rfl,rfl,_,_,rfl,rfl,by show(0:Int)<4294967231;decide,?_⟩;exact q _ (Wf _ (by decide)) (Wa _ (by decide))
def OL (K:Po)(H:Hp)(a:D')(os:Bk.ap):Prop:=∃ys,H a=some (.lst ys)/\PR (aV.rep K H) ys os
theorem OL.same {os:Bk.ap}(s:ar H H')(h:OL K H a os):OL K H' a os:=by
 obtain⟨ys,q,p⟩:=h;exact⟨ys,s _ _ q,bf (λ_ _ z=>aV.mono s z) p⟩
theorem OL.new {os:Bk.ap}(ha:H a=none)(p:PR (aV.rep K H) ys os):OL K (upd H a (.lst ys)) a os:=
 ⟨ys,ak,bf (λ_ _ z=>aV.mono (ag ha _) z) p⟩
def Eo (K:Po):Sp:=λvs H Q _=>∃many:Nat,vs=[.int (many:Int)]/\1<=many/\many<=5/\∀(l:D') (H':Hp),ar H H'->H l=none->OL K H' l (Bk.eY many)->Q (.ref l) H'
noncomputable abbrev NA:List M':=["_law_many","_law_found","_law_k","_law_longer","_law_order"]
theorem jj:QE NA ["_law_many"] (ao Wu):={}
theorem DD {t:Int}{o:List Int}:UN (.int t) (o.map V.int)=o.contains t:=by
 induction o with
 | nil=>rfl
 | cons x o b=>
  simp only[UN,QJ,Wi,List.contains_cons] at b ⊢;rw[b]
  congr 1
  simp[R6,iB,eq_comm]
theorem Bw (many i:Nat)(o):(((Mx.bw (i+1)).filter λt=>!o.contains t).map λt=>o++[t])=(((Mx.bw i).filter λt=>!o.contains t).map λt=>o++[t])++(if o.contains (i:Int)=true then [] else [o++[(i:Int)]]):=by
 rw[Bk.rE,Ė,UC]
 congr 1
 by_cases h:o.contains (i:Int)=true
 .rw[PK h,ß (by rw[h];decide)];rfl
 .rw[Pr h,Y4 (by rw[ŕ.mpr h];rfl)];rfl
theorem Hj (F:Qh K "_law_all" "_law_all" Wu f fd)(T:Rf K mg CO):P4 P w K mg base PV 1 f fd ["_law_many"] (Eo K):=by
 refine F.ok jj (λvs H Q E h=>?_) (λP3 A outer s H vs Q E Z h=>?_)
 .obtain⟨many,rfl,_⟩:=h;rfl
 obtain⟨many,rfl,m1,m5,z⟩:=h;refine⟨_,af (aQ (i:=1) jj.nd rfl (Q8 rfl) (bC (aa (aZ ad) ad)))
  (af (dM Wg rfl (eQ rfl T.t.range (aa (pv 0) ad)) (cD (i:=2) jj.nd rfl (Q8 rfl))
   (af (aQ (i:=3) jj.nd rfl (Q8 rfl) (bC ad))
   (af (dM Wg rfl (fR (pv 1)) (cD (i:=4) jj.nd rfl (Xx rfl))
    (ai (aQ (i:=3) jj.nd rfl (Q8 rfl) (ay tZ (pv 3) (fT rfl (show Uk (ao Wu) NA _ _ from by constructor <;> decide +kernel) (eQ rfl T.t.range (aa (pv 0) ad))
     (λ_ _ _ _ _ _=>jF (aq (show QG _ _ (Wx K true) from tY) (pv 0) (pv 5) rfl))
     (λcl C Qy RI fp ac=>ay (show QG _ _ (En K) from FP) (pv 5) (aZ (aa (pv 0) ad))) jj.nd)))))
   (ai (aQ (i:=1) jj.nd rfl (Q8 rfl) (pv 3))))))
  (ai (aD (pv 1)))),?_⟩
 refine⟨by show 0<=PH;decide,λW S=>?_⟩;have Y:=ag S (.tup []);refine⟨by show 1<=PH;decide,λl0 U=>?_⟩;have u1:=ag U (.lst [V.ref W]);have r0:aV.rep K (upd H W (.tup [])) (.ref W) []:=cX (PM.of ak);refine⟨_,rfl,_,rfl,by lia,by lia,kU (lo:=0) (n:=((many:Int)).toNat) (λk d p=>∃N O b l,d=[some (.int (many:Int)),some (.ref l),N,O,b]/\ar H p/\H l=none/\OL K p l (Bk.nZ many k)) ⟨none,none,none,l0,rfl,Y.trans u1,Y.free U,OL.new U (.cons r0 .nil)⟩ ?_ ?_⟩
 .rintro k d p hk ⟨N,O,b,l,rfl,s1,x,M⟩;have hk5:k<many:=by (first|trivial|lia)
  refine⟨by show 0<=PH;decide,λg0 J=>?_⟩;have s2:=ag J (.lst []);obtain⟨ys,X,py⟩:=M;have hlen:=py.length;refine⟨_,rfl,l,rfl,⟨_,PX.of (s2 _ _ X)⟩,gu (K:=K) (a:=l) (xs:=ys) (λi d v=>∃b g,d=[some (.int (many:Int)),some (.ref l),some (.int (0+(k:Int))),some (.ref g),b]/\ar p v/\p g=none/\OL K v g (Bk.ext many ((Bk.nZ many k).take i))) ⟨b,g0,rfl,s2,J,[],ak,.nil⟩ ?_ ?_ ?_⟩
  .rintro i d v _ ⟨b,g,rfl,s3,_⟩;exact PX.of (s3 _ _ X)
  .rintro i y d v hy ⟨b,g,rfl,s3,I,L⟩;obtain⟨o,ho,ro⟩:=cB py hy;obtain⟨a,rfl,qa⟩:=dH (aV.mono s3 ro);have lo:o.length=k:=Bk.vE k o (Q6 ho);obtain⟨gs,hg,pg⟩:=L;have ahw:=pg.length;have b1:(Bk.ext many ((Bk.nZ many k).take i)).length<=200:=RX (Bk.Ha i) (Bk.Dt many (Bk.in5 m1 m5) (k+1) (Bk.Mj (by lia)));refine⟨_,rfl,_,rfl,_,rfl,by lia,by lia,iQ (lo:=0) (n:=((many:Int)).toNat) (λj e D=>ar v D/\PR (aV.rep K D) e (((Mx.bw j).filter λt=>!o.contains t).map λt=>o++[t])) ⟨ar.refl v,.nil⟩ ?_ (by rw[QA];lia) ?_ ?_⟩
   .rintro j e D hj ⟨_,u⟩;rw[u.length,Qx];refine RX (VI _ _) ?_;rw[Mx.fE];exact P1 _
   .rintro j e D hj ⟨s4,u⟩;have G:=s4.P6 qa;refine⟨_,rfl,_,rfl,a,_,rfl,.inr G,rfl,gO _,_,rfl,?_⟩;rw[Bw many,PK rfl,show(0+(j:Int))=(j:Int) by lia,DD]
    by_cases c:o.contains (j:Int)=true
    .rw[c];refine az ⟨s4,?_⟩;rw[PK rfl,Vg];exact u
    .rw[ŕ.mpr c];refine aU ⟨_,rfl,_,rfl,by show 1<=PH;decide,λt1 Z5=>?_⟩;have s5:=ag Z5 (.tup [V.int (j:Int)]);refine⟨a,t1,_,_,rfl,rfl,s5.P6 G,PM.up,by rw[Qx,QA];simp;lia,λr H5 s6 Z=>?_⟩;refine⟨s4.trans (s5.trans s6),?_⟩;rw[Pr TQ];refine dG (bf (λ_ _ z=>aV.mono (s5.trans s6) z) u) (.cons (cX ?_) .nil);rw[UC];exact Z
   .rintro e D c0 ⟨s4,u⟩ R;have s5:=ag R (.lst e);have zl:e.length<=5:=by
     rw[u.length,Qx];refine RX (VI _ _) ?_;rw[Mx.fE];(first|trivial|lia)
    refine⟨g,c0,gs,e,rfl,rfl,s5 _ _ (s4 _ _ hg),ak,by rw[QA];lia,λn0 m=>?_⟩;have s6:=ag m (.lst (gs++e));refine⟨_,n0,rfl,s3.trans (s4.trans (s5.trans s6)),s3.free (s4.free (s5.free m)),?_⟩;rw[Bk.Du ho];refine OL.new m (dG (bf (λ_ _ z=>aV.mono (s4.trans s5) z) pg) (bf (λ_ _ z=>aV.mono s5 z) u))
  .rintro d v ⟨b,g,rfl,s3,I,L⟩;rw[hlen,UV] at L;exact⟨_,rfl,_,_,_,g,rfl,s1.trans s3,s1.free I,L⟩
 .rintro d p ⟨N,O,b,l,rfl,s1,x,M⟩;exact⟨_,rfl,z l p s1 x M⟩
def Ep (K:Po):Sp:=λvs H Q _=>∃(a:D') (k:Int) (many:Nat),vs=[.ref a,.int k,.int (many:Int)]/\X5 K H a/\1<=many/\many<=4/\∀(r:D') (os:Bk.ap) (H':Hp),ar H H'->OL K H' r os->os.Sublist (Bk.eY many)->Q (.ref r) H'
noncomputable abbrev NSt:List M':=["_law_script","_law_k","_law_many","_law_some","_law_way","_law_number","_law_share"]
theorem kF:QE NSt ["_law_script","_law_k","_law_many"] (ao vU):={}
theorem vV {L os:Bk.ap}(ho:L[i]?=some o)(h:os.Sublist (L.take i)):os.Sublist (L.take (i+1))/\(os++[o]).Sublist (L.take (i+1)):=by
 rw[cC ho];exact⟨h.trans (List.sublist_append_left _ _),h.append (Ġ _)⟩
theorem Lf (h0:0<=i)(h1:i<6):∃c:Int,SJ [V.int 0,V.int 0,V.int 1,V.int 3,V.int 6,V.int 4] i=some (.int c):=by
 have:i=0\/i=1\/i=2\/i=3\/i=4\/i=5:=by lia
 rcases this with rfl|rfl|rfl|rfl|rfl|rfl
 .exact⟨0,rfl⟩
 .exact⟨0,rfl⟩
 .exact⟨1,rfl⟩
 .exact⟨3,rfl⟩
 .exact⟨6,rfl⟩
 .exact⟨4,rfl⟩
theorem Hk (F:Qh K "_law_set" "_law_set" vU f fd)(T:Rf K mg CO)(WA:Df P w K mg base PV 1 "_law_all" ["_law_many"] (Eo K))(WM:Df P w K mg base PV 2 "_law_mix" ["_law_script","_law_k"] (pI K)):P4 P w K mg base PV 3 f fd ["_law_script","_law_k","_law_many"] (Ep K):=by
 refine F.ok kF (λvs H Q E h=>?_) (λP3 A outer s H vs Q E J h=>?_)
 .obtain⟨a,k,many,rfl,_⟩:=h;rfl
 obtain⟨a,k,many,rfl,U,O,m4,z⟩:=h;refine⟨_,af (aQ (i:=3) kF.nd rfl (Xx rfl) (aE WA (J.mono (by decide)) rfl pS (aa (pv 2) ad)))
  (af (aQ (i:=4) kF.nd rfl (Q8 rfl) (ay bD (aE WM J rfl pS (aa (pv 0) (aa (pv 1) ad))) ae))
  (af (aQ (i:=5) kF.nd rfl (Xx rfl) (aE WM J rfl pS (aa (pv 0) (aa (ay bT (pv 1) ae) ad))))
  (af (aH (aq bu (pv 4) ae (aw _)) (ai (aD (fT rfl (show Uk (ao vU) NSt _ _ from by constructor <;> decide +kernel) (fR (pv 3))
    (λ_ _ _ _ _ _=>jF (aq bu (P9 K (pv 0) (ay bD (pv 6) (pv 3))) (ay bD (ay cS (pv 6) ae) (pv 3)) (aw _)))
    (λcl C Qy RI fp ac=>pv 0) kF.nd))) au)
  (af (aH (aq bu (pv 4) ae (aw _)) (ai (aD (cI bL (bC (aa (bC ad) (aa (pv 3) (aa (cM wS (pv 3) dv (dy ae)) (aa (cM wS (pv 3) (dy (lW jB ae)) dv) ad))))) (ay bD (pv 5) ae) (λ_ _=>rfl)))) au)
  (af (aQ (i:=6) kF.nd rfl (Xx rfl) (cI bL (bC (aa ae (aa ae (aa ae (aa ae (aa ae (aa ae ad))))))) (pv 4) (λ_ _=>rfl)))
  (ai (aD (fT rfl (show Uk (ao vU) NSt _ _ from by constructor <;> decide +kernel) (eQ rfl T.t.range (aa (aG aX rfl T.t.len cr (aa (pv 3) ad)) ad))
    (λ_ _ _ _ _ _=>jF (aq hV (ay bD (ay cS (aE WM J rfl pS (aa (pv 1) (aa (ay bT (ay bT (pv 2) ae) (pv 0)) ad))) ae) ae) (pv 7) (aw _)))
    (λcl C Qy RI fp ac=>cI (show U4 _ (fI K) from bL) (pv 4) (pv 0) (λ_ _=>rfl)) kF.nd)))))))),?_⟩
 refine⟨_,rfl,many,rfl,O,by lia,λl x s1 hlf ol=>?_⟩;obtain⟨ys,v,py⟩:=ol;have hlen:=py.length;have ahS:=Bk.vD many (Bk.in4 O m4);refine⟨_,rfl,_,rfl,a,k,rfl,U.same s1,λm _ _=>⟨_,_,rfl,rfl,by show(0:Int)<6;decide,?_⟩⟩;have w0:=Wf m (show(6:Int)≠0 by decide);have w1:=Wa m (show(0:Int)<6 by decide);refine⟨_,rfl,_,rfl,_,_,rfl,rfl,a,_,rfl,U.same s1,λnum n0 _=>?_⟩;refine⟨_,rfl,rfl,_,rfl,?_⟩;refine iO (λ_=>?_) (λ_=>?_)
 .refine⟨_,rfl,l,rfl,⟨_,PX.of v⟩,ud (K:=K) (a:=l) (xs:=ys) (λi e u=>u=x/\e.length<=i/\∃os,PR (aV.rep K x) e os/\os.Sublist ((Bk.eY many).take i)) ⟨rfl,RA _,[],.nil,Ġ _⟩ ?_ (by rw[QA];lia) ?_ ?_⟩
  .rintro i e u _ ⟨rfl,D,_⟩;exact⟨PX.of v,D⟩
  .rintro i y e u hy ⟨rfl,D,os,po,sub⟩;obtain⟨o,M,L⟩:=cB py hy;obtain⟨b,rfl,qb⟩:=dH L;have lo:=(Bk.kD O (by lia) (Q6 M)).1;have p0:=Wf num (show(many:Int)≠0 by lia);have p1:=Wa num (show(0:Int)<(many:Int) by lia);have QN:(num % (many:Int)).toNat<o.length:=by lia
   obtain⟨Z,X⟩:=vV M sub;refine⟨_,rfl,_,rfl,_,rfl,_,_,rfl,rfl,by show(0:Int)<(many:Int);lia,b,_,_,.int (o[(num % (many:Int)).toNat]'QN),rfl,rfl,qb,Bu p0 (by rw[So,Q5 QN];rfl),?_⟩;refine⟨_,rfl,_,_,rfl,rfl,⟨by decide,by decide⟩,_,rfl,_,_,rfl,rfl,by show(0:Int)<(many:Int);lia,rfl,_,rfl,?_⟩;refine iO (λ_=>?_) (λ_=>?_)
   .exact⟨_,rfl,rfl,by rw[Rt];show e.length+1<=i+1;lia,os++[o],dG po (.cons L .nil),X⟩
   .exact⟨rfl,by lia,os,po,Z⟩
  .rintro e u p ⟨rfl,_,os,po,sub⟩ G;exact z p os _ (s1.trans (ag G _)) (OL.new G po) (sub.trans (ğ _ _))
 refine⟨_,rfl,rfl,_,rfl,?_⟩;refine iO (λ_=>?_) (λ_=>?_)
 .refine⟨by show 0<=PH;decide,λd W=>?_⟩;have s2:=ag W (.lst []);refine⟨_,rfl,_,rfl,1,rfl,l,ys,rfl,PX.of (s2 _ _ v),λg N=>?_⟩;have s3:=ag N (.lst (cq ys none (some 1)));refine⟨_,rfl,1,rfl,-1,rfl,l,ys,rfl,PX.of (s3 _ _ (s2 _ _ v)),λj S=>?_⟩;have s4:=ag S (.lst (cq ys (some (-1)) none));refine⟨by show 4<=PH;decide,λh0 R=>?_⟩;have s5:=ag R (.lst [V.ref d,V.ref l,V.ref g,V.ref j]);have s6:=s2.trans (s3.trans (s4.trans s5));have p0:=Wf num (show(4:Int)≠0 by decide);have p1:=Wa num (show(0:Int)<4 by decide);have c1:cq ys none (some 1)=ys.take 1:=FO ys 1;have e1:OL K (upd (upd (upd (upd x d (.lst [])) g (.lst (cq ys none (some 1)))) j (.lst (cq ys (some (-1)) none))) h0 (.lst [V.ref d,V.ref l,V.ref g,V.ref j])) d []:=OL.same (s3.trans (s4.trans s5)) ⟨[],ak,.nil⟩;have e2:=OL.same s6 ⟨ys,v,py⟩;have e3:OL K (upd (upd (upd (upd x d (.lst [])) g (.lst (cq ys none (some 1)))) j (.lst (cq ys (some (-1)) none))) h0 (.lst [V.ref d,V.ref l,V.ref g,V.ref j])) g ((Bk.eY many).take 1):=OL.same (s4.trans s5) ⟨_,ak,by have q:=ti 1 (bf (λ_ _ z=>aV.mono (s2.trans s3) z) py);rw[<-c1] at q;exact q⟩;have e4:OL K (upd (upd (upd (upd x d (.lst [])) g (.lst (cq ys none (some 1)))) j (.lst (cq ys (some (-1)) none))) h0 (.lst [V.ref d,V.ref l,V.ref g,V.ref j])) j ((Bk.eY many).drop (ys.length-1)):=OL.same s5 ⟨_,ak,by have q:=j3 (ys.length-1) (bf (λ_ _ z=>aV.mono (s2.trans (s3.trans s4)) z) py);rw[<-Bt] at q;exact q⟩;have cs:num % 4=0\/num % 4=1\/num % 4=2\/num % 4=3:=by lia
  refine⟨_,rfl,_,_,rfl,rfl,by show(0:Int)<4;decide,?_⟩;show fI _ (V.ref h0) (V.int (num % 4)) _ _;rcases cs with c|c|c|c
  .rw[c];exact⟨h0,_,0,V.ref d,rfl,rfl,PX.up,rfl,z d [] _ (s1.trans s6) e1 (List.nil_sublist _)⟩
  .rw[c];exact⟨h0,_,1,V.ref l,rfl,rfl,PX.up,rfl,z l _ _ (s1.trans s6) e2 (Ġ _)⟩
  .rw[c];exact⟨h0,_,2,V.ref g,rfl,rfl,PX.up,rfl,z g _ _ (s1.trans s6) e3 (ğ _ _)⟩
  .rw[c];exact⟨h0,_,3,V.ref j,rfl,rfl,PX.up,rfl,z j _ _ (s1.trans s6) e4 (List.drop_sublist _ _)⟩
 obtain⟨sh,Y⟩:=Lf w0 w1;refine⟨by show 6<=PH;decide,λd W=>?_⟩;have s2:=ag W (.lst [V.int 0,V.int 0,V.int 1,V.int 3,V.int 6,V.int 4]);refine⟨_,rfl,d,_,_,V.int sh,rfl,rfl,PX.up,Y,?_⟩;generalize (upd x d (.lst [V.int 0,V.int 0,V.int 1,V.int 3,V.int 6,V.int 4]))=u at s2 ⊢;have Uq:=s2 _ _ v;refine⟨_,rfl,l,_,rfl,.inl (PX.of Uq),_,rfl,by lia,by lia,iQ (lo:=0) (n:=(((ys.length:Nat):Int)).toNat) (λi e I=>I=u/\e.length<=i/\∃os,PR (aV.rep K u) e os/\os.Sublist ((Bk.eY many).take i)) ⟨rfl,RA _,[],.nil,Ġ _⟩ ?_ (by rw[QA];lia) ?_ ?_⟩
 .rintro i e I _ ⟨_,D,_⟩;exact D
 .rintro i e I hi ⟨rfl,D,os,po,sub⟩;have RW:i<ys.length:=by (first|trivial|lia)
  obtain⟨o,M,L⟩:=cB py (Q5 RW);obtain⟨Z,X⟩:=vV M sub;refine⟨_,rfl,_,rfl,_,_,rfl,rfl,_,rfl,_,_,rfl,rfl,a,_,rfl,U.same (s1.trans s2),λm2 _ _=>?_⟩;refine⟨_,_,rfl,rfl,⟨by decide,by decide⟩,_,_,rfl,rfl,by show(0:Int)<8;decide,_,rfl,_,_,rfl,rfl,_,rfl,?_⟩;refine iO (λ_=>?_) (λ_=>?_)
  .refine⟨_,rfl,_,rfl,l,ys,_,_,rfl,rfl,PX.of Uq,?_,rfl,by rw[Rt];show e.length+1<=i+1;lia,os++[o],dG po (.cons (aV.mono s2 L) .nil),X⟩;rw[show(0+(i:Int))=(i:Int) by lia];exact cH (Q5 RW)
  .exact⟨rfl,by lia,os,po,Z⟩
 .rintro e I p ⟨rfl,_,os,po,sub⟩ G;exact z p os _ (s1.trans (s2.trans (ag G _))) (OL.new G po) (sub.trans (ğ _ _))
theorem kH {os:Bk.ap}(S:Bk.Q1 many os):Bk.bO (bx many os).1 (bx many os).2=os:=by
 unfold Bk.bO;rw[UT];exact Q1.RP S
variable {os:Bk.ap} in
theorem sI (m4:many<=4)(S:Bk.Q1 many os):∀r∈(bx many os).1,∀d∈r,0<=d.1/\d.1<4:=λr b d hd=>by
 have W:=Q1.whole S;obtain⟨i,e⟩:=List.getElem?_of_mem b;have c:=(W.rooms.mask i r e d hd).1;have f:=W.rooms.less r b d hd;lia
theorem Bx {os:Bk.ap}(S:Bk.Q1 many os):Bk.Rn (bx many os).1 (bx many os).2:=by
 rcases(Q1.whole S).fst with h|⟨h1,h2,_⟩
 .exact .inl (by lia)
 .exact .inr ⟨by lia,by lia⟩
variable {os:Bk.ap} in
theorem kI (S:Bk.Q1 many os):∀o∈os,o.length=many:=λo b=>(Bk.kD S.m1 S.m5 (S.mem o b)).1
theorem jok (m4:many<=4)(S1:Bk.Q1 many RK)(S2:Bk.Q1 many RL):Bk.X3 many (bx many RK).1 (bx many RL).1 (bx many RK).2 (bx many RL).2 where
 w1:=(Q1.whole S1).rooms.wf
 w2:=(Q1.whole S2).rooms.wf
 s1:=sI m4 S1
 s2:=sI m4 S2
 pg:=⟨Bx S1,Bx S2,by rw[kH S1];exact kI S1,by rw[kH S2];exact kI S2⟩
def Due (cl:Bk.Cl)(RK RL os:Bk.ap):Prop:=∀o,o∈os↔((if o∈RK then 1 else 0:Int),(if o∈RL then 1 else 0:Int))∈cl
theorem DE {os:Bk.ap}(c0:(0,0)∉cl)(m4:many<=4)(S1:Bk.Q1 many RK)(S2:Bk.Q1 many RL)(S:Bk.Q1 many os)(h:Due cl RK RL os):
  Bk.fj (Bk.gB cl (bx many RK).1 (bx many RL).1) many (Bk.eM cl (bx many RK).2 (bx many RL).2)=bx many os:=by
 have J:=jok m4 S1 S2;obtain⟨d,c,b⟩:=Bk.mK J.w1 J.w2 c0 J.pg;refine(Bk.rW (many:=many) (os':=os) (Bk.ku J.w1 J.w2 J.acP J.acQ c0) rfl rfl (λk h=>h) d (b.imp id Zo) (λo=>(c o).symm.trans ((Bk.iC c0).trans ?_)) (kI S)).trans ?_
 .rw[h o];unfold Bk.bit;rw[kH S1,kH S2]
 .unfold bx;rfl
theorem qG {os:Bk.ap}(S:Bk.Q1 many os):(bx many os).1.length<70:=(Q1.whole S).Qi
theorem Hl (h:∀o,o∈ev↔o∈RK\/o∈RL):Due [(1,0),(0,1),(1,1)] RK RL ev:=λo=>by
 rw[h]
 by_cases a:o∈RK <;> by_cases b:o∈RL <;> simp[a,b]
theorem xU (h:∀o,o∈an↔o∈RK/\o∈RL):Due [(1,1)] RK RL an:=λo=>by
 rw[h]
 by_cases a:o∈RK <;> by_cases b:o∈RL <;> simp[a,b]
theorem DF (h:∀o,o∈le↔o∈RK/\o∉RL):Due [(1,0)] RK RL le:=λo=>by
 rw[h]
 by_cases a:o∈RK <;> by_cases b:o∈RL <;> simp[a,b]
noncomputable abbrev mQ:PD:=top 52
theorem vW (m1:1<=many)(m4:many<=4)(hb:Bk.okB many b):Bk.fj (Bk.dI many b) many (.inr [0,0,0])=bx many (Bk.bp many (.bs b)):=by
 have e:Bk.Z7 many b (.inr [0,0,0])=Bk.bp many (.bs b):=Bk.Dw many (Bk.in4 m1 m4) b (Bk.Bn hb);have S:Bk.Q1 many (Bk.bp many (.bs b)):=Bk.bP m1 m4 _;refine(Bk.rW (many:=many) (os':=Bk.bp many (.bs b)) (Bk.sB (b:=b) (by lia)) rfl rfl (λk h=>h) (s:=.inr [0,0,0]) ⟨0,0,0,rfl,by (first|trivial|lia),Nat.two_pow_pos _,by (first|trivial|lia)⟩ (.inr (by show many-0<=many;lia)) (λo=>by rw[e]) (kI S)).trans ?_;unfold bx;rfl
theorem FR:Due [(1,0)] (Bk.bp many (.bs .free)) (Bk.bp many r) (Bk.bp many (.Qb r)):=DF λo=>by
 unfold Bk.bp;simp only[Sd,Bk.fG,Bk.zj,and_true]
 by_cases h:Bk.fG o r=true
 .simp[h]
 .rw[Bool.not_eq_true] at h;simp[h]
theorem DG:Due [(1,1)] (Bk.bp many r) (Bk.bp many s) (Bk.bp many (.both r s)):=xU λo=>by
 unfold Bk.bp;simp only[Sd,Bk.fG,Tv];constructor
 .rintro⟨a,b,c⟩;exact⟨⟨a,b⟩,a,c⟩
 .rintro⟨⟨a,b⟩,_,c⟩;exact⟨a,b,c⟩
theorem zu:Due [(1,0),(0,1),(1,1)] (Bk.bp many r) (Bk.bp many s) (Bk.bp many (.either r s)):=Hl λo=>by
 unfold Bk.bp;simp only[Sd,Bk.fG,Ŗ];constructor
 .rintro⟨a,b|b⟩
  .exact .inl ⟨a,b⟩
  .exact .inr ⟨a,b⟩
 .rintro(⟨a,b⟩|⟨a,b⟩)
  .exact⟨a,.inl b⟩
  .exact⟨a,.inr b⟩
theorem DH:∀b:Bk.Bs,decide (cL b="not")=false
 | .free=>(by decide +kernel:decide (("free":M')="not")=false)
 | .at_ _ _=>(by decide +kernel:decide (("at":M')="not")=false)
 | .ahead _ _=>(by decide +kernel:decide (("ahead":M')="not")=false)
 | .next _ _=>(by decide +kernel:decide (("next":M')="not")=false)
 | .Sv=>(by decide +kernel:decide (("even":M')="not")=false)
structure Tb (H)(Pt Pw):Prop where
 ne:Pt≠Pw
 j:dW H Pt (ju (i3 cQ)) qJ
 w:dW H Pw (ju (gq cK)) qW
theorem Tb.soft (T:Tb H Pt Pw):cY H [Pt,Pw]:=λa b=>by
 obtain⟨ps,h,_⟩:=T.j;obtain⟨c,h',_⟩:=T.w;simp only[Qe,Rz,or_false] at b;rcases b with rfl|rfl
 .exact⟨_,h,trivial⟩
 .exact⟨_,h',trivial⟩
theorem Tb.ae7 (T:Tb H Pt Pw):∀b∈[Pt,Pw],∀xs,¬Rd H b (.lst xs):=λb c xs z=>by
 obtain⟨ps,h,_⟩:=T.j;obtain⟨d,h',_⟩:=T.w;simp only[Qe,Rz,or_false] at c;rcases c with rfl|rfl
 .rcases z with z|⟨o,z⟩ <;> rw[h] at z <;> cases z
 .rcases z with z|⟨o,z⟩ <;> rw[h'] at z <;> cases z
theorem vX (T:dW H P pos qual)(n:P≠Q)(hQ:H Q=some (.Sw ps))(s:dF Q H H'):dW H' P pos qual:=by
 obtain⟨d,h,e,m⟩:=T;refine⟨d,s _ _ n h,e,m.imp id λ⟨c,j,f,b,g⟩=>⟨c,j,f,s _ _ (λz=>?_) b,g⟩⟩;rw[z,hQ] at b;cases b
theorem vY (T:dW H P pos qual)(s:ar H H'):dW H' P pos qual:=by
 obtain⟨b,h,e,m⟩:=T;exact⟨b,s _ _ h,e,m.imp id λ⟨c,j,f,d,g⟩=>⟨c,j,f,s _ _ d,g⟩⟩
theorem Tb.same (T:Tb H Pt Pw)(s:ar H H'):Tb H' Pt Pw:=⟨T.ne,vY T.j s,vY T.w s⟩
theorem Tb.aeV (T:Tb H Pt Pw)(s:dF Pw H H')(t:dW H' Pw (ju (gq cK)) qW):Tb H' Pt Pw:=by
 obtain⟨ps,h,_⟩:=T.w;exact⟨T.ne,vX T.j T.ne h s,t⟩
theorem Tb.agM (T:Tb H Pt Pw)(s:dF Pt H H')(t:dW H' Pt (ju (i3 cQ)) qJ):Tb H' Pt Pw:=by
 obtain⟨ps,h,_⟩:=T.j;exact⟨T.ne,t,vX T.w T.ne.symm h s⟩
theorem dF.pw (s:dF Pw H H'):aO [Pt,Pw] H H':=λb o c e=>s b o (λz=>c (by simp[z])) e
theorem dF.pt (s:dF Pt H H'):aO [Pt,Pw] H H':=λb o c e=>s b o (λz=>c (by simp[z])) e
theorem pJ (T:Tb H Pt Pw)(s:aO [Pt,Pw] H H')(B:Ul K H x m rs f):Ul K H' x m rs f:=by
 obtain⟨b,l,xs,e,q,c,d⟩:=B.ex;exact⟨⟨b,l,xs,e,s.RC T.soft q,s.R0 T.ae7 c,bf (λ_ _ z=>s.room T.soft z) d⟩⟩
theorem zv (T:Tb H Pt Pw)(s:aO [Pt,Pw] H H')(h:cg K H x r):cg K H' x r:=h.mono λq=>s.RC T.soft q
theorem Er (T':Tb H' Pt Pw)(s:aO [Pt,Pw] H H')(h:H' a=none):H a=none:=by
 cases e:H a with
 | none=>rfl
 | some o=>
  exfalso;obtain⟨ps,b,_⟩:=T'.j;obtain⟨d,c,_⟩:=T'.w
  by_cases z:a∈[Pt,Pw]
  .simp only[Qe,Rz,or_false] at z;rcases z with rfl|rfl
   .rw[b] at h;cases h
   .rw[c] at h;cases h
  .rw[s a o z e] at h;cases h
def i6 (K:Po)(Pt Pw:D')(n:Nat):Sp:=λvs H Q _=>∃(v:V) (r:Bk.Rl) (many:Nat),vs=[.int (many:Int),v]/\cg K H v r/\Bk.Uy many r/\Bk.QQ r<=n/\1<=many/\many<=4/\Tb H Pt Pw/\
 ∀(t lr:D') (H':Hp),aO [Pt,Pw] H H'->Tb H' Pt Pw->XA K H H' t lr many (bx many (Bk.bp many r)).1 (bx many (Bk.bp many r)).2->Q (.ref t) H'
theorem DI:QE ["many","rule"] ["many","rule"] (ao mQ):={}
theorem kK {RK RL os:Bk.ap}(hw:X4 word=some cl)(c0:(0,0)∉cl)(m4:many<=4)(S1:Bk.Q1 many RK)(S2:Bk.Q1 many RL)(S:Bk.Q1 many os)(D:Due cl RK RL os)(B1:Ul K H x1 many (bx many RK).1 (bx many RK).2)(B2:Ul K H x2 many (bx many RL).1 (bx many RL).2)(T:Tb H Pt Pw)(s0:aO [Pt,Pw] H0 H)(z:∀(t lr:D') (H':Hp),aO [Pt,Pw] H0 H'->Tb H' Pt Pw->XA K H0 H' t lr many (bx many os).1 (bx many os).2->Q (.ref t) H'):jS K Pt [.str word,x1,x2] H Q E:=by
 have e:=DE c0 m4 S1 S2 S D;refine⟨word,x1,x2,many,_,_,_,_,cl,rfl,hw,B1,B2,jok m4 S1 S2,m4,T.j,?_,?_⟩
 .rw[e];exact Rs (qG S) (by decide)
 .rw[e];intro t lr H' c t' b;have d:=T.agM c t';exact z t lr H' (s0.trans (dF.pt c)) d ⟨Er T s0 b.ft,Er T s0 b.fl,b.at_,b.rooms⟩
theorem pK (F:Qh K "book_by_rule" "book_by_rule" mQ f fd)(T:VE P w K mg CO aN aR aJ aF kN kR kJ)(WJ:Df P w K mg base PV 11 "join_books" ["word","one","other"] (jS K Pt))(WK:Df P w K mg base PV 14 "book_of_walk" ["many","rule"] (qD K Pw))(n:Nat)(WW:∀m,n=m+1->Df P w K mg base PV (m+14) "book_by_rule" ["many","rule"] (i6 K Pt Pw m)):P4 P w K mg base PV (n+14) f fd ["many","rule"] (i6 K Pt Pw n):=by
 refine F.ok DI (λvs H Q E h=>?_) (λP3 A outer s H vs Q E C h=>?_)
 .obtain⟨v,r,many,rfl,_⟩:=h;rfl
 obtain⟨v,r,many,rfl,O,ok,U,d,c,g,z⟩:=h;have hp:=xS r;cases n with
 | zero=>lia
 | succ n=>
 have D:=WW n rfl;have R:∀x y:M',decide (x=y)=false->decide (V.str x=V.str y)=false:=λx y h=>Qd λz=>of_decide_eq_false h (V.str.inj z);cases r with
 | bs b=>
  obtain⟨p,rfl,q0⟩:=O;obtain⟨Y,nf⟩:=ok;have q:=q0;rw[vS] at q;refine⟨_,af (aH (aq bu (P9 K (pv 1) ae) av (aw _)) (ai aK) au)
   (af (aH (aq (lM T.dJ) (P9 K (pv 1) ae) (aA (v:=.ref aJ) rfl T.jo rfl) rfl) (ai aK) au)
   (ai (aD (aE WK (C.mono (by lia)) rfl pS (aa (pv 0) (aa (pv 1) ad)))))),?_⟩
  refine⟨_,rfl,p,_,0,.str (cL b),rfl,rfl,q,bJ,rfl,_,rfl,?_⟩;rw[R (cL b) "not" (DH b)];refine az ⟨_,rfl,p,_,0,.str (cL b),rfl,rfl,q,bJ,.inr (cL b),rfl,rfl,_,rfl,?_⟩;rw[T.nJ b];have e:=vW d c Y;refine az ⟨_,rfl,_,rfl,p,b,many,rfl,q0,d,c,g.w,?_,?_⟩
  .rw[e];exact Rs (qG (Bk.bP d c _)) (by decide)
  .rw[e];exact λt lr H' s' t' bn=>z t lr H' (dF.pw s') (g.aeV s' t') bn
 | Qb r=>
  obtain⟨p,x,rfl,q,N⟩:=O;refine⟨_,af (aH (aq bu (P9 K (pv 1) ae) av (aw _))
    (ai (aD (aE WJ (C.mono (by lia)) rfl pS (aa av (aa (aE WK (C.mono (by lia)) rfl pS (aa (pv 0) (aa (aA (v:=.ref aF) rfl T.fr rfl) ad))) (aa (aE D (C.mono (by lia)) rfl pS (aa (pv 0) (aa (P9 K (pv 1) ae) ad))) ad)))))) au)
   (af aK (ai aK)),?_⟩
  refine⟨_,rfl,p,_,0,.str "not",rfl,rfl,q,bJ,rfl,_,rfl,?_⟩;rw[Qk rfl];have e:=vW (b:=.free) d c trivial;refine aU ⟨_,rfl,aF,.free,many,rfl,T.sF H,d,c,g.w,?_,?_⟩
  .rw[e];exact Rs (qG (Bk.bP d c _)) (by decide)
  .rw[e];intro t lr Z s1 W o;have G:=g.aeV s1 W;have I:aO [Pt,Pw] H Z:=dF.pw s1;refine⟨_,rfl,_,rfl,p,_,1,x,rfl,rfl,I.RC g.soft q,fO,x,r,many,rfl,zv g I N,ok,by show Bk.QQ r<=n;simp only[Bk.QQ] at U;lia,d,c,G,λt2 J H2 s2 L u=>?_⟩;exact kK (E:=E) (RK:=Bk.bp many (.bs .free)) (RL:=Bk.bp many r) (os:=Bk.bp many (.Qb r)) (cl:=[(1,0)]) (by decide +kernel) (by decide) c (Bk.bP d c _) (Bk.bP d c _) (Bk.bP d c _) FR (pJ G s2 o.a) u.a L (I.trans s2) z
 | both r j=>
  obtain⟨p,x,y,rfl,q,N,S⟩:=O;obtain⟨tj,M⟩:=T.vJ.1;refine⟨_,af (aH (aq bu (P9 K (pv 1) ae) av (aw _)) (ai aK) au)
   (af (aH (aq (lM T.dJ) (P9 K (pv 1) ae) (aA (v:=.ref aJ) rfl T.jo rfl) rfl)
    (ai (aD (aE WJ (C.mono (by lia)) rfl pS (aa (jR T.dJ (aA (v:=.ref aJ) rfl T.jo rfl) (P9 K (pv 1) ae) (λ_ _=>rfl)) (aa (aE D (C.mono (by lia)) rfl pS (aa (pv 0) (aa (P9 K (pv 1) ae) ad))) (aa (aE D (C.mono (by lia)) rfl pS (aa (pv 0) (aa (P9 K (pv 1) ae) ad))) ad)))))) au)
   (ai aK)),?_⟩
  refine⟨_,rfl,p,_,0,.str "both",rfl,rfl,q,bJ,rfl,_,rfl,?_⟩;rw[R "both" "not" (by decide +kernel)];refine az ⟨_,rfl,p,_,0,.str "both",rfl,rfl,q,bJ,.inr "both",rfl,rfl,_,rfl,?_⟩;rw[M];have hm:=ģ (Bk.QQ r) (Bk.QQ j);have ZJ:=Ĥ (Bk.QQ r) (Bk.QQ j);simp only[Bk.QQ] at U;refine aU ⟨_,rfl,p,_,0,.str "both",rfl,rfl,q,bJ,.inr "both",.str "and",_,rfl,rfl,M,⟨_,rfl⟩,?_⟩;refine⟨_,rfl,_,rfl,p,_,1,x,rfl,rfl,q,fO,x,r,many,rfl,N,ok.1,by lia,d,c,g,λW X Z s1 G o=>?_⟩;refine⟨_,rfl,_,rfl,p,_,2,y,rfl,rfl,s1.RC g.soft q,nO,y,j,many,rfl,zv g s1 S,ok.2,by lia,d,c,G,λt2 J H2 s2 L u=>?_⟩;exact kK (E:=E) (RK:=Bk.bp many r) (RL:=Bk.bp many j) (os:=Bk.bp many (.both r j)) (cl:=[(1,1)]) (by decide +kernel) (by decide) c (Bk.bP d c _) (Bk.bP d c _) (Bk.bP d c _) DG (pJ G s2 o.a) u.a L (s1.trans s2) z
 | either r j=>
  obtain⟨p,x,y,rfl,q,N,S⟩:=O;obtain⟨tj,M⟩:=T.vJ.2;refine⟨_,af (aH (aq bu (P9 K (pv 1) ae) av (aw _)) (ai aK) au)
   (af (aH (aq (lM T.dJ) (P9 K (pv 1) ae) (aA (v:=.ref aJ) rfl T.jo rfl) rfl)
    (ai (aD (aE WJ (C.mono (by lia)) rfl pS (aa (jR T.dJ (aA (v:=.ref aJ) rfl T.jo rfl) (P9 K (pv 1) ae) (λ_ _=>rfl)) (aa (aE D (C.mono (by lia)) rfl pS (aa (pv 0) (aa (P9 K (pv 1) ae) ad))) (aa (aE D (C.mono (by lia)) rfl pS (aa (pv 0) (aa (P9 K (pv 1) ae) ad))) ad)))))) au)
   (ai aK)),?_⟩
  refine⟨_,rfl,p,_,0,.str "either",rfl,rfl,q,bJ,rfl,_,rfl,?_⟩;rw[R "either" "not" (by decide +kernel)];refine az ⟨_,rfl,p,_,0,.str "either",rfl,rfl,q,bJ,.inr "either",rfl,rfl,_,rfl,?_⟩;rw[M];have hm:=ģ (Bk.QQ r) (Bk.QQ j);have ZJ:=Ĥ (Bk.QQ r) (Bk.QQ j);simp only[Bk.QQ] at U;refine aU ⟨_,rfl,p,_,0,.str "either",rfl,rfl,q,bJ,.inr "either",.str "or",_,rfl,rfl,M,⟨_,rfl⟩,?_⟩;refine⟨_,rfl,_,rfl,p,_,1,x,rfl,rfl,q,fO,x,r,many,rfl,N,ok.1,by lia,d,c,g,λW X Z s1 G o=>?_⟩;refine⟨_,rfl,_,rfl,p,_,2,y,rfl,rfl,s1.RC g.soft q,nO,y,j,many,rfl,zv g s1 S,ok.2,by lia,d,c,G,λt2 J H2 s2 L u=>?_⟩;exact kK (E:=E) (RK:=Bk.bp many r) (RL:=Bk.bp many j) (os:=Bk.bp many (.either r j)) (cl:=[(1,0),(0,1),(1,1)]) (by decide +kernel) (by decide) c (Bk.bP d c _) (Bk.bP d c _) (Bk.bP d c _) zu (pJ G s2 o.a) u.a L (s1.trans s2) z
theorem sK (F:Qh K "book_by_rule" "book_by_rule" mQ f fd)(T:VE P w K mg CO aN aR aJ aF kN kR kJ)(WJ:Df P w K mg base PV 11 "join_books" ["word","one","other"] (jS K Pt))(WK:Df P w K mg base PV 14 "book_of_walk" ["many","rule"] (qD K Pw))(b:bA K fd ["many","rule"] [])(m:mg "book_by_rule"=some (.ref f)):∀n,P4 P w K mg base PV (n+14) f fd ["many","rule"] (i6 K Pt Pw n)
 | 0=>pK F T WJ WK 0 λm h=>nomatch h
 | n+1=>pK F T WJ WK (n+1) λk h=>by
  cases h;exact⟨f,fd,sK F T WJ WK b m n,b,F.kp,m⟩
def xV (many:Nat)(ms:List Nat)(first:Int):Prop:=first=0\/(1<first/\first<ms.length/\ms.getD first.toNat 0=2 ^ many-1)
def vZ (K:Po)(CB:D'):Sp:=λvs H Q E=>∃(many:Nat) (first:Int) (l:D') (ms:List Nat),vs=[.int many,.ref l,.int first]/\PX K H l (gj ms)/\many<=8/\(xV many ms first->Q .Qb H)/\(¬xV many ms first->E (.ref CB) none H)
theorem Bz (F:Qh K "look_first" "look_first" uY f fd)(T:Rf K mg CO)(BB:VS K mg "BadBook" CB):P4 P w K mg base (QP P w) 1 f fd ["many","things","first"] (vZ K CB):=by
 refine F.U5 Fs (λvs H Q E h=>?_) (λX N A outer s H vs Q E C R o L h=>?_)
 .obtain⟨many,first,l,d,rfl,_⟩:=h;rfl
 obtain⟨many,first,l,d,rfl,m,M,n,j⟩:=h;subst C;obtain⟨x,J⟩:=T.no;obtain⟨u,y⟩:=T.en;refine⟨_,af (aH (aq bu (pv 2) (aA (v:=.int 0) rfl J ⟨x,rfl⟩) (aw _)) (ai pQ) au)
  (af (aH (cp (jX hV hV (aA (v:=.int 1) rfl y ⟨u,rfl⟩) (pv 2) (aG aX rfl T.t.len cr (aa (pv 1) ad)))) (ai (cN rfl rfl BB o (aa av ad))) au)
  (ai (aH (aq dY (cI (show U4 _ (fI K) from bL) (pv 1) (pv 2) (λ_ _=>rfl)) (ay oo (ay tS ae (pv 0)) ae) (aw _)) (ai (cN rfl rfl BB o (aa av ad))) au))),?_⟩
 refine⟨_,rfl,rfl,_,rfl,?_⟩
 by_cases c:first=0
 .subst c;exact aU (n (.inl rfl))
 rw[Qd (λh=>c (by have:=V.int.inj h;(first|trivial|lia)))];refine az ?_;refine⟨_,rfl,1,first,rfl,rfl,_,rfl,?_⟩;have p:(gj d).length=d.length:=Qx _
 by_cases c1:1<first
 case neg=>
  rw[Qd c1];exact az ⟨_,rfl,aU ⟨by show 1<=PH;decide,j λh=>h.elim c λh=>c1 h.1⟩⟩
 rw[Qk c1];refine aU ⟨_,rfl,l,_,rfl,.inl m,first,_,rfl,rfl,_,rfl,?_⟩;rw[p]
 by_cases e:first<(d.length:Nat)
 case neg=>
  rw[Qd e];exact aU ⟨by show 1<=PH;decide,j λh=>h.elim c λh=>e h.2.1⟩
 rw[Qk e];refine az ?_;have I:first.toNat<d.length:=by lia
 have G:((first.toNat:Nat):Int)=first:=agp (by lia)
 refine⟨_,rfl,_,rfl,l,_,first,_,rfl,rfl,m,by have:=C5 I;rw[G] at this;exact this,?_⟩;refine⟨_,rfl,1,(many:Int),rfl,rfl,⟨by lia,by lia,by decide⟩,_,1,rfl,rfl,rfl,_,rfl,?_⟩;have D:(1:Int)*2 ^ ((many:Int)).toNat-1=((2 ^ many-1:Nat):Int):=by
  rw[UT,Int.one_mul,Int.natCast_sub (Nat.one_le_two_pow)];simp
 show(λ(b:Bool) (O:Hp)=>if b=true then _ else _) (!decide (V.int ((d.getD first.toNat 0:Nat):Int)=V.int (1*2 ^ ((many:Int)).toNat-1))) H;rw[D]
 by_cases g:d.getD first.toNat 0=2 ^ many-1
 .rw[g,Qk rfl];exact az (n (.inr ⟨c1,e,g⟩))
 .rw[Qd λh=>g (by have:=V.int.inj h;exact agE this)];exact aU ⟨by show 1<=PH;decide,j λh=>h.elim c λh=>g h.2.2⟩
def Uz (m:Int)(rs:List Bk.Pn)(f:Int):Prop:=∃many first:Nat,m=many/\f=first/\ô many rs first
theorem BA (W:ô m rs f):Uz m rs f:=⟨m,f,rfl,rfl,W⟩
theorem BC:¬Uz m [] 1:=λh=>by
 obtain⟨_,f,_,e,W⟩:=h;rcases W.fst with h|⟨h,_⟩ <;> lia
def Dom (m:Int)(rs:List Bk.Pn)(f:Int):Prop:=Uz m rs f\/(1<=m/\m<=8/\rs=[]/\f=1)
def xW (K:Po)(CB:D'):Sp:=λvs H Q E=>∃(x:V) (many:Int) (rs:List Bk.Pn) (first:Int),vs=[x]/\Ul K H x many rs first/\Dom many rs first/\(Uz many rs first->∀H',ar H H'->Q .Qb H')/\(¬Uz many rs first->∀H',ar H H'->E (.ref CB) none H')
theorem DJ (F:Qh K "look_book" "look_book" yP f fd)(WP:Df P w K mg base PV 3 "look_parts" ["book"] (xq K))(WF':Df P w K mg base PV 4 "things_from" ["many","rooms"] (AQ K))(WL:Df P w K mg base (QP P w) 1 "look_first" ["many","things","first"] (vZ K CB))(WT:Df P w K mg base PV 10 "look_turn" ["rooms","first"] (xz K 8)):P4 P w K mg base (QP P w) 11 f fd ["book"] (xW K CB):=by
 refine F.U5 lC (λvs H Q E h=>?_) (λX M A outer s H vs Q E C L N c h=>?_)
 .obtain⟨x,many,rs,first,rfl,_⟩:=h;rfl
 obtain⟨x,many,rs,first,rfl,B,d,y,v⟩:=h;obtain⟨b,l,xs,rfl,q,n,o⟩:=id B.ex;subst C;refine⟨_,af (bv (aE WP (c.mono (by decide)) rfl pS (aa (pv 0) ad)))
  (af (aQ (i:=1) lC.nd rfl (Q8 rfl) (P9 K (pv 0) ae))
  (af (aQ (i:=2) lC.nd rfl (Q8 rfl) (P9 K (pv 0) ae))
  (af (aQ (i:=3) lC.nd rfl (Q8 rfl) (P9 K (pv 0) ae))
  (af (aQ (i:=4) lC.nd rfl (Q8 rfl) (aE WF' (c.mono (by decide)) rfl pS (aa (pv 1) (aa (pv 2) ad))))
  (af (bv (aE WL (c.mono (by decide)) rfl L (aa (pv 1) (aa (pv 4) (aa (pv 3) ad)))))
  (ai (bv (aE WT c rfl pS (aa (pv 2) (aa (pv 3) ad)))))))))),?_⟩
 obtain⟨m,rfl,m1,m8,wh⟩:∃m:Nat,many=m/\1<=m/\m<=8/\OF (m:Int) rs:=by
  rcases d with⟨m,f,e,_,W⟩|⟨u,J,rfl,_⟩
  .exact⟨m,e,W.m1,W.m8,W.rooms⟩
  .exact⟨many.toNat,by lia,by lia,by lia,λi r e=>by simp at e,λi r e=>by simp at e,λr c=>by simp at c,by simp⟩
 refine⟨_,rfl,.ref b,m,rs,first,rfl,B,by lia,by lia,?_⟩;refine⟨_,rfl,b,_,0,.int m,rfl,rfl,q,bJ,?_⟩;refine⟨_,rfl,b,_,1,.ref l,rfl,rfl,q,fO,?_⟩;refine⟨_,rfl,b,_,2,.int first,rfl,rfl,q,nO,?_⟩;refine⟨_,rfl,_,rfl,m,l,xs,rs,rfl,n,o,wh,λt I s1 G=>?_⟩;refine⟨_,rfl,_,rfl,_,rfl,m,first,t,Bk.cf rs,rfl,.inl (.inl G),m8,λfs=>?_,λh=>v (λg=>h ?_) I s1⟩
 .rcases d with⟨j,f,e,rfl,W⟩|⟨_,_,rfl,rfl⟩
  .refine⟨_,rfl,_,rfl,l,xs,rs,f,rfl,s1.R0 n,bf (λ_ _ z=>z.same s1) o,W.rooms.wf,W.Qi,W.nd,W.fits,W.walk,λD s2=>y ⟨j,f,e,rfl,W⟩ D (s1.trans s2)⟩
  .rcases fs with h|⟨h,_⟩ <;> lia
 .obtain⟨j,f,e,rfl,W⟩:=g;obtain rfl:m=j:=by lia
  rcases W.fst with h|⟨u,J,p⟩
  .exact .inl (by lia)
  .exact .inr ⟨by lia,by rw[Bk.fX];lia,by rw[UT];exact p⟩
mutual
inductive Rv where
 | leaf (w:M') (ns:List Int)
 | node (w:M') (ks:Ra)
inductive Ra where
 | nil
 | cons (k:Rv) (ks:Ra)
end
noncomputable def Ra.Sn:Ra->List Rv
 | .nil=>[]
 | .cons k ks=>k::ks.Sn
mutual
def QV (K:Po) (H:Hp):V->Rv->Prop
 | v,.leaf w ns=>∃p,v=.ref p/\PM K H p (.str w::ns.map V.int)
 | v,.node w ks=>∃p xs,v=.ref p/\PM K H p (.str w::xs)/\R3 K H xs ks
def R3 (K:Po) (H:Hp):List V->Ra->Prop
 | xs,.nil=>xs=[]
 | xs,.cons k ks=>∃y ys,xs=y::ys/\QV K H y k/\R3 K H ys ks
end
mutual
theorem QV.mono {K:Po}{H H':Hp}(s:∀{a xs},PM K H a xs->PM K H' a xs):∀(r:Rv) (v:V),QV K H v r->QV K H' v r
 | .leaf _ _,_,h=>by
  unfold QV at h ⊢
  obtain⟨p,e,q⟩:=h
  exact⟨p,e,s q⟩
 | .node _ ks,_,h=>by
  unfold QV at h ⊢
  obtain⟨p,xs,e,q,r⟩:=h
  exact⟨p,xs,e,s q,R3.mono s ks xs r⟩
theorem R3.mono {K:Po}{H H':Hp}(s:∀{a xs},PM K H a xs->PM K H' a xs):∀(ks:Ra) (xs:List V),R3 K H xs ks->R3 K H' xs ks
 | .nil,_,h=>by
  unfold R3 at h ⊢
  exact h
 | .cons k ks,_,h=>by
  unfold R3 at h ⊢
  obtain⟨y,ys,e,a,b⟩:=h
  exact⟨y,ys,e,QV.mono s k y a,R3.mono s ks ys b⟩
end
theorem QV.same (s:ar H H')(h:QV K H v r):QV K H' v r:=QV.mono (λq=>s.P6 q) r v h
theorem R3.pair:∀{ks:Ra}{xs:List V},R3 K H xs ks->PR (QV K H) xs ks.Sn
 | .nil,_,h=>by
  unfold R3 at h;subst h;exact .nil
 | .cons k ks,_,h=>by
  unfold R3 at h;obtain⟨y,ys,rfl,a,b⟩:=h;exact .cons a (R3.pair b)
def jT (w:M'):Prop:=w≠"not"/\w≠"both"/\w≠"either"
def eZ (w:M'):Prop:=w≠"at"/\w≠"ahead"/\w≠"next"/\w≠"even"
mutual
def bB:Rv->Prop
 | .leaf w _=>jT w
 | .node w ks=>eZ w/\õ ks
def õ:Ra->Prop
 | .nil=>True
 | .cons k ks=>bB k/\õ ks
end
def zw (many:Int)(w:M')(ns:List Int):Prop:=(∀n∈ns,0<=n/\n<many)/\((w="ahead"\/w="next")->ns[0]?≠ns[1]?)
def zx (many:Int)(w:M')(ns:List Int):Prop:=(((w="at"\/w="ahead"\/w="next")/\ns.length=2)\/(w="even"/\ns=[]))/\zw many w ns
def v8 (w:M')(n:Nat):Prop:=(w="not"/\n=1)\/((w="both"\/w="either")/\n=2)
mutual
def bh (many:Int):Nat->Rv->Prop
 | d,.leaf w ns=>d<=6/\zx many w ns
 | d,.node w ks=>d<=6/\v8 w ks.Sn.length/\Wq many (d+1) ks
def Wq (many:Int):Nat->Ra->Prop
 | _,.nil=>True
 | d,.cons k ks=>bh many d k/\Wq many d ks
end
theorem ip:∀{ks:Ra},Wq many d ks↔∀k∈ks.Sn,bh many d k
 | .nil=>by simp[Wq,Ra.Sn]
 | .cons k ks=>by
  unfold Wq;rw[ip (ks:=ks)];simp[Ra.Sn]
theorem iq:∀{ks:Ra},õ ks↔∀k∈ks.Sn,bB k
 | .nil=>by simp[õ,Ra.Sn]
 | .cons k ks=>by
  unfold õ;rw[iq (ks:=ks)];simp[Ra.Sn]
def lP (K:Po)(CR:D'):Sp:=λvs H Q E=>∃(r:D') (xs:List V) (c:Nat),vs=[.ref r,.int (c:Int)]/\PM K H r xs/\(xs.length=c+1->Q .Qb H)/\(xs.length≠c+1->E (.ref CR) none H)
theorem zy {CR:D'}(F:Qh K "look_parts_behind" "look_parts_behind" qE f fd)(T:Rf K mg CO)(RR:VS K mg "BadRule" CR):P4 P w K mg base (QP P w) 1 f fd ["rule","count"] (lP K CR):=by
 refine F.U5 Dz (λvs H Q E h=>?_) (λX n A outer s H vs Q E g o j m h=>?_)
 .obtain⟨r,xs,c,rfl,_⟩:=h;rfl
 obtain⟨r,xs,c,rfl,q,e,d⟩:=h;subst g;refine⟨_,ai (aH (aq dY (aG aX rfl T.t.len cr (aa (pv 0) ad)) (ay bT (pv 1) ae) (aw _)) (ai (cN rfl rfl RR j (aa av ad))) au),?_⟩;refine⟨_,rfl,r,_,rfl,.inr q,_,rfl,_,_,rfl,rfl,rfl,_,rfl,?_⟩
 by_cases b:xs.length=c+1
 .rw[b,show(((c+1:Nat)):Int)=(c:Int)+1 by (first|trivial|lia),Qk rfl];exact az (e b)
 .rw[Qd (λh=>b (by have:=V.int.inj h;lia))];exact aU ⟨by show 1<=PH;decide,d b⟩
def n8 (K:Po)(CR:D'):Sp:=λvs H Q E=>∃(r:D') (wd:M') (ns:List Int) (many:Int),vs=[.int many,.ref r]/\PM K H r (.str wd::ns.map V.int)/\(((wd="at"\/wd="ahead"\/wd="next")/\ns.length=2)\/(wd="even"/\ns=[]))/\(zw many wd ns->∀H',ar H H'->Q .Qb H')/\(¬zw many wd ns->∀H',ar H H'->E (.ref CR) none H')
theorem BD {CR:D'}(F:Qh K "look_numbers" "look_numbers" vQ f fd)(RR:VS K mg "BadRule" CR)(W:Df P w K mg base PV 1 "is_whole" ["value"] iA):P4 P w K mg base (QP P w) 2 f fd ["many","rule"] (n8 K CR):=by
 refine F.U5 xR (λvs H Q E h=>?_) (λX T A outer s H vs Q E O J G L h=>?_)
 .obtain⟨r,wd,ns,many,rfl,_⟩:=h;rfl
 obtain⟨r,wd,ns,many,rfl,q,u,v,D⟩:=h;subst O;refine⟨_,af (dM (show ö _ _ _ _ from oR) rfl (iK (cM (fD) (pv 1) (dy ae) dv)) (cD (i:=2) xR.nd rfl (lc rfl))
   (ai (aH (PW.pt (gc (cp (cz (aE W L rfl pS (aa (pv 2) ad)))) (fB (cp (jX hW hV ae (pv 2) (pv 0)))))) (ai (cN rfl rfl RR G (aa av ad))) au)))
  (ai (aH (PW.pt (jy (aq (show QG _ _ (Wx K false) from fS) (P9 K (pv 1) ae) (aZ (aa av (aa av ad))) rfl) (ix (aq bu (P9 K (pv 1) ae) (P9 K (pv 1) ae) (aw _))))) (ai (cN rfl rfl RR G (aa av ad))) au)),?_⟩
 have S:¬(HT.Qg (V.str wd::ns.map V.int).length 0 (some 1)=0/\HT.Qg (V.str wd::ns.map V.int).length (V.str wd::ns.map V.int).length none=(V.str wd::ns.map V.int).length):=λh=>by
  have:=h.1;unfold HT.Qg at this;simp at this
 refine⟨_,rfl,1,rfl,r,_,rfl,q,S,λp J=>?_⟩;rw[iG];have s1:=ag J (.tup (ns.map V.int));refine⟨p,rfl,⟨_,PM.up⟩,lV (K:=K) (a:=p) (xs:=ns.map V.int) (λi t m=>∃o,t=[some (.int many),some (.ref r),o]/\m=upd H p (.tup (ns.map V.int))/\∀n∈ns.take i,0<=n/\n<many) ⟨none,rfl,rfl,λ_ h=>nomatch h⟩ ?_ ?_ ?_⟩
 .rintro i t m _ ⟨o,rfl,rfl,_⟩;exact PM.up
 .rintro i x t m d ⟨o,rfl,rfl,b⟩;rw[So] at d;obtain⟨n,C,rfl⟩:=Xk.mp d;have mem:=Q6 C;refine⟨_,rfl,_,rfl,_,rfl,az ?_⟩;refine⟨_,rfl,_,_,rfl,rfl,_,rfl,?_⟩;have bad:¬(0<=n/\n<many)->1<=PH/\E (.ref CR) none (upd H p (.tup (ns.map V.int))):=λc=>⟨by decide,D (λg=>c (g.1 n mem)) _ s1⟩
  by_cases c1:0<=n
  .rw[Qk c1];refine aU ⟨_,rfl,_,_,rfl,rfl,_,rfl,?_⟩
   by_cases j:n<many
   .rw[Qk j];refine az ⟨_,rfl,rfl,λx d=>?_⟩;rw[cC C] at d;rcases QW.mp d with h|h
    .exact b x h
    .rw[Ri.mp h];exact⟨c1,j⟩
   .rw[Qd j];exact aU (bad λh=>j h.2)
  .rw[Qd c1];exact az ⟨_,rfl,aU (bad λh=>c1 h.1)⟩
 .rintro t m ⟨o,rfl,rfl,b⟩;rw[Qx,UV] at b;refine⟨_,rfl,r,_,0,.str wd,rfl,rfl,s1.P6 q,bJ,by show 2<=PH;decide,λR N=>?_⟩;have s2:=s1.trans (ag N (.tup [V.str "ahead",V.str "next"]));refine⟨R,_,rfl,.inr PM.up,rfl,rfl,_,rfl,?_⟩;rw[Pr (by decide)];rcases u with⟨u,M⟩|⟨rfl,rfl⟩
  .obtain⟨a,c,rfl⟩:∃a c,ns=[a,c]:=match ns,M with | [a,c],_=>⟨a,c,rfl⟩
   by_cases I:wd="at"
   .subst I;exact az (az (v ⟨b,λh=>by rcases h with h|h <;> exact Py h (by decide +kernel)⟩ _ s2))
   .have y:wd="ahead"\/wd="next":=u.resolve_left I;rw[show UN (V.str wd) [V.str "ahead",V.str "next"]=true by rcases y with h|h <;> rw[h] <;> decide +kernel];refine aU ⟨_,rfl,r,_,1,.int a,rfl,rfl,s2.P6 q,fO,_,rfl,r,_,2,.int c,rfl,rfl,s2.P6 q,nO,rfl,_,rfl,?_⟩
    by_cases e:a=c
    .rw[Qk (by rw[e])];exact aU ⟨by show 1<=PH;decide,D (λg=>g.2 y (by show some a=some c;rw[e])) _ s2⟩
    .rw[Qd (λh=>e (V.int.inj h))];exact az (v ⟨b,λ_ h=>e (UW h)⟩ _ s2)
  .exact az (az (v ⟨b,λh=>by rcases h with h|h <;> exact Py h (by decide +kernel)⟩ _ s2))
structure TxO (kN kR:List (Key×G')):Prop where
 n:∀x:M',x≠"at"->x≠"ahead"->x≠"next"->x≠"even"->valueAt kN (.inr x)=none
 r:∀x:M',x≠"not"->x≠"both"->x≠"either"->valueAt kR (.inr x)=none
theorem VE.ag2 {P:PU}{w:Pz}{K:Po}{mg:M'->Option G'}{CO:D'}{aN:D'}{aR:D'}{aJ:D'}{aF:D'}{kN:List (Key×G')}{kR:List (Key×G')}{kJ:List (Key×G')}(T:VE P w K mg CO aN aR aJ aF kN kR kJ){x:M'}(h:x="at"\/x="ahead"\/x="next"):∃t,valueAt kN (.inr x)=some (.int ((2:Nat):Int) t):=by
 rcases h with rfl|rfl|rfl
 .exact T.vN (.at_ 0 0) (by intro h;cases h)
 .exact T.vN (.ahead 0 0) (by intro h;cases h)
 .exact T.vN (.next 0 0) (by intro h;cases h)
theorem VE.ag3 (T:VE P w K mg CO aN aR aJ aF kN kR kJ):∃t,valueAt kN (.inr "even")=some (.int ((0:Nat):Int) t):=T.vN .Sv (by intro h;cases h)
def iH (K:Po)(CR:D')(n:Nat):Sp:=λvs H Q E=>∃(v:V) (r:Rv) (many:Int) (d:Nat),vs=[.int many,v,.int (d:Int)]/\QV K H v r/\bB r/\7<=d+n/\d<=7/\(bh many d r->∀H',ar H H'->Q .Qb H')/\(¬bh many d r->∀H',ar H H'->E (.ref CR) none H')
theorem v9:∀{r:Rv},QV K H v r->∃p wd xs,v=.ref p/\PM K H p (.str wd::xs)/\((∃ns,r=.leaf wd ns/\xs=ns.map V.int)\/∃ks,r=.node wd ks/\PR (QV K H) xs ks.Sn)
 | .leaf wd ns,h=>by
  unfold QV at h;obtain⟨p,e,q⟩:=h;exact⟨p,wd,_,e,q,.inl ⟨ns,rfl,rfl⟩⟩
 | .node wd ks,h=>by
  unfold QV at h;obtain⟨p,xs,e,q,r⟩:=h;exact⟨p,wd,xs,e,q,.inr ⟨ks,rfl,r.pair⟩⟩
theorem BE {P:PU}{w:Pz}{K:Po}{mg:M'->Option G'}{base:Ps}{CO:D'}{CR:D'}{aN:D'}{aR:D'}{aJ:D'}{aF:D'}{kN:List (Key×G')}{kR:List (Key×G')}{kJ:List (Key×G')}{f:D'}{fd:P5}(F:Qh K "look_rule" "look_rule" lO f fd)(T:VE P w K mg CO aN aR aJ aF kN kR kJ)(O:TxO kN kR)(RR:VS K mg "BadRule" CR)(WP:Df P w K mg base (QP P w) 1 "look_parts_behind" ["rule","count"] (lP K CR))(WN:Df P w K mg base (QP P w) 2 "look_numbers" ["many","rule"] (n8 K CR))(n:Nat)(WW:Df P w K mg base (QP P w) (n+2) "look_rule" ["many","rule","depth"] (iH K CR n)):P4 P w K mg base (QP P w) (n+3) f fd ["many","rule","depth"] (iH K CR (n+1)):=by
 refine F.U5 qF (λvs H Q E h=>?_) (λX P3 A outer s H vs Q E hX R Sl G h=>?_)
 .obtain⟨v,r,many,d,rfl,_⟩:=h;rfl
 obtain⟨v,r,many,d,rfl,ra,y,hd,d7,zg,o⟩:=h;subst hX;obtain⟨t6,m6⟩:=T.most;obtain⟨p,wd,xs,rfl,q,hk⟩:=v9 ra;refine⟨_,af (aH (aq hZ (pv 2) (aA (v:=.int 6) rfl m6 ⟨t6,rfl⟩) (aw _)) (ai (cN rfl rfl RR Sl (aa (iz (bM (eG (k:=100) (by decide)) (bM (lg (aA (v:=.int 6) rfl m6 ⟨t6,rfl⟩)) (bM (eG (k:=100) (by decide)) jG))) (by decide)) ad))) au)
   (af (aH (PW.pt (gc (cp (cz (aG bK rfl T.k.t.t.Tn dz (aa (pv 1) (aa (eE (v:=.ty "tuple") rfl T.k.t.t.tuple fU rfl) ad)))))
    (gc (aq bu (aG aX rfl T.k.t.t.len cr (aa (pv 1) ad)) ae (aw _)) (fB (cp (cz (aG bK rfl T.k.t.t.Tn dz (aa (P9 K (pv 1) ae) (aa (eE (v:=.ty "str") rfl T.str Hg rfl) ad))))))))) (ai aK) au)
   (ai (aH (aq (lM T.dN) (P9 K (pv 1) ae) (aA (v:=.ref aN) rfl T.nb rfl) rfl)
    (af (bv (aE WP (G.mono (by lia)) rfl R (aa (pv 1) (aa (jR T.dN (aA (v:=.ref aN) rfl T.nb rfl) (P9 K (pv 1) ae) (λ_ _=>rfl)) ad))))
     (ai (bv (aE WN (G.mono (by lia)) rfl R (aa (pv 0) (aa (pv 1) ad))))))
    (ai (aH (aq (lM T.dR) (P9 K (pv 1) ae) (aA (v:=.ref aR) rfl T.rb rfl) rfl)
     (af (bv (aE WP (G.mono (by lia)) rfl R (aa (pv 1) (aa (jR T.dR (aA (v:=.ref aR) rfl T.rb rfl) (P9 K (pv 1) ae) (λ_ _=>rfl)) ad))))
      (ai (dM (show ö _ _ _ _ from oR) rfl (iK (cM (fD) (pv 1) (dy ae) dv)) (cD (i:=3) qF.nd rfl (lc rfl))
       (ai (bv (aE WW (G.mono (by lia)) rfl R (aa (pv 0) (aa (pv 3) (aa (ay bT (pv 2) ae) ad)))))))))
     (ai (cN rfl rfl RR Sl (aa av ad)))))))),?_⟩
 refine⟨_,rfl,_,_,rfl,rfl,_,rfl,?_⟩
 by_cases W:d<=6
 case neg=>
  have D:¬bh many d r:=λg=>by
   cases r <;> (unfold bh at g;exact W g.1)
  rw[Qk (show(6:Int)<(d:Int) by lia)];exact aU ⟨⟨trivial,⟨rfl,6,rfl,dA (by decide) (by decide)⟩,trivial,trivial⟩,λx=>⟨by show 1<=PH;decide,o D H (ar.refl H)⟩⟩
 rw[Qd (show ¬(6:Int)<(d:Int) by lia)];refine az ⟨_,rfl,_,_,_,_,_,rfl,rfl,.tup q,li,_,rfl,az ?_⟩;refine⟨_,rfl,p,_,rfl,.inr q,rfl,_,rfl,?_⟩;rw[Qd (λh=>by have:=V.int.inj h;rw[QU] at this;lia)];refine az ⟨_,rfl,p,_,0,.str wd,rfl,rfl,q,bJ,_,_,_,_,_,rfl,rfl,.of (.str _),FM,_,rfl,az ?_⟩;refine⟨_,rfl,p,_,0,.str wd,rfl,rfl,q,bJ,.inr wd,rfl,rfl,_,rfl,?_⟩;rcases hk with⟨ns,rfl,rfl⟩|⟨ks,rfl,pk⟩
 .unfold bB at y;have U:(∃(c:Nat) (t:Sh),valueAt kN (.inr wd)=some (.int (c:Int) t)/\(ns.length=c->(((wd="at"\/wd="ahead"\/wd="next")/\ns.length=2)\/(wd="even"/\ns=[])))/\(zx many wd ns->ns.length=c))\/(valueAt kN (.inr wd)=none/\¬zx many wd ns):=by
   by_cases j:wd="at"\/wd="ahead"\/wd="next"
   .obtain⟨t,b⟩:=T.ag2 j;refine .inl ⟨2,t,b,λh=>.inl ⟨j,h⟩,λg=>?_⟩;rcases g.1 with h|h
    .exact h.2
    .rw[h.1] at j;exact Py j (by decide +kernel)
   by_cases I:wd="even"
   .obtain⟨t,b⟩:=T.ag3;refine .inl ⟨0,t,by rw[I];exact b,λh=>.inr ⟨I,VH.mp h⟩,λg=>?_⟩;rcases g.1 with h|h
    .exact Py h.1 j
    .rw[h.2];rfl
   .refine .inr ⟨O.n wd (λh=>j (.inl h)) (λh=>j (.inr (.inl h))) (λh=>j (.inr (.inr h))) I,λg=>?_⟩;rcases g.1 with h|h
    .exact j h.1
    .exact I h.1
  rcases U with⟨c,t,b,e,u⟩|⟨b,D⟩
  .rw[b];refine aU ⟨_,rfl,_,rfl,p,_,0,.str wd,rfl,rfl,q,bJ,.inr wd,.int (c:Int),_,rfl,rfl,b,⟨_,rfl⟩,?_⟩;refine⟨p,_,c,rfl,q,λm=>?_,λm=>o (λg=>?_) H (ar.refl H)⟩
   .rw[QU,Qx] at m;have h3:=e (by lia);refine⟨_,rfl,_,rfl,p,wd,ns,many,rfl,q,h3,λg=>zg ?_,λg=>o λg'=>?_⟩
    .unfold bh;exact⟨W,h3,g⟩
    .unfold bh at g';exact g g'.2.2
   .unfold bh at g;rw[QU,Qx] at m;have:=u g.2;lia
  .rw[b];refine az ⟨_,rfl,p,_,0,.str wd,rfl,rfl,q,bJ,.inr wd,rfl,rfl,_,rfl,?_⟩;rw[O.r wd y.1 y.2.1 y.2.2];refine az ⟨by show 1<=PH;decide,o (λg=>?_) H (ar.refl H)⟩;unfold bh at g;exact D g.2
 .unfold bB at y;obtain⟨sn,sk⟩:=y;have S:=pk.length;rw[O.n wd sn.1 sn.2.1 sn.2.2.1 sn.2.2.2];refine az ⟨_,rfl,p,_,0,.str wd,rfl,rfl,q,bJ,.inr wd,rfl,rfl,_,rfl,?_⟩;have U:(∃(c:Nat) (t:Sh),valueAt kR (.inr wd)=some (.int (c:Int) t)/\(v8 wd ks.Sn.length↔ks.Sn.length=c))\/(valueAt kR (.inr wd)=none/\¬v8 wd ks.Sn.length):=by
   by_cases e:wd="not"
   .obtain⟨t,b⟩:=T.vR.1;exact .inl ⟨1,t,by rw[e];exact b,λh=>h.elim (·.2) λh=>Py h.1 (by rw[e];decide +kernel),λh=>.inl ⟨e,h⟩⟩
   by_cases u:wd="both"\/wd="either"
   .obtain⟨t,b⟩:∃t,valueAt kR (.inr wd)=some (.int ((2:Nat):Int) t):=by
     rcases u with h|h
     .rw[h];exact T.vR.2.1
     .rw[h];exact T.vR.2.2
    exact .inl ⟨2,t,b,λh=>h.elim (λh=>Py h.1 e) (·.2),λh=>.inr ⟨u,h⟩⟩
   .exact .inr ⟨O.r wd e (λh=>u (.inl h)) (λh=>u (.inr h)),λh=>h.elim (λh=>e h.1) λh=>u h.1⟩
  rcases U with⟨c,t,b,e⟩|⟨b,D⟩
  .rw[b];refine aU ⟨_,rfl,_,rfl,p,_,0,.str wd,rfl,rfl,q,bJ,.inr wd,.int (c:Int),_,rfl,rfl,b,⟨_,rfl⟩,?_⟩;refine⟨p,_,c,rfl,q,λm=>?_,λm=>o (λg=>?_) H (ar.refl H)⟩
   .rw[QU,S] at m;have nw:¬(HT.Qg (V.str wd::xs).length 0 (some 1)=0/\HT.Qg (V.str wd::xs).length (V.str wd::xs).length none=(V.str wd::xs).length):=λh=>by
     have:=h.1;unfold HT.Qg at this;simp at this
    refine⟨_,rfl,1,rfl,p,_,rfl,q,nw,λY Z=>?_⟩;rw[iG];have s1:=ag Z (.tup xs);refine⟨Y,rfl,⟨_,PM.up⟩,lV (K:=K) (a:=Y) (xs:=xs) (λi M L=>∃J,M=[some (.int many),some (.ref p),some (.int (d:Int)),J]/\ar (upd H Y (.tup xs)) L/\∀k∈ks.Sn.take i,bh many (d+1) k) ⟨none,rfl,ar.refl _,λ_ h=>nomatch h⟩ ?_ ?_ ?_⟩
    .rintro i M L _ ⟨J,rfl,s2,_⟩;exact s2.P6 PM.up
    .rintro i x M L hx ⟨J,rfl,s2,N⟩;obtain⟨k,Td,rx⟩:=cB pk hx;have mem:=Q6 Td;refine⟨_,rfl,_,rfl,_,rfl,_,_,rfl,rfl,x,k,many,d+1,by simp,rx.same (s1.trans s2),iq.mp sk k mem,by lia,by lia,λg H3 s3=>⟨_,rfl,s2.trans s3,λk' C=>?_⟩,λg H3 s3=>o (λg'=>?_) H3 (s1.trans (s2.trans s3))⟩
     .rw[cC Td] at C;rcases QW.mp C with h|h
      .exact N k' h
      .rw[Ri.mp h];exact g
     .unfold bh at g';exact g (ip.mp g'.2.2 k mem)
    .rintro M L ⟨J,rfl,s2,N⟩;rw[S,UV] at N;refine zg ?_ _ (s1.trans s2);unfold bh;exact⟨W,e.mpr (by lia),ip.mpr N⟩
   .unfold bh at g;rw[QU,S] at m;have:=e.mp g.2.1;lia
  .rw[b];refine az ⟨by show 1<=PH;decide,o (λg=>?_) H (ar.refl H)⟩;unfold bh at g;exact D g.2.1
theorem BF {CR:D'}(F:Qh K "look_rule" "look_rule" lO f fd)(T:VE P w K mg CO aN aR aJ aF kN kR kJ)(RR:VS K mg "BadRule" CR):P4 P w K mg base (QP P w) 2 f fd ["many","rule","depth"] (iH K CR 0):=by
 refine F.U5 qF (λvs H Q E h=>?_) (λX C A outer s H vs Q E j D n p h=>?_)
 .obtain⟨v,r,many,d,rfl,_⟩:=h;rfl
 obtain⟨v,r,many,d,rfl,y,o,hd,t,u,e⟩:=h;subst j;obtain⟨c,b⟩:=T.most;refine⟨_,af (aH (aq hZ (pv 2) (aA (v:=.int 6) rfl b ⟨c,rfl⟩) (aw _)) (ai (cN rfl rfl RR n (aa (iz (bM (eG (k:=100) (by decide)) (bM (lg (aA (v:=.int 6) rfl b ⟨c,rfl⟩)) (bM (eG (k:=100) (by decide)) jG))) (by decide)) ad))) au) (af aK (ai aK)),?_⟩;refine⟨_,rfl,_,_,rfl,rfl,_,rfl,?_⟩;have m:¬bh many d r:=λg=>by
  cases r <;> (unfold bh at g;have:=g.1;lia)
 rw[Qk (show(6:Int)<(d:Int) by lia)];exact aU ⟨⟨trivial,⟨rfl,6,rfl,dA (by decide) (by decide)⟩,trivial,trivial⟩,λx=>⟨by show 1<=PH;decide,e m H (ar.refl H)⟩⟩
theorem wa {CR:D'}(F:Qh K "look_rule" "look_rule" lO f fd)(T:VE P w K mg CO aN aR aJ aF kN kR kJ)(O:TxO kN kR)(RR:VS K mg "BadRule" CR)(WP:Df P w K mg base (QP P w) 1 "look_parts_behind" ["rule","count"] (lP K CR))(WN:Df P w K mg base (QP P w) 2 "look_numbers" ["many","rule"] (n8 K CR))(b:bA K fd ["many","rule","depth"] [])(m:mg "look_rule"=some (.ref f)):∀n,P4 P w K mg base (QP P w) (n+2) f fd ["many","rule","depth"] (iH K CR n)
 | 0=>BF F T RR
 | n+1=>BE F T O RR WP WN n ⟨f,fd,wa F T O RR WP WN b m n,b,F.kp,m⟩
noncomputable abbrev wb:PD:=top 47
noncomputable abbrev DK:PD:=top 48
theorem gX {many:Nat}:∀(r:Rv) (d:Nat) (v:V),bh (many:Int) d r->QV K H v r->∃rl,cg K H v rl/\Bk.Uy many rl/\d+Bk.QQ rl<=7
 | .leaf wd ns,d,v,g,h=>by
  unfold bh at g;unfold QV at h;obtain⟨p,rfl,q⟩:=h;obtain⟨F,w,D,E⟩:=g;rcases w with⟨w,m⟩|⟨rfl,rfl⟩
  .obtain⟨a,c,rfl⟩:∃a c,ns=[a,c]:=match ns,m with | [a,c],_=>⟨a,c,rfl⟩
   have P:=D a (by simp);have Q:=D c (by simp);obtain⟨a',rfl⟩:∃n:Nat,a=(n:Int):=⟨a.toNat,by lia⟩
   obtain⟨c',rfl⟩:∃n:Nat,c=(n:Int):=⟨c.toNat,by lia⟩
   have C:a' < many:=by lia
   have u:c' < many:=by lia
   rcases w with rfl|rfl|rfl
   .exact⟨.bs (.at_ a' c'),⟨p,rfl,q⟩,⟨⟨C,u⟩,by intro h;cases h⟩,by show d+1<=7;lia⟩
   .exact⟨.bs (.ahead a' c'),⟨p,rfl,q⟩,⟨⟨C,u,λe=>E (.inl rfl) (by rw[e];rfl)⟩,by intro h;cases h⟩,by show d+1<=7;lia⟩
   .exact⟨.bs (.next a' c'),⟨p,rfl,q⟩,⟨⟨C,u,λe=>E (.inr rfl) (by rw[e];rfl)⟩,by intro h;cases h⟩,by show d+1<=7;lia⟩
  .exact⟨.bs .Sv,⟨p,rfl,q⟩,⟨trivial,by intro h;cases h⟩,by show d+1<=7;lia⟩
 | .node wd (.cons k .nil),d,v,g,h=>by
  unfold bh at g;unfold QV at h;obtain⟨p,xs,rfl,q,b⟩:=h;obtain⟨F,m,f⟩:=g;unfold R3 at b;obtain⟨y,ys,rfl,x,o⟩:=b;unfold R3 at o;subst o;unfold Wq at f;obtain⟨rl,r1,r2,I⟩:=gX k (d+1) y f.1 x;rcases m with⟨rfl,_⟩|⟨_,h⟩
  .exact⟨.Qb rl,⟨p,y,rfl,q,r1⟩,r2,by show d+(Bk.QQ rl+1)<=7;lia⟩
  .exact Py h (by simp[Ra.Sn])
 | .node wd (.cons k (.cons J .nil)),d,v,g,h=>by
  unfold bh at g;unfold QV at h;obtain⟨p,xs,rfl,q,b⟩:=h;obtain⟨F,m,f⟩:=g;unfold R3 at b;obtain⟨y,ys,rfl,x,b⟩:=b;unfold R3 at b;obtain⟨A,M,rfl,G,o⟩:=b;unfold R3 at o;subst o;unfold Wq at f;obtain⟨L,f⟩:=f;unfold Wq at f;obtain⟨rl,r1,r2,I⟩:=gX k (d+1) y L x;obtain⟨j,t,s,N⟩:=gX J (d+1) A f.1 G;have O:max (Bk.QQ rl) (Bk.QQ j)+(d+1)<=7:=by
   have:=Nat.max_le.mpr (show Bk.QQ rl<=6-d/\Bk.QQ j<=6-d from⟨by lia,by lia⟩);lia
  rcases m with⟨_,h⟩|⟨rfl|rfl,_⟩
  .exact Py h (by simp[Ra.Sn])
  .exact⟨.both rl j,⟨p,y,A,rfl,q,r1,t⟩,⟨r2,s⟩,by show d+(max (Bk.QQ rl) (Bk.QQ j)+1)<=7;lia⟩
  .exact⟨.either rl j,⟨p,y,A,rfl,q,r1,t⟩,⟨r2,s⟩,by show d+(max (Bk.QQ rl) (Bk.QQ j)+1)<=7;lia⟩
 | .node wd .nil,d,v,g,h=>by
  unfold bh at g;rcases g.2.1 with⟨_,h⟩|⟨_,h⟩ <;> simp[Ra.Sn] at h
 | .node wd (.cons _ (.cons _ (.cons _ _))),d,v,g,h=>by
  unfold bh at g;rcases g.2.1 with⟨_,h⟩|⟨_,h⟩ <;> simp[Ra.Sn] at h
def wc (K:Po)(Pt Pw CO CR:D'):Sp:=λvs H Q E=>∃(v:V) (r:Rv) (m:Int),vs=[.int m,v]/\QV K H v r/\bB r/\XR m/\Tb H Pt Pw/\(1<=m/\m<=8->m<=4)/\
 (¬(1<=m/\m<=8)->∀H',ar H H'->E (.ref CO) none H')/\(1<=m/\m<=8->¬bh m 1 r->∀H',ar H H'->E (.ref CR) none H')/\(1<=m/\m<=8->bh m 1 r->∀(t:D') (H':Hp),aO [Pt,Pw] H H'->Tb H' Pt Pw->Q (.ref t) H')
theorem FS:QE ["many","rule"] ["many","rule"] (ao wb):={}
theorem BG {CR:D'}(F:Qh K "ruled" "ruled" wb f fd)(WC:Df P w K mg base (QP P w) 3 "look_count" ["many"] (ma CO))(WL:Df P w K mg base (QP P w) 8 "look_rule" ["many","rule","depth"] (iH K CR 6))(WB:Df P w K mg base PV 20 "book_by_rule" ["many","rule"] (i6 K Pt Pw 6)):
  P4 P w K mg base (QP P w) 21 f fd ["many","rule"] (wc K Pt Pw CO CR):=by
 refine F.U5 FS (λvs H Q E h=>?_) (λX T A outer s H vs Q E J n U d h=>?_)
 .obtain⟨v,r,m,rfl,_⟩:=h;rfl
 obtain⟨v,r,m,rfl,j,p,x,M,N,G,D,I⟩:=h;subst J;refine⟨_,af (bv (aE WC (d.mono (by decide)) rfl n (aa (pv 0) ad)))
  (af (bv (aE WL (d.mono (by decide)) rfl n (aa (pv 0) (aa (pv 1) (aa ae ad)))))
  (ai (aD (aE WB d rfl pS (aa (pv 0) (aa (pv 1) ad)))))),?_⟩
 refine⟨_,rfl,m,rfl,x,?_⟩
 by_cases c:1<=m/\m<=8
 case neg=>
  rw[Pr c];exact G c H (ar.refl H)
 rw[PK c];refine⟨_,rfl,_,rfl,v,r,m,1,rfl,j,p,by (first|trivial|lia),by (first|trivial|lia),λg W s1=>?_,λg=>D c g⟩;obtain⟨many,rfl⟩:∃many:Nat,m=(many:Int):=⟨m.toNat,by lia⟩
 obtain⟨u,r1,r2,O⟩:=gX r 1 v g j;have:=N c;refine⟨_,rfl,_,rfl,v,u,many,rfl,r1.same s1,r2,by lia,by lia,by lia,M.same s1,λt S L s2 y R=>?_⟩;exact I c g t L (λb o C e=>s2 b o C (s1 b o e)) y
def BH (K:Po)(Pt Pw CB CR:D'):Sp:=λvs H Q E=>∃(x v:V) (r:Rv) (m:Int) (rs:List Bk.Pn) (f:Int),vs=[x,v]/\Ul K H x m rs f/\Dom m rs f/\QV K H v r/\bB r/\Tb H Pt Pw/\
 (¬Uz m rs f->∀H',ar H H'->E (.ref CB) none H')/\(Uz m rs f->∃(many:Nat) (os:Bk.ap),m=many/\1<=many/\many<=4/\Bk.Q1 many os/\rs=(bx many os).1/\f=((bx many os).2:Nat))/\
 (Uz m rs f->¬bh m 1 r->∀H',ar H H'->E (.ref CR) none H')/\(Uz m rs f->bh m 1 r->∀(t:D') (H':Hp),aO [Pt,Pw] H H'->Tb H' Pt Pw->Q (.ref t) H')
theorem Lg:QE ["book","rule"] ["book","rule"] (ao DK):={}
theorem FT {os:Bk.ap}(S:Bk.Q1 many os):Due [(1,1)] os (Bk.bp many r) (os.filter λo=>Bk.fG o r):=xU λo=>by
 unfold Bk.bp;rw[Sd,Sd];constructor
 .rintro⟨a,b⟩;exact⟨a,S.mem o a,b⟩
 .rintro⟨a,_,c⟩;exact⟨a,c⟩
theorem we {os:Bk.ap}(S:Bk.Q1 many os)(f:List Int->Bool):Bk.Q1 many (os.filter f) where
 m1:=S.m1
 m5:=S.m5
 mem:=λo b=>S.mem o (Sd.mp b).1
 ZZ:=S.ZZ.sublist Y9
 len:=RX (VI _ _) S.len
 Zy:=λe=>RX (VI _ _) (S.Zy e)
theorem FU {CR:D'}(F:Qh K "cut" "cut" DK f fd)(WK:Df P w K mg base (QP P w) 11 "look_book" ["book"] (xW K CB))(WL:Df P w K mg base (QP P w) 8 "look_rule" ["many","rule","depth"] (iH K CR 6))(WB:Df P w K mg base PV 20 "book_by_rule" ["many","rule"] (i6 K Pt Pw 6))(WJ:Df P w K mg base PV 11 "join_books" ["word","one","other"] (jS K Pt)):
  P4 P w K mg base (QP P w) 21 f fd ["book","rule"] (BH K Pt Pw CB CR):=by
 refine F.U5 Lg (λvs H Q E h=>?_) (λX P3 A outer s H vs Q E Z M Sl d h=>?_)
 .obtain⟨x,v,r,m,rs,L,rfl,_⟩:=h;rfl
 obtain⟨x,v,r,m,rs,L,rfl,B,Qi,G,N,J,zk,hk,R,W⟩:=h;subst Z;refine⟨_,af (bv (aE WK (d.mono (by decide)) rfl M (aa (pv 0) ad)))
  (af (bv (aE WL (d.mono (by decide)) rfl M (aa (P9 K (pv 0) ae) (aa (pv 1) (aa ae ad)))))
  (ai (aD (aE WJ (d.mono (by decide)) rfl pS (aa av (aa (pv 0) (aa (aE WB d rfl pS (aa (P9 K (pv 0) ae) (aa (pv 1) ad))) ad))))))),?_⟩
 refine⟨_,rfl,x,m,rs,L,rfl,B,Qi,λc H1 s1=>?_,λn=>zk n⟩;obtain⟨many,os,rfl,C,y,S,rfl,rfl⟩:=hk c;have I:=B.same s1;obtain⟨b,l,xs,rfl,q,ql,pr⟩:=id I.ex;refine⟨_,rfl,b,_,0,.int (many:Int),rfl,rfl,q,bJ,_,rfl,v,r,many,1,rfl,G.same s1,N,by (first|trivial|lia),by (first|trivial|lia),λg D s2=>?_,λg D s2=>R c g D (s1.trans s2)⟩;have V5:=s1.trans s2;obtain⟨j,r1,r2,r3⟩:=gX r 1 v g G;refine⟨_,rfl,_,rfl,b,_,0,.int (many:Int),rfl,rfl,s2.P6 q,bJ,_,rfl,v,j,many,rfl,r1.same V5,r2,by lia,C,y,J.same V5,λt lr H3 s3 p U=>?_⟩;exact kK (E:=λ_ _ _=>False) (H0:=H) (RK:=os) (RL:=Bk.bp many j) (os:=os.filter λo=>Bk.fG o j) (cl:=[(1,1)]) (by decide +kernel) (by decide) y S (Bk.bP C y _) (we S _) (FT S) (pJ (J.same V5) s3 (I.same s2)) U.a p (λb o c e=>s3 b o c (V5 b o e)) λt lr O Y u T=>W c g t O Y u
noncomputable abbrev cZ:PD:=top 68
theorem Lh:SF "max"=some (.builtin "max"):=by decide +kernel
noncomputable def WY:List (Key×V):=[(.inr "at",.int 3),(.inr "ahead",.int 3),(.inr "next",.int 3),(.inr "even",.int 1),(.inr "not",.int 2),(.inr "both",.int 3),(.inr "either",.int 3)]
noncomputable def Va (x:M'):Int:=if x="at"\/x="ahead"\/x="next"\/x="both"\/x="either" then 3 else if x="even" then 1 else if x="not" then 2 else 0
theorem Hm:gf [] WY=WY:=by decide +kernel
theorem Hn (x):(cj WY (.inr x)).getD (.int 0)=.int (Va x):=by
 have f:∀y:M',x≠y->decide ((UH y:Key)=.inr x)=false:=λy n=>Qd λe=>n (ì e).symm
 by_cases d:x="at";· subst d;decide +kernel
 by_cases m:x="ahead";· subst m;decide +kernel
 by_cases b:x="next";· subst b;decide +kernel
 by_cases c:x="even";· subst c;decide +kernel
 by_cases g:x="not";· subst g;decide +kernel
 by_cases h:x="both";· subst h;decide +kernel
 by_cases j:x="either";· subst j;decide +kernel
 unfold cj WY Va;simp only[We,f _ d,f _ m,f _ b,f _ c,f _ g,f _ h,f _ j,ę,ĩ,d,m,b,c,g,h,j,false_or,or_false,if_false];rfl
theorem DL (h1:PE X k1 a1)(g1:PE X v1 b1)(h2:PE X k2 a2)(g2:PE X v2 b2)(h3:PE X k3 a3)(g3:PE X v3 b3)(h4:PE X k4 a4)(g4:PE X v4 b4)(h5:PE X k5 a5)(g5:PE X v5 b5)(h6:PE X k6 a6)(g6:PE X v6 b6)(h7:PE X k7 a7)(g7:PE X v7 b7):
  PE X (.Dict [some k1,some k2,some k3,some k4,some k5,some k6,some k7] [v1,v2,v3,v4,v5,v6,v7] pos) (yE [(a1,b1),(a2,b2),(a3,b3),(a4,b4),(a5,b5),(a6,b6),(a7,b7)]):=
 pZ (cU h1 g1 (cU h2 g2 (cU h3 g3 (cU h4 g4 (cU h5 g5 (cU h6 g6 (cU h7 g7 pY))))))) rfl rfl (List.cons_ne_nil _ _) (by show 7<=15;(first|trivial|lia))
def pL:TE:=yE [(tC (.str "at"),tC (.int 3)),(tC (.str "ahead"),tC (.int 3)),(tC (.str "next"),tC (.int 3)),(tC (.str "even"),tC (.int 1)),(tC (.str "not"),tC (.int 2)),(tC (.str "both"),tC (.int 3)),(tC (.str "either"),tC (.int 3))]
theorem Ho (h:∃(p0 p1 p2 p3 p4 p5 p6 q0 q1 q2 q3 q4 q5 q6 pos:Qp),e=.Dict [some (.Constant (.str "at") 0 p0),some (.Constant (.str "ahead") 0 p1),some (.Constant (.str "next") 0 p2),some (.Constant (.str "even") 0 p3),some (.Constant (.str "not") 0 p4),some (.Constant (.str "both") 0 p5),some (.Constant (.str "either") 0 p6)] [.Constant (.int 3) 0 q0,.Constant (.int 3) 0 q1,.Constant (.int 3) 0 q2,.Constant (.int 1) 0 q3,.Constant (.int 2) 0 q4,.Constant (.int 3) 0 q5,.Constant (.int 3) 0 q6] pos):PE X e pL:=by
 obtain⟨p0,p1,p2,p3,p4,p5,p6,q0,q1,q2,q3,q4,q5,q6,pos,rfl⟩:=h;have h0:PE X (.Constant (.str "at") 0 p0) (tC (.str "at")):=av;have f:PE X (.Constant (.int 3) 0 q0) (tC (.int 3)):=ae;have g:PE X (.Constant (.str "ahead") 0 p1) (tC (.str "ahead")):=av;have o:PE X (.Constant (.int 3) 0 q1) (tC (.int 3)):=ae;have u:PE X (.Constant (.str "next") 0 p2) (tC (.str "next")):=av;have d:PE X (.Constant (.int 3) 0 q2) (tC (.int 3)):=ae;have b:PE X (.Constant (.str "even") 0 p3) (tC (.str "even")):=av;have p:PE X (.Constant (.int 1) 0 q3) (tC (.int 1)):=ae;have c:PE X (.Constant (.str "not") 0 p4) (tC (.str "not")):=av;have m:PE X (.Constant (.int 2) 0 q4) (tC (.int 2)):=ae;have t:PE X (.Constant (.str "both") 0 p5) (tC (.str "both")):=av;have s:PE X (.Constant (.int 3) 0 q5) (tC (.int 3)):=ae;have j:PE X (.Constant (.str "either") 0 p6) (tC (.str "either")):=av;have n:PE X (.Constant (.int 3) 0 q6) (tC (.int 3)):=ae;unfold pL;generalize (UD (.str "at") 0 p0)=k0 at h0 ⊢;generalize (UD (.int 3) 0 q0)=v0 at f ⊢;generalize (UD (.str "ahead") 0 p1)=k1 at g ⊢;generalize (UD (.int 3) 0 q1)=v1 at o ⊢;generalize (UD (.str "next") 0 p2)=k2 at u ⊢;generalize (UD (.int 3) 0 q2)=v2 at d ⊢;generalize (UD (.str "even") 0 p3)=k3 at b ⊢;generalize (UD (.int 1) 0 q3)=v3 at p ⊢;generalize (UD (.str "not") 0 p4)=k4 at c ⊢;generalize (UD (.int 2) 0 q4)=v4 at m ⊢;generalize (UD (.str "both") 0 p5)=k5 at t ⊢;generalize (UD (.int 3) 0 q5)=v5 at s ⊢;generalize (UD (.str "either") 0 p6)=k6 at j ⊢;generalize (UD (.int 3) 0 q6)=v6 at n ⊢;exact DL h0 f g o u d b p c m t s j n
noncomputable def Z9 (st:PD)(i:Nat):PD:=(bR st).getD i (.Pass ⟨0,0,0,0⟩)
noncomputable def qH:PD->PZ
 | .Assign _ e _=>e
 | _=>.Name "" ⟨0,0,0,0⟩
theorem Hq:∃(p0 p1 p2 p3 p4 p5 p6 q0 q1 q2 q3 q4 q5 q6 pos:Qp),qH (Z9 cZ 0)=.Dict [some (.Constant (.str "at") 0 p0),some (.Constant (.str "ahead") 0 p1),some (.Constant (.str "next") 0 p2),some (.Constant (.str "even") 0 p3),some (.Constant (.str "not") 0 p4),some (.Constant (.str "both") 0 p5),some (.Constant (.str "either") 0 p6)] [.Constant (.int 3) 0 q0,.Constant (.int 3) 0 q1,.Constant (.int 3) 0 q2,.Constant (.int 1) 0 q3,.Constant (.int 2) 0 q4,.Constant (.int 3) 0 q5,.Constant (.int 3) 0 q6] pos:=⟨_,_,_,_,_,_,_,_,_,_,_,_,_,_,_,rfl⟩
theorem DM:PE X (qH (Z9 cZ 0)) pL:=by
 have h:=Hq;generalize qH (Z9 cZ 0)=e at h ⊢;exact Ho h
theorem Li:∃pp ps,bR cZ=.Assign [.Name "_law_sizes" pp] (qH (Z9 cZ 0)) ps::(bR cZ).tail/\∀env,swapsWith (qH (Z9 cZ 0)) (some (.Name "_law_sizes" pp)) ps.line env=pure false:=⟨_,_,rfl,λ_=>rfl⟩
theorem xX {x:M'}(h1:x≠"not")(h2:x≠"both")(h3:x≠"either"):UN (V.str x) [V.str "not",V.str "both",V.str "either"]=false:=by
 unfold UN;simp only[Wi,List.any_nil,Bool.or_false,R6,Bool.or_eq_false_iff];exact⟨beq_eq_false_iff_ne.mpr h1.symm,beq_eq_false_iff_ne.mpr h2.symm,beq_eq_false_iff_ne.mpr h3.symm⟩
theorem wg:∀{bs:List Bool}{ks:List Rv},PR (λ(b:Bool) k=>b=true↔bh many d k) bs ks->(bs.all id=true↔∀k∈ks,bh many d k)
 | _,_,.nil=>by simp
 | b::bs,k::ks,.cons h t=>by
  rw[Zk,Tv,wg t];simp only[id,Qe,forall_eq_or_imp];rw[h]
def mR (K:Po)(n:Nat):Sp:=λvs H Q _=>∃(v:V) (r:Rv) (many:Nat) (d:Nat),vs=[.int (many:Int),v,.int (d:Int)]/\QV K H v r/\bB r/\7<=d+n/\d<=7/\∀(b:Bool) (H':Hp),(b=true↔bh (many:Int) d r)->ar H H'->Q (.bl b) H'
noncomputable abbrev NLG:List M':=["_law_many","_law_rule_here","_law_deep","_law_sizes"]
theorem jU:QE NLG ["_law_many","_law_rule_here","_law_deep"] (ao cZ):={}
theorem sL (F:Qh K "_law_good" "_law_good" cZ f fd)(T:Rf K mg CO)(aaG:mg "min"=none)(aaH:mg "max"=none)(n:Nat)(WW:∀m,n=m+1->Df P w K mg base PV (m+1) "_law_good" ["_law_many","_law_rule_here","_law_deep"] (mR K m)):P4 P w K mg base PV (n+1) f fd ["_law_many","_law_rule_here","_law_deep"] (mR K n):=by
 refine F.ok jU (λvs H Q E h=>?_) (λP3 A outer s H vs Q E hr h=>?_)
 .obtain⟨v,r,many,d,rfl,_⟩:=h;rfl
 obtain⟨v,r,many,d,rfl,ra,o,hd,d7,z⟩:=h;have hu:(A.deeper (Ō "_law_good" (ao cZ) s.heap.objs.size f P3)).units+1<Qv:=by have:=hr.un;show(A.deeper _).units+1<Qv;lia
 obtain⟨p,wd,xs,rfl,q,hk⟩:=v9 ra;have dict:∀{X:Cx}{pos:Qp},True:=λ{X pos}=>trivial;have gd7:¬d<=6->¬bh (many:Int) d r:=λh g=>by
  cases r <;> (unfold bh at g;exact h g.1)
 have J:bh (many:Int) d r->Va wd=((V.str wd::xs).length:Int):=λg=>by
  rcases hk with⟨ns,rfl,rfl⟩|⟨ks,rfl,U⟩
  .unfold bh at g;rcases g.2.1 with⟨h,l⟩|⟨rfl,rfl⟩
   .rw[QU,Qx,l];rcases h with rfl|rfl|rfl <;> decide +kernel
   .decide +kernel
  .unfold bh at g;rw[QU,U.length];rcases g.2.1 with⟨rfl,l⟩|⟨rfl|rfl,l⟩ <;> rw[l] <;> decide +kernel
 have y:∀{N:VK}{σ:St},(∀g,H g=none->N (.ref g) (upd H g (.dK WY)))->pL σ H N:=λ{N σ} hq=>by
  intro g u;refine⟨ak,WY,rfl,by decide,?_⟩;rw[Hm,pP];exact hq g u
 have pe:=DM (X:=(eS PV P w K mg base NLG "_law_good" (ao cZ) f P3 A outer s H E).Tz);obtain⟨pp,ps,hb,Y⟩:=Li;rw[hb];generalize qH (Z9 cZ 0)=e at pe Y ⊢
 by_cases W:d<=6
 case neg=>
  refine⟨_,af (aQ (i:=3) jU.nd rfl (lc rfl) pe (Y _))
   (af (aH (PW.pt (gc (aq hZ (pv 2) ae (aw _)) (fB (aq dY (iT hu (pv 3) (P9 K (pv 1) ae) ae ⟨rfl,rfl,rfl,rfl⟩) (aG aX rfl T.t.len cr (aa (pv 1) ad)) (aw _))))) (ai (aD hR)) au) i9),?_⟩
  dsimp only[kT,tQ];refine y λg u=>?_;refine⟨_,rfl,_,_,rfl,rfl,_,rfl,?_⟩;rw[Qk (show(6:Int)<(d:Int) by lia)];exact aU (aU (z false _ ⟨λh=>(nomatch h),λh=>Py h (gd7 W)⟩ (ag u _)))
 obtain⟨m,rfl⟩:∃m,n=m+1:=⟨n-1,by lia⟩
 have D:=WW m rfl;have ah3:(V.str wd::xs).length=xs.length+1:=rfl;have nw:¬(HT.Qg (V.str wd::xs).length 0 (some 1)=0/\HT.Qg (V.str wd::xs).length (V.str wd::xs).length none=(V.str wd::xs).length):=λh=>by
  have:=h.1;unfold HT.Qg at this;simp at this
 have look:∀{N:Bool->Hp->Prop}{σ:St}{g:D'}{H1:Hp},True:=λ{N σ g H1}=>trivial;rcases hk with⟨ns,rfl,rfl⟩|⟨ks,rfl,U⟩
 .unfold bB at o;refine⟨_,af (aQ (i:=3) jU.nd rfl (lc rfl) pe (Y _))
   (af (aH (PW.pt (gc (aq hZ (pv 2) ae (aw _)) (fB (aq dY (iT hu (pv 3) (P9 K (pv 1) ae) ae ⟨rfl,rfl,rfl,rfl⟩) (aG aX rfl T.t.len cr (aa (pv 1) ad)) (aw _))))) (ai (aD hR)) au)
   (af (aH (aq (show QG _ _ (Wx K false) from fS) (P9 K (pv 1) ae) (aZ (aa av (aa av (aa av ad)))) rfl) (ai aK) au)
   (af (aH (aq bu (P9 K (pv 1) ae) av (aw _)) (ai (aD hR)) au)
   (ai (aD (iJ (cG hW ae (aG (BI rfl) rfl aaG zc (aa (cM (fD) (pv 1) (dy ae) dv) ad)) (aw _)) (iJ (cG hV (aG (BJ rfl) rfl aaH Lh (aa (cM (fD) (pv 1) (dy ae) dv) ad)) (pv 0) (aw _)) (jz (DY (cG bu (P9 K (pv 1) ae) av (aw _)) (jz (cG dY (P9 K (pv 1) ae) (P9 K (pv 1) ae) (aw _)))))))))))),?_⟩
  dsimp only[kT,tQ];refine y λg u=>?_;have s1:=ag u (.dK WY);refine⟨_,rfl,_,_,rfl,rfl,_,rfl,?_⟩;rw[Qd (show ¬(6:Int)<(d:Int) by lia)];refine az ⟨_,rfl,g,rfl,.inl ⟨_,.inl ak⟩,_,rfl,p,_,0,.str wd,rfl,rfl,s1.P6 q,bJ,_,.inl ⟨_,.inr wd,.inl ak,rfl,rfl⟩,?_⟩;rw[Hn];refine⟨_,rfl,p,_,rfl,.inr (s1.P6 q),rfl,_,rfl,?_⟩
  by_cases j:Va wd=((V.str wd::ns.map V.int).length:Int)
  case neg=>
   rw[Qd (λh=>j (V.int.inj h))];exact aU (z false _ ⟨λh=>(nomatch h),λh=>Py (J h) j⟩ s1)
  rw[Qk (by rw[j])];refine az ⟨_,rfl,p,_,0,.str wd,rfl,rfl,s1.P6 q,bJ,by show 3<=PH;decide,λp2 TD=>?_⟩;have s2:=s1.trans (ag TD (.tup [V.str "not",V.str "both",V.str "either"]));refine⟨p2,_,rfl,.inr PM.up,rfl,rfl,_,rfl,?_⟩;rw[Pr (by decide),show UN (V.str wd) [V.str "not",V.str "both",V.str "either"]=false from xX o.1 o.2.1 o.2.2];refine az ⟨_,rfl,p,_,0,.str wd,rfl,rfl,s2.P6 q,bJ,rfl,_,rfl,?_⟩;rw[QU,Qx] at j
  by_cases he:wd="even"
  .subst he;rw[Qk rfl];have h0:ns=[]:=VH.mp (by rw[show Va "even"=1 by decide +kernel] at j;lia);refine aU (z true _ ⟨λ_=>?_,λ_=>rfl⟩ s2);unfold bh;rw[h0];exact⟨W,.inr ⟨rfl,rfl⟩,λ_ h=>(nomatch h),λh=>by rcases h with h|h <;> exact Py h (by decide +kernel)⟩
  rw[Qd (λh=>he (V.str.inj h))];have G:wd="at"\/wd="ahead"\/wd="next":=by
   unfold Va at j
   by_cases c1:wd="at"\/wd="ahead"\/wd="next"\/wd="both"\/wd="either"
   .rcases c1 with h|h|h|h|h
    .exact .inl h
    .exact .inr (.inl h)
    .exact .inr (.inr h)
    .exact Py h o.2.1
    .exact Py h o.2.2
   .rw[Pr c1,Pr he,Pr o.1] at j;lia
  have l2:ns.length=2:=by
   rw[show Va wd=3 by rcases G with h|h|h <;> rw[h] <;> decide +kernel] at j;lia
  obtain⟨a,c,rfl⟩:∃a c,ns=[a,c]:=match ns,l2 with | [a,c],_=>⟨a,c,rfl⟩
  have good:bh (many:Int) d (.leaf wd [a,c])↔((0<=a/\0<=c)/\(a<many/\c<many)/\(wd="at"\/a≠c)):=by
   unfold bh;constructor
   .rintro⟨_,_,g1,g2⟩;have ha:=g1 a (by simp);have hc:=g1 c (by simp);refine⟨⟨ha.1,hc.1⟩,⟨ha.2,hc.2⟩,?_⟩;rcases G with h|h|h
    .exact .inl h
    .exact .inr λe=>g2 (.inl h) (by show some a=some c;rw[e])
    .exact .inr λe=>g2 (.inr h) (by show some a=some c;rw[e])
   .rintro⟨⟨a0,c0⟩,⟨am,cm⟩,h⟩;refine⟨W,.inl ⟨G,rfl⟩,λn hn=>?_,λhh e=>?_⟩
    .simp only[Qe,Rz,or_false] at hn;rcases hn with rfl|rfl
     .exact⟨a0,am⟩
     .exact⟨c0,cm⟩
    .rcases h with h|h
     .rw[h] at hh;rcases hh with hh|hh <;> exact Py hh (by decide +kernel)
     .exact h (UW e)
  refine az ⟨_,rfl,1,rfl,p,_,rfl,s2.P6 q,nw,λS Z=>?_⟩;rw[iG];have s3:=s2.trans (ag Z (.tup ([a,c].map V.int)));refine⟨S,[a,c],rfl,PM.up,by simp,λm1 hm1 M=>⟨_,_,rfl,rfl,_,rfl,?_⟩⟩;have mn:0<=m1↔0<=a/\0<=c:=by
   have h1:=M a (by simp);have h2:=M c (by simp);simp only[Qe,Rz,or_false] at hm1;lia
  by_cases c1:0<=m1
  case neg=>
   rw[Qd c1];exact az (z false _ ⟨λh=>(nomatch h),λh=>Py (mn.mpr (good.mp h).1) c1⟩ s3)
  rw[Qk c1];refine aU ⟨_,rfl,1,rfl,p,_,rfl,s3.P6 q,nw,λp4 hp4=>?_⟩;rw[iG];have s4:=s3.trans (ag hp4 (.tup ([a,c].map V.int)));refine⟨p4,[a,c],rfl,PM.up,by simp,λm2 hm2 L=>⟨_,rfl,_,_,rfl,rfl,_,rfl,?_⟩⟩;have mx:m2<many↔a<many/\c<many:=by
   have h1:=L a (by simp);have h2:=L c (by simp);simp only[Qe,Rz,or_false] at hm2;lia
  by_cases O:m2<many
  case neg=>
   rw[Qd O];exact az (z false _ ⟨λh=>(nomatch h),λh=>Py (mx.mpr (good.mp h).2.1) O⟩ s4)
  rw[Qk O];refine aU ⟨_,rfl,p,_,0,.str wd,rfl,rfl,s4.P6 q,bJ,rfl,_,rfl,?_⟩
  by_cases c3:wd="at"
  .rw[Qk (by rw[c3])];exact aU (z true _ ⟨λ_=>good.mpr ⟨mn.mp c1,mx.mp O,.inl c3⟩,λ_=>rfl⟩ s4)
  rw[Qd (λh=>c3 (V.str.inj h))];refine az ⟨_,rfl,p,_,1,.int a,rfl,rfl,s4.P6 q,fO,_,rfl,p,_,2,.int c,rfl,rfl,s4.P6 q,nO,rfl,?_⟩
  by_cases c4:a=c
  .rw[Qk (by rw[c4])];exact z false _ ⟨λh=>(nomatch h),λh=>((good.mp h).2.2.elim c3 λn=>n c4).elim⟩ s4
  .rw[Qd (λh=>c4 (V.int.inj h))];exact z true _ ⟨λ_=>good.mpr ⟨mn.mp c1,mx.mp O,.inr c4⟩,λ_=>rfl⟩ s4
 .unfold bB at o;obtain⟨sn,sk⟩:=o;have lk:=U.length;refine⟨_,af (aQ (i:=3) jU.nd rfl (lc rfl) pe (Y _))
   (af (aH (PW.pt (gc (aq hZ (pv 2) ae (aw _)) (fB (aq dY (iT hu (pv 3) (P9 K (pv 1) ae) ae ⟨rfl,rfl,rfl,rfl⟩) (aG aX rfl T.t.len cr (aa (pv 1) ad)) (aw _))))) (ai (aD hR)) au)
   (af (aH (aq (show QG _ _ (Wx K false) from fS) (P9 K (pv 1) ae) (aZ (aa av (aa av (aa av ad)))) rfl) (ai (aD (aG (ue rfl) rfl T.t.all Eb (aa (fT rfl (show Uk (ao cZ) NLG _ _ from by constructor <;> decide +kernel) (iK (cM (fD) (pv 1) (dy ae) dv)) (λ_ _ _ _ _ _=>iy)
     (λcl C Qy RI fp ac=>aE D hr rfl pS (aa (pv 1) (aa (pv 0) (aa (ay bT (pv 3) ae) ad)))) jU.nd) ad)))) au) i9)),?_⟩
  dsimp only[kT,tQ];refine y λg u=>?_;have s1:=ag u (.dK WY);refine⟨_,rfl,_,_,rfl,rfl,_,rfl,?_⟩;rw[Qd (show ¬(6:Int)<(d:Int) by lia)];refine az ⟨_,rfl,g,rfl,.inl ⟨_,.inl ak⟩,_,rfl,p,_,0,.str wd,rfl,rfl,s1.P6 q,bJ,_,.inl ⟨_,.inr wd,.inl ak,rfl,rfl⟩,?_⟩;rw[Hn];refine⟨_,rfl,p,_,rfl,.inr (s1.P6 q),rfl,_,rfl,?_⟩
  by_cases j:Va wd=((V.str wd::xs).length:Int)
  case neg=>
   rw[Qd (λh=>j (V.int.inj h))];exact aU (z false _ ⟨λh=>(nomatch h),λh=>Py (J h) j⟩ s1)
  rw[Qk (by rw[j])];refine az ⟨_,rfl,p,_,0,.str wd,rfl,rfl,s1.P6 q,bJ,by show 3<=PH;decide,λp2 TD=>?_⟩;have s2:=s1.trans (ag TD (.tup [V.str "not",V.str "both",V.str "either"]));refine⟨p2,_,rfl,.inr PM.up,rfl,rfl,_,rfl,?_⟩;have G:wd="not"\/wd="both"\/wd="either":=by
   rw[QU] at j;unfold Va at j
   by_cases c1:wd="at"\/wd="ahead"\/wd="next"\/wd="both"\/wd="either"
   .rcases c1 with h|h|h|h|h
    .exact Py h sn.1
    .exact Py h sn.2.1
    .exact Py h sn.2.2.1
    .exact .inr (.inl h)
    .exact .inr (.inr h)
   .rw[Pr c1,Pr sn.2.2.2] at j
    by_cases h:wd="not"
    .exact .inl h
    .rw[Pr h] at j;lia
  rw[Pr (by decide),show UN (V.str wd) [V.str "not",V.str "both",V.str "either"]=true by rcases G with h|h|h <;> rw[h] <;> decide +kernel];have R:v8 wd ks.Sn.length:=by
   rw[QU,lk] at j;rcases G with h|h|h
   .rw[h,show Va "not"=2 by decide +kernel] at j;exact .inl ⟨h,by lia⟩
   .rw[h,show Va "both"=3 by decide +kernel] at j;exact .inr ⟨.inl h,by lia⟩
   .rw[h,show Va "either"=3 by decide +kernel] at j;exact .inr ⟨.inr h,by lia⟩
  have l2:xs.length<=2:=by
   rw[lk];rcases R with h|h <;> lia
  refine aU ⟨_,rfl,1,rfl,p,_,rfl,s2.P6 q,nw,λS Z=>?_⟩;rw[iG];have s3:=s2.trans (ag Z (.tup xs));have s23:=ag Z (.tup xs);refine⟨S,rfl,⟨_,PM.up⟩,nC (K:=K) (a:=S) (xs:=xs) (λi zs H2=>ar (upd (upd (upd H g (.dK WY)) p2 (.tup [V.str "not",V.str "both",V.str "either"])) S (.tup xs)) H2/\∃bs:List Bool,zs=bs.map V.bl/\PR (λ(b:Bool) k=>b=true↔bh (many:Int) (d+1) k) bs (ks.Sn.take i)) ⟨ar.refl _,[],rfl,.nil⟩ ?_ (by rw[QA];lia) ?_ ?_⟩
  .rintro i zs H2 _ ⟨s4,bs,rfl,I⟩;refine⟨s4.P6 PM.up,?_⟩;rw[Qx,I.length,SO];exact Nat.min_le_left _ _
  .rintro i x zs H2 hx ⟨s4,bs,rfl,I⟩;obtain⟨k,Td,rx⟩:=cB U hx;have mem:=Q6 Td;refine ZI (aU ⟨_,rfl,_,rfl,_,rfl,_,_,rfl,rfl,x,k,many,d+1,by simp,rx.same (s3.trans s4),iq.mp sk k mem,by lia,by lia,λb H5 hb s5=>?_⟩);refine⟨s4.trans s5,bs++[b],by rw[UC];rfl,?_⟩;rw[cC Td];exact dG I (.cons hb .nil)
  .rintro zs H2 p5 ⟨s4,bs,rfl,I⟩ hp5;rw[lk,UV] at I;refine⟨p5,bs,rfl,PX.up,z _ _ ?_ (s3.trans (s4.trans (ag hp5 _)))⟩;have gn:bh (many:Int) d (.node wd ks)=(d<=6/\v8 wd ks.Sn.length/\Wq (many:Int) (d+1) ks):=by rw[bh]
   rw[wg I,gn,ip];exact⟨λh=>⟨W,R,h⟩,λh=>h.2.2⟩
theorem wj (F:Qh K "_law_good" "_law_good" cZ f fd)(T:Rf K mg CO)(aaG:mg "min"=none)(aaH:mg "max"=none)(b:bA K fd ["_law_many","_law_rule_here","_law_deep"] [])(m:mg "_law_good"=some (.ref f)):
  ∀n,P4 P w K mg base PV (n+1) f fd ["_law_many","_law_rule_here","_law_deep"] (mR K n)
 | 0=>sL F T aaG aaH 0 λm h=>nomatch h
 | n+1=>sL F T aaG aaH (n+1) λk h=>by
  cases h;exact⟨f,fd,wj F T aaG aaH b m n,b,F.kp,m⟩
noncomputable abbrev lQ:PD:=top 66
def mS (K:Po)(n:Nat):Sp:=λvs H Q _=>∃(a:D') (k:Int) (many d:Nat),vs=[.ref a,.int k,.int (many:Int),.int (d:Int)]/\X5 K H a/\1<=many/\many<=4/\1<=d/\d<=n/\
 ∀(v:V) (r:Bk.Rl) (H':Hp),ar H H'->cg K H' v r->Bk.Uy many r->Bk.QQ r<=d->Q v H'
noncomputable abbrev NRu:List M':=["_law_script","_law_k","_law_many","_law_deep","_law_number","_law_word","_law_parts","_law_one","_law_other"]
theorem gE:QE NRu ["_law_script","_law_k","_law_many","_law_deep"] (ao lQ):={}
theorem FV:∀{r:Bk.Rl},(∀b,r≠.bs b)->PM K H p (.str (eA r)::xs)->PR (cg K H) xs (ez r)->cg K H (.ref p) r
 | .bs b,n,_,_=>Py rfl (n b)
 | .Qb _,_,q,.cons h .nil=>⟨p,_,rfl,q,h⟩
 | .both _ _,_,q,.cons h (.cons h' .nil)=>⟨p,_,_,rfl,q,h,h'⟩
 | .either _ _,_,q,.cons h (.cons h' .nil)=>⟨p,_,_,rfl,q,h,h'⟩
theorem DN:∀{r:Bk.Rl},(∀b,r≠.bs b)->(∀s∈ez r,Bk.Uy many s)->Bk.Uy many r
 | .bs b,n,_=>Py rfl (n b)
 | .Qb r,_,h=>h r (by simp[ez])
 | .both _ _,_,h=>⟨h _ (by simp[ez]),h _ (by simp[ez])⟩
 | .either _ _,_,h=>⟨h _ (by simp[ez]),h _ (by simp[ez])⟩
theorem DQ:∀{r:Bk.Rl},(∀b,r≠.bs b)->(∀s∈ez r,Bk.QQ s<=n)->Bk.QQ r<=n+1
 | .bs b,n,_=>Py rfl (n b)
 | .Qb r,_,h=>Zc (h r (by simp[ez]))
 | .both _ _,_,h=>Zc (Nat.max_le.mpr ⟨h _ (by simp[ez]),h _ (by simp[ez])⟩)
 | .either _ _,_,h=>Zc (Nat.max_le.mpr ⟨h _ (by simp[ez]),h _ (by simp[ez])⟩)
theorem sM (F:Qh K "_law_rule" "_law_rule" lQ f fd)(T:Rf K mg CO)(WM:Df P w K mg base PV 2 "_law_mix" ["_law_script","_law_k"] (pI K))(n:Nat)(WW:∀m,n=m+1->Df P w K mg base PV (m+3) "_law_rule" ["_law_script","_law_k","_law_many","_law_deep"] (mS K m)):P4 P w K mg base PV (n+3) f fd ["_law_script","_law_k","_law_many","_law_deep"] (mS K n):=by
 refine F.ok gE (λvs H Q E h=>?_) (λP3 A outer s H vs Q E U h=>?_)
 .obtain⟨a,k,many,d,rfl,_⟩:=h;rfl
 obtain⟨a,k,many,d,rfl,W,m1,m4,L,dn,z⟩:=h;cases n with
 | zero=>lia
 | succ n=>
 have D:=WW n rfl;refine⟨_,af (aQ (i:=4) gE.nd rfl (lc rfl) (aE WM (U.mono (by lia)) rfl pS (aa (pv 0) (aa (pv 1) ad))))
  (af (aH (PW.pt (jy (aq hZ (pv 3) ae (aw _)) (ix (aq hZ (ay bD (pv 4) ae) ae (aw _)))))
   (af (aQ (i:=5) gE.nd rfl (lc rfl) (cI bL (bC (aa av (aa av (aa av ad)))) (ay bD (ay cS (pv 4) ae) ae) (λ_ _=>rfl)))
   (af (qk (i0:=6) gE.nd rfl (lc rfl) rfl (show Uk (ao lQ) NRu _ _ from by constructor <;> decide +kernel) (eQ rfl T.t.range (aa (ay bT ae (bX zS rfl T.t.int Ea (aa (cG dY (pv 5) av (aw _)) ad))) ad))
    (λ_ _ _ _ _ _=>iy)
    (λcl C Qy RI fp ac=>aE D U rfl pS (aa (pv 1) (aa (ay bT (ay bT (ay ou ae (pv 2)) ae) (pv 0)) (aa (pv 3) (aa (ay oo (pv 4) ae) ad))))) rfl)
   (ai (aD (ay gv (aZ (aa (pv 5) ad)) (bX gZ rfl T.t.tuple fU (aa (pv 6) ad))))))) au)
  (af (aQ (i:=7) gE.nd rfl (lc rfl) (ay bD (ay cS (pv 4) ae) (pv 2)))
  (af (aQ (i:=8) gE.nd rfl (lc rfl) (ay bD (ay cS (pv 4) ae) (pv 2)))
  (af (aQ (i:=5) gE.nd rfl (lc rfl) (cI bL (bC (aa av (aa av (aa av (aa av ad))))) (ay bD (ay cS (pv 4) ae) ae) (λ_ _=>rfl)))
  (af (aH (PW.pt (gc (aq bu (pv 5) av (aw _)) (fB (PW.pt (jy (aq dY (pv 5) av (aw _)) (ix (aq bu (pv 7) (pv 8) (aw _)))))))) (ai (aD (aZ (aa av ad)))) au)
  (ai (aD (aZ (aa (pv 5) (aa (pv 7) (aa (pv 8) ad))))))))))),?_⟩
 refine⟨_,rfl,_,rfl,a,k,rfl,W,λm m0 mm=>?_⟩;refine⟨_,rfl,_,_,rfl,rfl,_,rfl,?_⟩;refine iO (λc1=>⟨_,rfl,_,_,rfl,rfl,by show(0:Int)<3;decide,_,_,rfl,rfl,_,rfl,iO (λc2=>?wide) (λ_=>?base)⟩) (λ_=>az ?ahT)
 case wide=>
  have d2:2<=d:=by
   have:=Wb c1;lia
  refine⟨by show 3<=PH;decide,λh0 y=>?_⟩;have s1:=ag y (.lst [V.str "not",V.str "both",V.str "either"]);have i0:=Wf (m / 3) (show(3:Int)≠0 by decide);have X:=Wa (m / 3) (show(0:Int)<3 by decide);obtain⟨word,cnt,hat,ZF,ahE,hk⟩:∃(word:M') (cnt:Nat),SJ [V.str "not",V.str "both",V.str "either"] (m / 3 % 3)=some (V.str word)/\(cnt=1\/cnt=2)/\(1:Int)+(if (!decide (V.str word=V.str "not"))=true then 1 else 0)=(cnt:Int)/\∀rs:List Bk.Rl,rs.length=cnt->∃r,ez r=rs/\eA r=word/\∀b,r≠.bs b:=by
   have Y:m / 3 % 3=0\/m / 3 % 3=1\/m / 3 % 3=2:=by lia
   rcases Y with h|h|h
   .exact⟨"not",1,by rw[h];rfl,.inl rfl,by decide +kernel,λrs c=>match rs,c with | [r],_=>⟨.Qb r,rfl,rfl,λb e=>nomatch e⟩⟩
   .exact⟨"both",2,by rw[h];rfl,.inr rfl,by decide +kernel,λrs c=>match rs,c with | [r,j],_=>⟨.both r j,rfl,rfl,λb e=>nomatch e⟩⟩
   .exact⟨"either",2,by rw[h];rfl,.inr rfl,by decide +kernel,λrs c=>match rs,c with | [r,j],_=>⟨.either r j,rfl,rfl,λb e=>nomatch e⟩⟩
  refine⟨_,rfl,_,_,rfl,rfl,⟨by decide,by decide⟩,_,_,rfl,rfl,by show(0:Int)<3;decide,h0,_,_,_,rfl,rfl,PX.up,hat,?_⟩;refine⟨_,rfl,rfl,.inr ⟨_,rfl,_,_,rfl,rfl,_,rfl,?_⟩⟩;rw[ahE];refine⟨by lia,by lia,?_⟩;refine iQ (lo:=0) (n:=((cnt:Int)).toNat) (λi g J=>ar (upd H h0 (.lst [V.str "not",V.str "both",V.str "either"])) J/\∃rs:List Bk.Rl,rs.length=i/\PR (cg K J) g rs/\∀r∈rs,Bk.Uy many r/\Bk.QQ r+1<=d) ⟨ar.refl _,[],rfl,.nil,λ_ h=>nomatch h⟩ ?_ (by rw[QA];lia) ?_ ?_
  .rintro i g J _ ⟨_,rs,c,I,_⟩;rw[I.length,c];exact P1 _
  .rintro i g J hi ⟨s2,rs,c,I,u⟩;refine ZI (aU ⟨_,rfl,_,rfl,_,_,rfl,rfl,.inl ⟨by decide,by decide⟩,_,_,rfl,rfl,_,rfl,_,_,rfl,rfl,_,rfl,_,rfl,_,_,rfl,rfl,?_⟩);refine⟨a,_,many,d-1,by rw[show((d-1:Nat):Int)=(d:Int)-1 by lia],W.same (s1.trans s2),m1,m4,by lia,by lia,λv r H3 s3 rv ok hh=>?_⟩;refine⟨s2.trans s3,rs++[r],by rw[Rt,c];rfl,dG (bf (λ_ _ z=>z.same s3) I) (.cons rv .nil),λj YO=>?_⟩;rcases QW.mp YO with h|h
   .exact u j h
   .rw[Ri.mp h];exact⟨ok,by lia⟩
  .rintro g J p ⟨s2,rs,c,I,u⟩ hp;rw[UT] at c;obtain⟨r,R,ew,nb⟩:=hk rs c;have s3:=ag hp (.lst g);have S:g.length=cnt:=by rw[I.length,c]
   refine⟨_,rfl,by show 1<=PH;decide,λt1 Z5=>?_⟩;have s4:=ag Z5 (.tup [V.str word]);refine⟨_,rfl,p,g,rfl,.inl ⟨PX.of (s4 _ _ ak),λt2 WQ=>?_⟩⟩;have s5:=ag WQ (.tup g);refine⟨t1,t2,[V.str word],g,rfl,rfl,s5.P6 PM.up,PM.up,by simp,by rw[QA];show 1+g.length<=_;lia,λe=>?_,λ_ p4 O=>?_⟩
   .rw[e] at S;exfalso;have:0=cnt:=S;lia
   .have s6:=ag O (.tup ([V.str word]++g));refine z _ r _ (s1.trans (s2.trans (s3.trans (s4.trans (s5.trans s6))))) (FV nb (xs:=g) (by rw[ew];exact PM.up) (by rw[R];exact bf (λ_ _ z=>z.same (s3.trans (s4.trans (s5.trans s6)))) I)) (DN nb λj h=>(u j (R▸h)).1) ?_;have:=DQ nb (n:=d-1) λj h=>by have:=(u j (R▸h)).2;lia
    lia
 all_goals
  have i0:=Wf (m / 16) (show(many:Int)≠0 by lia);have X:=Wa (m / 16) (show(0:Int)<(many:Int) by lia);have j0:=Wf (m / 256) (show(many:Int)≠0 by lia);have j1:=Wa (m / 256) (show(0:Int)<(many:Int) by lia);obtain⟨o,ho⟩:∃o:Nat,m / 16 % (many:Int)=(o:Int):=⟨(m / 16 % (many:Int)).toNat,by lia⟩
  obtain⟨q,hq⟩:∃q:Nat,m / 256 % (many:Int)=(q:Int):=⟨(m / 256 % (many:Int)).toNat,by lia⟩
  rw[ho] at i0 X;rw[hq] at j0 j1;have M:o<many:=by lia
  have N:q<many:=by lia
  refine⟨_,rfl,_,_,rfl,rfl,⟨by decide,by decide⟩,_,rfl,_,_,rfl,rfl,by show(0:Int)<(many:Int);lia,?_⟩;refine⟨_,rfl,_,_,rfl,rfl,⟨by decide,by decide⟩,_,rfl,_,_,rfl,rfl,by show(0:Int)<(many:Int);lia,?_⟩;dsimp only;rw[ho,hq];refine⟨by show 4<=PH;decide,λh0 y=>?_⟩;have s1:=ag y (.lst [V.str "at",V.str "ahead",V.str "next",V.str "even"]);have k0:=Wf (m / 4096) (show(4:Int)≠0 by decide);have k1:=Wa (m / 4096) (show(0:Int)<4 by decide);have Z:m / 4096 % 4=0\/m / 4096 % 4=1\/m / 4096 % 4=2\/m / 4096 % 4=3:=by lia
  have ev:∀(t:D'),(upd H h0 (.lst [V.str "at",V.str "ahead",V.str "next",V.str "even"])) t=none->Q (.ref t) (upd (upd H h0 (.lst [V.str "at",V.str "ahead",V.str "next",V.str "even"])) t (.tup [V.str "even"])):=λt G=>z _ (.bs .Sv) _ (s1.trans (ag G _)) ⟨t,rfl,PM.up⟩ ⟨trivial,by intro h;cases h⟩ L;have e1:decide (V.str "at"=V.str "even")=false:=by decide +kernel
  have e2:decide (V.str "ahead"=V.str "even")=false:=by decide +kernel
  have e3:decide (V.str "next"=V.str "even")=false:=by decide +kernel
  have e4:decide (V.str "at"=V.str "at")=true:=by decide +kernel
  have e5:decide (V.str "ahead"=V.str "at")=false:=by decide +kernel
  have e6:decide (V.str "next"=V.str "at")=false:=by decide +kernel
  have e7:decide (V.str "even"=V.str "even")=true:=by decide +kernel
  refine⟨_,rfl,_,_,rfl,rfl,⟨by decide,by decide⟩,_,_,rfl,rfl,by show(0:Int)<4;decide,?_⟩;show fI _ (V.ref h0) (V.int (m / 4096 % 4)) _ _;rcases Z with h|h|h|h <;> rw[h]
  .refine⟨h0,_,0,.str "at",rfl,rfl,PX.up,rfl,_,rfl,rfl,_,rfl,?_⟩;rw[e1];refine az ⟨_,rfl,rfl,_,rfl,?_⟩;rw[e4];refine az (az ⟨_,rfl,_,rfl,_,rfl,by show 3<=PH;decide,λt G=>?_⟩);exact z _ (.bs (.at_ o q)) _ (s1.trans (ag G _)) ⟨t,rfl,PM.up⟩ ⟨⟨M,N⟩,by intro h;cases h⟩ L
  .refine⟨h0,_,1,.str "ahead",rfl,rfl,PX.up,rfl,_,rfl,rfl,_,rfl,?_⟩;rw[e2];refine az ⟨_,rfl,rfl,_,rfl,?_⟩;rw[e5];refine aU ⟨_,rfl,_,rfl,rfl,_,rfl,?_⟩;rw[cT]
   by_cases x:o=q
   .rw[Qk x];exact aU ⟨by show 1<=PH;decide,ev⟩
   .rw[Qd x];refine az ⟨_,rfl,_,rfl,_,rfl,by show 3<=PH;decide,λt G=>?_⟩;exact z _ (.bs (.ahead o q)) _ (s1.trans (ag G _)) ⟨t,rfl,PM.up⟩ ⟨⟨M,N,x⟩,by intro h;cases h⟩ L
  .refine⟨h0,_,2,.str "next",rfl,rfl,PX.up,rfl,_,rfl,rfl,_,rfl,?_⟩;rw[e3];refine az ⟨_,rfl,rfl,_,rfl,?_⟩;rw[e6];refine aU ⟨_,rfl,_,rfl,rfl,_,rfl,?_⟩;rw[cT]
   by_cases x:o=q
   .rw[Qk x];exact aU ⟨by show 1<=PH;decide,ev⟩
   .rw[Qd x];refine az ⟨_,rfl,_,rfl,_,rfl,by show 3<=PH;decide,λt G=>?_⟩;exact z _ (.bs (.next o q)) _ (s1.trans (ag G _)) ⟨t,rfl,PM.up⟩ ⟨⟨M,N,x⟩,by intro h;cases h⟩ L
  .refine⟨h0,_,3,.str "even",rfl,rfl,PX.up,rfl,_,rfl,rfl,_,rfl,?_⟩;rw[e7];exact aU (aU ⟨by show 1<=PH;decide,ev⟩)
theorem wm (F:Qh K "_law_rule" "_law_rule" lQ f fd)(T:Rf K mg CO)(WM:Df P w K mg base PV 2 "_law_mix" ["_law_script","_law_k"] (pI K))(b:bA K fd ["_law_script","_law_k","_law_many","_law_deep"] [])(m:mg "_law_rule"=some (.ref f)):∀n,P4 P w K mg base PV (n+3) f fd ["_law_script","_law_k","_law_many","_law_deep"] (mS K n)
 | 0=>sM F T WM 0 λm h=>nomatch h
 | n+1=>sM F T WM (n+1) λk h=>by
  cases h;exact⟨f,fd,wm F T WM b m n,b,F.kp,m⟩
noncomputable abbrev kL:PD:=top 69
noncomputable def Ra.V6:List Rv->Ra
 | []=>.nil
 | k::ks=>.cons k (Ra.V6 ks)
theorem Ra.ae8:∀l:List Rv,(Ra.V6 l).Sn=l
 | []=>rfl
 | k::l=>by rw[Ra.V6,Ra.Sn,Ra.ae8 l]
noncomputable def toV:Bk.Rl->Rv
 | .bs b=>.leaf (cL b) ((zp b).map λn:Nat=>(n:Int))
 | .Qb r=>.node "not" (.cons (toV r) .nil)
 | .both r s=>.node "both" (.cons (toV r) (.cons (toV s) .nil))
 | .either r s=>.node "either" (.cons (toV r) (.cons (toV s) .nil))
theorem R3.of:∀{l:List Rv}{xs:List V},PR (QV K H) xs l->R3 K H xs (Ra.V6 l)
 | _,_,.nil=>by unfold Ra.V6 R3;rfl
 | _,_,.cons h t=>by
  unfold Ra.V6 R3;exact⟨_,_,rfl,h,R3.of t⟩
theorem eI (q:PM K H p (.str wd::xs))(h:PR (QV K H) xs l):QV K H (.ref p) (.node wd (Ra.V6 l)):=by
 unfold QV;exact⟨p,xs,rfl,q,R3.of h⟩
theorem cy (q:PM K H p (.str wd::ns.map V.int)):QV K H (.ref p) (.leaf wd ns):=by
 unfold QV;exact⟨p,rfl,q⟩
theorem dL (h:eZ wd)(hl:∀k∈l,bB k):bB (.node wd (Ra.V6 l)):=by
 unfold bB;exact⟨h,iq.mpr (by rw[Ra.ae8];exact hl)⟩
theorem gF:∀{r:Bk.Rl}{v:V},cg K H v r->QV K H v (toV r)
 | .bs b,_,⟨p,e,q⟩=>by
  subst e;rw[vS] at q;refine cy ?_;rw[Yi];exact q
 | .Qb r,_,⟨p,x,e,q,h⟩=>by
  subst e;exact eI (l:=[toV r]) q (.cons (gF h) .nil)
 | .both r s,_,⟨p,x,y,e,q,h,h'⟩=>by
  subst e;exact eI (l:=[toV r,toV s]) q (.cons (gF h) (.cons (gF h') .nil))
 | .either r s,_,⟨p,x,y,e,q,h,h'⟩=>by
  subst e;exact eI (l:=[toV r,toV s]) q (.cons (gF h) (.cons (gF h') .nil))
theorem ir:∀b:Bk.Bs,jT (cL b)
 | .free=>(by decide +kernel:("free":M')≠"not"/\("free":M')≠"both"/\("free":M')≠"either")
 | .at_ _ _=>(by decide +kernel:("at":M')≠"not"/\("at":M')≠"both"/\("at":M')≠"either")
 | .ahead _ _=>(by decide +kernel:("ahead":M')≠"not"/\("ahead":M')≠"both"/\("ahead":M')≠"either")
 | .next _ _=>(by decide +kernel:("next":M')≠"not"/\("next":M')≠"both"/\("next":M')≠"either")
 | .Sv=>(by decide +kernel:("even":M')≠"not"/\("even":M')≠"both"/\("even":M')≠"either")
theorem qI:eZ "not":=by unfold eZ;decide +kernel
theorem wn:eZ "both":=by unfold eZ;decide +kernel
theorem kM:eZ "either":=by unfold eZ;decide +kernel
theorem FW:eZ "nor":=by unfold eZ;decide +kernel
theorem eB:∀r:Bk.Rl,bB (toV r)
 | .bs b=>by unfold toV bB;exact ir b
 | .Qb r=>dL (l:=[toV r]) qI (by intro k c;rw[Ri.mp c];exact eB r)
 | .both r s=>dL (l:=[toV r,toV s]) wn (by
   intro k c;simp only[Qe,Rz,or_false] at c;rcases c with rfl|rfl
   .exact eB r
   .exact eB s)
 | .either r s=>dL (l:=[toV r,toV s]) kM (by
   intro k c;simp only[Qe,Rz,or_false] at c;rcases c with rfl|rfl
   .exact eB r
   .exact eB s)
theorem xZ (h:PR (cg K H) xs l):PR (QV K H) xs (l.map toV):=by
 induction h with
 | nil=>exact .nil
 | cons h _ b=>exact .cons (gF h) b
theorem Lk (x)(xs):cq (x::xs) none (some 1)=[x]:=by
 unfold cq HT.Qg;simp
theorem Ll (x y)(xs):cq (x::y::xs) (some 2) none=xs:=by
 unfold cq HT.Qg;simp
theorem Lm (x y)(xs):cq (x::y::xs) none (some 2)=[x,y]:=by
 unfold cq HT.Qg;simp
theorem Ln (x y)(xs):cq (x::y::xs) none (some (-1))=x::(y::xs).dropLast:=by
 unfold cq HT.Qg;simp[List.dropLast_eq_take];rw[show((-1:Int)+((xs.length:Int)+1+1)).toNat=xs.length+1 by lia,ſ]
theorem j3 {α β:Type}{R:α->β->Prop}:∀{xs:List α}{ys:List β},PR R xs ys->PR R xs.dropLast ys.dropLast
 | _,_,.nil=>.nil
 | _,_,.cons _ .nil=>.nil
 | _,_,.cons h (.cons h' t)=>.cons h (j3 (.cons h' t))
theorem DR:∀{r:Bk.Rl},(∀b,r≠.bs b)->eZ (eA r)/\UN (V.str (eA r)) [V.str "not",V.str "both",V.str "either"]=true
 | .bs b,n=>Py rfl (n b)
 | .Qb _,_=>⟨qI,(by decide +kernel:UN (V.str "not") [V.str "not",V.str "both",V.str "either"]=true)⟩
 | .both _ _,_=>⟨wn,(by decide +kernel:UN (V.str "both") [V.str "not",V.str "both",V.str "either"]=true)⟩
 | .either _ _,_=>⟨kM,(by decide +kernel:UN (V.str "either") [V.str "not",V.str "both",V.str "either"]=true)⟩
theorem DS:∀{r:Bk.Rl},(∀b,r≠.bs b)->∃k ks,ez r=k::ks/\ks.length<=1
 | .bs b,n=>Py rfl (n b)
 | .Qb r,_=>⟨r,[],rfl,by simp⟩
 | .both r s,_=>⟨r,[s],rfl,by simp⟩
 | .either r s,_=>⟨r,[s],rfl,by simp⟩
theorem pM {l:List Bk.Rl}:∀k∈l.map toV,bB k:=λk b=>by
 obtain⟨r,_,rfl⟩:=Qs.mp b;exact eB r
theorem DT:jT "even":=ir .Sv
theorem V7:bB (.leaf (cL b) ns):=by
 unfold bB;exact ir b
theorem FX:bB (.leaf "odd" ns):=by
 unfold bB jT;decide +kernel
theorem FY:bB (.leaf "" ns):=by
 unfold bB jT;decide +kernel
def jk (K:Po)(n:Nat):Sp:=λvs H Q _=>∃(v:V) (r:Bk.Rl) (many:Nat) (num:Int),vs=[v,.int (many:Int),.int num]/\cg K H v r/\Bk.Uy many r/\Bk.QQ r<=n/\0<=num/\∀(v':V) (r':Rv) (H':Hp),ar H H'->QV K H' v' r'->bB r'->Q v' H'
noncomputable abbrev NSp:List M':=["_law_rule_here","_law_many","_law_number","_law_bad"]
theorem sP:QE NSp ["_law_rule_here","_law_many","_law_number"] (ao kL):={}
theorem nv (F:Qh K "_law_spoilt" "_law_spoilt" kL f fd)(n:Nat)(WW:∀m,n=m+1->Df P w K mg base PV (m+1) "_law_spoilt" ["_law_rule_here","_law_many","_law_number"] (jk K m)):P4 P w K mg base PV (n+1) f fd ["_law_rule_here","_law_many","_law_number"] (jk K n):=by
 refine F.ok sP (λvs H Q E h=>?_) (λP3 A outer s H vs Q E hr h=>?_)
 .obtain⟨v,r,many,num,rfl,_⟩:=h;rfl
 obtain⟨v,r,many,num,rfl,ra,ok,hn,h0,z⟩:=h;have hp:=xS r;cases n with
 | zero=>lia
 | succ n=>
 have D:=WW n rfl
 by_cases hb:∃b,r=.bs b
 .obtain⟨b,rfl⟩:=hb;obtain⟨p,rfl,q⟩:=ra;obtain⟨okb,nf⟩:=ok;have q0:=q;rw[vS] at q;have sw:=ir b;have nin:=xX sw.1 sw.2.1 sw.2.2
  by_cases he:b=.Sv
  .subst he;refine⟨_,af (aH (aq (show QG _ _ (Wx K false) from fS) (P9 K (pv 0) ae) (aZ (aa av (aa av (aa av ad)))) rfl) (af aK (ai aK)) au)
    (af (aH (aq (xY hr.Yp) (pv 0) (aZ (aa av ad)) (aw _))
     (ai (aD (cI bL (bC (aa (aZ (aa av ad)) (aa (aZ (aa av (aa ae ad))) (aa (aZ (aa av (aa ae (aa (pv 1) ad)))) (aa (aZ (aa av (aa ae (aa ae ad)))) (aa (aZ (aa av (aa (lW jB ae) (aa ae ad)))) ad)))))) (ay bD (pv 2) ae) (λ_ _=>rfl)))) au) i9),?_⟩
   refine⟨_,rfl,p,_,0,.str (cL .Sv),rfl,rfl,q,bJ,by show 3<=PH;decide,λt TD=>?_⟩;have s2:=ag TD (.tup [V.str "not",V.str "both",V.str "either"]);refine⟨t,_,rfl,.inr PM.up,rfl,rfl,_,rfl,?_⟩;rw[Pr (by decide),nin];refine az ⟨_,rfl,by show 1<=PH;decide,λg J=>?_⟩;have s3:=s2.trans (ag J (.tup [V.str "even"]));have u3:PM K (upd (upd H t (.tup [V.str "not",V.str "both",V.str "either"])) g (.tup [V.str "even"])) g [V.str "even"]:=PM.up;have u:=s3.P6 q0;generalize (upd (upd H t (.tup [V.str "not",V.str "both",V.str "either"])) g (.tup [V.str "even"]))=H3 at s3 u u3 ⊢;refine⟨p,g,[V.str "even"],[V.str "even"],rfl,rfl,u,u3,rfl,rfl,_,rfl,aU ?_⟩;refine⟨by show 1<=PH;decide,λa0 h0=>?_⟩;have t0:=ag h0 (.tup [V.str "odd"]);refine⟨by show 2<=PH;decide,λa1 h1=>?_⟩;have Z:=ag h1 (.tup [V.str "even",V.int 1]);refine⟨_,rfl,by show 3<=PH;decide,λa2 h2=>?_⟩;have t2:=ag h2 (.tup [V.str "at",V.int 0,V.int (many:Int)]);refine⟨by show 3<=PH;decide,λa3 h3=>?_⟩;have X:=ag h3 (.tup [V.str "next",V.int 0,V.int 0]);refine⟨_,rfl,by show 3<=PH;decide,λa4 h4=>?_⟩;have O:=ag h4 (.tup [V.str "ahead",V.int (-1),V.int 0]);refine⟨by show 5<=PH;decide,λI h5=>?_⟩;have Y:=ag h5 (.lst [V.ref a0,V.ref a1,V.ref a2,V.ref a3,V.ref a4]);refine⟨_,rfl,_,_,rfl,rfl,by show(0:Int)<5;decide,?_⟩;show fI _ (V.ref I) (V.int (num % 5)) _ _;have U:=t2.trans (X.trans (O.trans Y));have d:=s3.trans (t0.trans (Z.trans U));have Zy:num % 5=0\/num % 5=1\/num % 5=2\/num % 5=3\/num % 5=4:=by lia
   rcases Zy with h|h|h|h|h <;> rw[h]
   .exact⟨I,_,0,_,rfl,rfl,PX.up,rfl,z _ _ _ d (cy (ns:=[]) ((Z.trans U).P6 PM.up)) FX⟩
   .exact⟨I,_,1,_,rfl,rfl,PX.up,rfl,z _ _ _ d (cy (ns:=[1]) (U.P6 PM.up)) (V7 (b:=.Sv))⟩
   .exact⟨I,_,2,_,rfl,rfl,PX.up,rfl,z _ _ _ d (cy (ns:=[0,(many:Int)]) ((X.trans (O.trans Y)).P6 PM.up)) (V7 (b:=.at_ 0 0))⟩
   .exact⟨I,_,3,_,rfl,rfl,PX.up,rfl,z _ _ _ d (cy (ns:=[0,0]) ((O.trans Y).P6 PM.up)) (V7 (b:=.next 0 0))⟩
   .exact⟨I,_,4,_,rfl,rfl,PX.up,rfl,z _ _ _ d (cy (ns:=[-1,0]) (Y.P6 PM.up)) (V7 (b:=.ahead 0 0))⟩
  .clear sw;refine⟨_,af (aH (aq (show QG _ _ (Wx K false) from fS) (P9 K (pv 0) ae) (aZ (aa av (aa av (aa av ad)))) rfl) (af aK (ai aK)) au)
    (af (aH (aq (xY hr.Yp) (pv 0) (aZ (aa av ad)) (aw _))
     (ai aK) au)
    (af (aQ (i:=3) sP.nd rfl (lc rfl) (bC (aa (cM (fD) (pv 0) dv (dy ae)) (aa (ay gv (pv 0) (aZ (aa ae ad)))
     (aa (aZ (aa (P9 K (pv 0) ae) (aa (pv 1) (aa (P9 K (pv 0) ae) ad)))) (aa (aZ (aa (P9 K (pv 0) ae) (aa (P9 K (pv 0) ae) (aa (lW jB ae) ad)))) (aa (aZ (aa (P9 K (pv 0) ae) (aa (P9 K (pv 0) ae) (aa (P9 K (pv 0) ae) ad)))) ad)))))))
    (ai (aD (cI bL (ay tZ (pv 3) (bC (aa (aZ (aa av (aa ae (aa ae ad)))) ad))) (ay bD (pv 2) ae) (λ_ _=>rfl)))))),?_⟩
   refine⟨_,rfl,p,_,0,.str (cL b),rfl,rfl,q,bJ,by show 3<=PH;decide,λt TD=>?_⟩;have s2:=ag TD (.tup [V.str "not",V.str "both",V.str "either"]);refine⟨t,_,rfl,.inr PM.up,rfl,rfl,_,rfl,?_⟩;rw[Pr (by decide),nin];refine az ⟨_,rfl,by show 1<=PH;decide,λg J=>?_⟩;have s3:=s2.trans (ag J (.tup [V.str "even"]));have u3:PM K (upd (upd H t (.tup [V.str "not",V.str "both",V.str "either"])) g (.tup [V.str "even"])) g [V.str "even"]:=PM.up;have u:=s3.P6 q0;generalize (upd (upd H t (.tup [V.str "not",V.str "both",V.str "either"])) g (.tup [V.str "even"]))=H3 at s3 u u3 ⊢;obtain⟨a,c,eb⟩:∃a c:Nat,VD b=[.str (cL b),.int (a:Int),.int (c:Int)]:=by
    cases b with
    | free=>exact Py rfl nf
    | Sv=>exact Py rfl he
    | at_ a c=>exact⟨a,c,rfl⟩
    | ahead a c=>exact⟨a,c,rfl⟩
    | next a c=>exact⟨a,c,rfl⟩
   rw[eb] at u;refine⟨p,g,_,[V.str "even"],rfl,rfl,u,u3,rfl,rfl,_,rfl,az ?_⟩;refine⟨_,rfl,2,rfl,p,_,rfl,u,by unfold HT.Qg;simp,λa0 h0=>?_⟩;rw[Lm];have t0:=ag h0 (.tup [V.str (cL b),V.int (a:Int)]);refine⟨_,rfl,by show 1<=PH;decide,λb1 g1=>?_⟩;have r1:=ag g1 (.tup [V.int 0]);refine⟨p,b1,_,_,rfl,rfl,(t0.trans r1).P6 u,PM.up,by simp,by show 4<=PH;decide,λe=>(nomatch e),λ_ a1 h1=>?_⟩;have Z:=r1.trans (ag h1 (.tup ([V.str (cL b),V.int (a:Int),V.int (c:Int)]++[V.int 0])));have q1:=(t0.trans Z).P6 u;refine⟨_,rfl,p,_,0,_,rfl,rfl,q1,bJ,_,rfl,_,rfl,p,_,2,_,rfl,rfl,q1,nO,by show 3<=PH;decide,λa2 h2=>?_⟩;have t2:=ag h2 (.tup [V.str (cL b),V.int (many:Int),V.int (c:Int)]);have j:=t2.P6 q1;refine⟨_,rfl,p,_,0,_,rfl,rfl,j,bJ,_,rfl,p,_,1,_,rfl,rfl,j,fO,_,rfl,by show 3<=PH;decide,λa3 h3=>?_⟩;have X:=ag h3 (.tup [V.str (cL b),V.int (a:Int),V.int (-1)]);have q4:=X.P6 j;refine⟨_,rfl,p,_,0,_,rfl,rfl,q4,bJ,_,rfl,p,_,1,_,rfl,rfl,q4,fO,_,rfl,p,_,1,_,rfl,rfl,q4,fO,by show 3<=PH;decide,λa4 h4=>?_⟩;have O:=ag h4 (.tup [V.str (cL b),V.int (a:Int),V.int (a:Int)]);refine⟨by show 5<=PH;decide,λI h5=>?_⟩;have Y:=ag h5 (.lst [V.ref a0,V.ref a1,V.ref a2,V.ref a3,V.ref a4]);refine⟨_,rfl,by show 3<=PH;decide,λa6 h6=>?_⟩;have t6:=ag h6 (.tup [V.str "",V.int 0,V.int 0]);refine⟨by show 1<=PH;decide,λl7 h7=>?_⟩;have t7:=ag h7 (.lst [V.ref a6]);refine⟨I,l7,_,_,rfl,rfl,(t6.trans t7) _ _ ak,ak,by show 6<=PH;decide,λM h8=>?_⟩;have t8:=ag h8 (.lst ([V.ref a0,V.ref a1,V.ref a2,V.ref a3,V.ref a4]++[V.ref a6]));refine⟨_,rfl,_,_,rfl,rfl,by show(0:Int)<6;decide,?_⟩;show fI _ (V.ref M) (V.int (num % 6)) _ _;have G:=Y.trans (t6.trans (t7.trans t8));have W:=t2.trans (X.trans (O.trans G));have d:=s3.trans (t0.trans (Z.trans W));have six:num % 6=0\/num % 6=1\/num % 6=2\/num % 6=3\/num % 6=4\/num % 6=5:=by lia
   rcases six with h|h|h|h|h|h <;> rw[h]
   .exact⟨M,_,0,_,rfl,rfl,PX.up,rfl,z _ _ _ d (cy (ns:=[(a:Int)]) ((Z.trans W).P6 PM.up)) V7⟩
   .exact⟨M,_,1,_,rfl,rfl,PX.up,rfl,z _ _ _ d (cy (ns:=[(a:Int),(c:Int),0]) (W.P6 PM.up)) V7⟩
   .exact⟨M,_,2,_,rfl,rfl,PX.up,rfl,z _ _ _ d (cy (ns:=[(many:Int),(c:Int)]) ((X.trans (O.trans G)).P6 PM.up)) V7⟩
   .exact⟨M,_,3,_,rfl,rfl,PX.up,rfl,z _ _ _ d (cy (ns:=[(a:Int),-1]) ((O.trans G).P6 PM.up)) V7⟩
   .exact⟨M,_,4,_,rfl,rfl,PX.up,rfl,z _ _ _ d (cy (ns:=[(a:Int),(a:Int)]) (G.P6 PM.up)) V7⟩
   .exact⟨M,_,5,_,rfl,rfl,PX.up,rfl,z _ _ _ d (cy (ns:=[0,0]) ((t7.trans t8).P6 PM.up)) FY⟩
 .have nb:∀b,r≠.bs b:=λb e=>hb ⟨b,e⟩;obtain⟨p,xs,rfl,q,pk⟩:=Br ra nb;refine⟨_,af (aH (aq (show QG _ _ (Wx K false) from fS) (P9 K (pv 0) ae) (aZ (aa av (aa av (aa av ad)))) rfl) (af (aH (aq hZ (ay bD (pv 2) ae) ae (aw _))
     (ai (aD (ay gv (ay gv (cM (fD) (pv 0) dv (dy ae)) (aZ (aa (aE D hr rfl pS (aa (P9 K (pv 0) ae) (aa (pv 1) (aa (ay cS (pv 2) ae) ad)))) ad))) (cM (fD) (pv 0) (dy ae) dv)))) au)
    (ai (aD (cI bL (bC (aa (ay gv (pv 0) (aZ (aa (aZ (aa av ad)) ad))) (aa (cM (fD) (pv 0) dv (dy (lW jB ae))) (aa (ay gv (aZ (aa av ad)) (cM (fD) (pv 0) (dy ae) dv)) ad)))) (ay bD (ay cS (pv 2) ae) ae) (λ_ _=>rfl))))) au)
   i9,?_⟩
  obtain⟨x,inw⟩:=DR nb;obtain⟨k,ks,ek,k1⟩:=DS nb;have low:=FN ok;rw[ek] at pk low;cases pk with
  | @cons y _ ys _ ry rys=>
  have yl:=rys.length;refine⟨_,rfl,p,_,0,.str (eA r),rfl,rfl,q,bJ,by show 3<=PH;decide,λt TD=>?_⟩;have s2:=ag TD (.tup [V.str "not",V.str "both",V.str "either"]);refine⟨t,_,rfl,.inr PM.up,rfl,rfl,_,rfl,?_⟩;rw[Pr (by decide),inw];have j:=s2.P6 q;generalize (upd H t (.tup [V.str "not",V.str "both",V.str "either"]))=H2 at s2 j ⊢;have sk:∀o∈ks.map toV,bB o:=pM;refine aU ⟨_,rfl,_,_,rfl,rfl,by show(0:Int)<4;decide,_,_,rfl,rfl,_,rfl,iO (λc=>?_) (λ_=>?_)⟩
  .refine⟨_,rfl,1,rfl,p,_,rfl,j,by unfold HT.Qg;simp,λg J=>?_⟩;rw[Lk];have s3:=ag J (.tup [V.str (eA r)]);refine⟨_,rfl,p,_,1,y,rfl,rfl,s3.P6 j,fO,_,rfl,_,rfl,_,_,rfl,rfl,⟨by decide,by decide⟩,?_⟩;refine⟨y,k,many,num / 4,rfl,ry.same (s2.trans s3),(low k (by simp)).1,by have:=(low k (by simp)).2;lia,by lia,λv' r' H4 s4 rv' sh'=>?_⟩;refine⟨by show 1<=PH;decide,λp5 N=>?_⟩;have s5:=ag N (.tup [v']);refine⟨g,p5,[V.str (eA r)],[v'],rfl,rfl,(s4.trans s5).P6 PM.up,PM.up,by simp,by show 2<=PH;decide,λe=>(nomatch e),λ_ p6 L=>?_⟩;have s6:=ag L (.tup ([V.str (eA r)]++[v']));have X6:=s3.trans (s4.trans (s5.trans s6));refine⟨_,rfl,2,rfl,p,_,rfl,X6.P6 j,by unfold HT.Qg;simp,λp7 R=>?_⟩;rw[Ll];have s7:=ag R (.tup ys);refine⟨p6,p7,[V.str (eA r),v'],ys,rfl,rfl,s7.P6 PM.up,PM.up,by simp,by rw[QA];show 2+ys.length<=_;lia,λe=>?_,λ_ p8 T=>?_⟩
   .have e0:ks=[]:=VH.mp (by rw[<-yl,e];rfl);exact z _ (.node (eA r) (Ra.V6 [r'])) _ (s2.trans (X6.trans s7)) (eI (s7.P6 PM.up) (.cons (rv'.same (s5.trans (s6.trans s7))) .nil)) (dL x (by intro o hk;rw[Ri.mp hk];exact sh'))
   .have s8:=ag T (.tup ([V.str (eA r),v']++ys));have YU:=s2.trans (X6.trans (s7.trans s8));refine z _ (.node (eA r) (Ra.V6 (r'::ks.map toV))) _ YU (eI PM.up (.cons (rv'.same (s5.trans (s6.trans (s7.trans s8)))) (xZ (bf (λ_ _ z=>z.same YU) rys)))) (dL x λo hk=>?_);rcases Qe.mp hk with rfl|hk
    .exact sh'
    .exact sk o hk
  .have rk:PR (QV K H2) (y::ys) ((k::ks).map toV):=xZ (bf (λ_ _ z=>z.same s2) (.cons ry rys));have S:∀o∈(k::ks).map toV,bB o:=pM;refine⟨_,rfl,by show 1<=PH;decide,λg J=>?_⟩;have s3:=ag J (.tup [V.str "even"]);refine⟨by show 1<=PH;decide,λp4 hp4=>?_⟩;have s4:=ag hp4 (.tup [V.ref g]);refine⟨p,p4,_,_,rfl,rfl,(s3.trans s4).P6 j,PM.up,by simp,by rw[QA];show ys.length+1+1+1<=_;lia,λe=>(nomatch e),λ_ p5 N=>?_⟩;have s5:=ag N (.tup (V.str (eA r)::y::ys++[V.ref g]));have X7:=s3.trans (s4.trans s5);refine⟨_,rfl,_,rfl,-1,rfl,p,_,rfl,X7.P6 j,?_,λp6 L=>?_⟩
   .unfold HT.Qg;simp;lia
   rw[Ln];have s6:=ag L (.tup (V.str (eA r)::(y::ys).dropLast));refine⟨by show 1<=PH;decide,λp7 R=>?_⟩;have s7:=ag R (.tup [V.str "nor"]);have Z':=X7.trans (s6.trans s7);refine⟨_,rfl,1,rfl,p,_,rfl,Z'.P6 j,by unfold HT.Qg;simp,λp8 T=>?_⟩;rw[iG];have s8:=ag T (.tup (y::ys));refine⟨p7,p8,[V.str "nor"],_,rfl,rfl,s8.P6 PM.up,PM.up,by simp,by rw[QA];show 1+(ys.length+1)<=_;lia,λe=>(nomatch e),λ_ p9 hp9=>?_⟩;have s9:=ag hp9 (.tup ([V.str "nor"]++y::ys));refine⟨by show 3<=PH;decide,λl1 Uu=>?_⟩;have TH:=ag Uu (.lst [V.ref p5,V.ref p6,V.ref p9]);have C:=s7.trans (s8.trans (s9.trans TH));have sA:=X7.trans (s6.trans C);have A1:=eI (((s6.trans C)).P6 PM.up) (dG (bf (λ_ _ z=>z.same sA) rk) (.cons (cy (wd:="even") (ns:=[]) ((s4.trans (s5.trans (s6.trans C))).P6 PM.up)) .nil));have A2:=eI (C.P6 PM.up) (j3 (bf (λ_ _ z=>z.same sA) rk));have A3:=eI (TH.P6 PM.up) (bf (λ_ _ z=>z.same sA) rk);have d:=s2.trans sA;have h3:num / 4 % 3=0\/num / 4 % 3=1\/num / 4 % 3=2:=by lia
   refine⟨_,rfl,_,_,rfl,rfl,⟨by decide,by decide⟩,_,_,rfl,rfl,by show(0:Int)<3;decide,?_⟩;show fI _ (V.ref l1) (V.int (num / 4 % 3)) _ _;rcases h3 with h|h|h <;> rw[h]
   .refine⟨l1,_,0,_,rfl,rfl,PX.up,rfl,z _ _ _ d A1 (dL x λo hk=>?_)⟩;rcases QW.mp hk with hk|hk
    .exact S o hk
    .rw[Ri.mp hk];unfold bB;exact DT
   .exact⟨l1,_,1,_,rfl,rfl,PX.up,rfl,z _ _ _ d A2 (dL x λo hk=>S o (List.dropLast_subset _ hk))⟩
   .exact⟨l1,_,2,_,rfl,rfl,PX.up,rfl,z _ _ _ d A3 (dL FW S)⟩
theorem pN (F:Qh K "_law_spoilt" "_law_spoilt" kL f fd)(b:bA K fd ["_law_rule_here","_law_many","_law_number"] [])(m:mg "_law_spoilt"=some (.ref f)):∀n,P4 P w K mg base PV (n+1) f fd ["_law_rule_here","_law_many","_law_number"] (jk K n)
 | 0=>nv F 0 λm h=>nomatch h
 | n+1=>nv F (n+1) λk h=>by
  cases h;exact⟨f,fd,pN F b m n,b,F.kp,m⟩
noncomputable abbrev zz:PD:=top 67
noncomputable abbrev zA:PD:=top 70
theorem FZ:SF "ValueError"=some (.type "ValueError"):=by decide +kernel
def Kd (K:Po)(mg:M'->Option G')(C:D')(x:M')(b:Bool):Prop:=∃D,mg x=some (.ref D)/\UG K (.ref C) (.ref D)=some b
structure Ref (K)(mg:M'->Option G')(C)(b0 b1 b2 b3 b4 b5 b6)(j:Nat)(word):Prop where
 k0:Kd K mg C "BadBook" b0
 k1:Kd K mg C "BadNumber" b1
 k2:Kd K mg C "BadOrder" b2
 k3:Kd K mg C "BadRule" b3
 k4:Kd K mg C "BadText" b4
 k5:Kd K mg C "BadWeights" b5
 k6:Kd K mg C "Unlike" b6
 ei:XD K C
 ve:mg "ValueError"=none
 kv:UG K (.ref C) (.type "ValueError")=some true
 cnt:[V.bl b0,V.bl b1,V.bl b2,V.bl b3,V.bl b4,V.bl b5,V.bl b6].countP (λy=>R6 y (.bl true))=1
 at_:[b0,b1,b2,b3,b4,b5,b6][j]?=some true
 bef:∀i,i<j->[b0,b1,b2,b3,b4,b5,b6][i]?=some false
 wd:SJ [V.str "book",V.str "number",V.str "order",V.str "rule",V.str "text",V.str "weights",V.str "unlike"] (j:Int)=some (.str word)
def BK (K:Po)(mg:M'->Option G'):Sp:=λvs H Q _=>(vs=[.Qb]/\Q (.str "ok") H)\/∃(e C:D') (b0 b1 b2 b3 b4 b5 b6:Bool) (j:Nat) (word:M'),vs=[.ref e]/\H e=some (lh e (.ref C))/\Ref K mg C b0 b1 b2 b3 b4 b5 b6 j word/\∀H',ar H H'->Q (.str word) H'
theorem wq:QE ["_law_kept","_law_kinds"] ["_law_kept"] (ao zz):={}
theorem F1 (F:Qh K "_law_refusal" "_law_refusal" zz f fd)(T:Rf K mg CO):P4 P w K mg base PV 1 f fd ["_law_kept"] (BK K mg):=by
 refine F.ok wq (λvs H Q E h=>?_) (λP3 A outer s H vs Q E hr h=>?_)
 .rcases h with⟨rfl,_⟩|⟨e,C,_,_,_,_,_,_,_,_,_,rfl,_⟩
  .rfl
  .rfl
 rcases h with⟨rfl,q⟩|⟨e,C,p,n,m,c,d,g,u,j,word,rfl,he,R,q⟩
 .exact⟨_,af (aH (aq zQ (pv 0) tN (aw _)) (ai (aD av)) au) (af aK (af aK (af aK (af aK (ai aK))))),⟨_,rfl,rfl,_,rfl,aU q⟩⟩
 obtain⟨D0,m0,k0⟩:=R.k0;obtain⟨D1,m1,k1⟩:=R.k1;obtain⟨D2,m2,k2⟩:=R.k2;obtain⟨D3,m3,k3⟩:=R.k3;obtain⟨Y,m4,k4⟩:=R.k4;obtain⟨D5,m5,k5⟩:=R.k5;obtain⟨Z,m6,k6⟩:=R.k6;refine⟨_,af (aH (aq zQ (pv 0) tN (aw _)) (ai (aD av)) au)
  (af (aQ (i:=1) wq.nd rfl (Q8 rfl) (bC
   (aa (aG bK rfl T.t.Tn dz (aa (pv 0) (aa (aA (v:=.ref D0) rfl m0 rfl) ad)))
   (aa (aG bK rfl T.t.Tn dz (aa (pv 0) (aa (aA (v:=.ref D1) rfl m1 rfl) ad)))
   (aa (aG bK rfl T.t.Tn dz (aa (pv 0) (aa (aA (v:=.ref D2) rfl m2 rfl) ad))) ad)))))
  (af (aQ (i:=1) wq.nd rfl (Q8 rfl) (ay tZ (pv 1) (bC
   (aa (aG bK rfl T.t.Tn dz (aa (pv 0) (aa (aA (v:=.ref D3) rfl m3 rfl) ad)))
   (aa (aG bK rfl T.t.Tn dz (aa (pv 0) (aa (aA (v:=.ref Y) rfl m4 rfl) ad)))
   (aa (aG bK rfl T.t.Tn dz (aa (pv 0) (aa (aA (v:=.ref D5) rfl m5 rfl) ad))) ad))))))
  (af (bv (gI Xj Y2 Y3 eT (pv 1) (aa (aG bK rfl T.t.Tn dz (aa (pv 0) (aa (aA (v:=.ref Z) rfl m6 rfl) ad))) ad)))
  (af (aH (PW.pt (gc (aq dY (gI Xj afZ PySem.F.type_list_count Cm (pv 1) (aa hR ad)) ae (aw _))
    (fB (cp (cz (aG bK rfl T.t.Tn dz (aa (pv 0) (aa (eE (v:=.ty "ValueError") rfl R.ve FZ rfl) ad))))))))
   (ai (aD av)) au)
  (ai (aD (cI bL (bC (aa av (aa av (aa av (aa av (aa av (aa av (aa av ad))))))))
   (gI Xj af0 PySem.F.type_list_index Cn (pv 1) (aa hR ad)) (λ_ _=>rfl)))))))),?_⟩
 have ty:∀L,ar H L->ZL K L (.ref e) (.ref C):=λL s1=>.exc (s1 _ _ he) R.ei;refine⟨_,rfl,rfl,_,rfl,az ?_⟩;refine⟨_,rfl,_,_,_,_,_,rfl,rfl,ty H (ar.refl H),k0,?_⟩;refine⟨_,rfl,_,_,_,_,_,rfl,rfl,ty H (ar.refl H),k1,?_⟩;refine⟨_,rfl,_,_,_,_,_,rfl,rfl,ty H (ar.refl H),k2,?_⟩;refine⟨by show 3<=PH;decide,λG n1=>?_⟩;have s1:=ag n1 (.lst [V.bl p,V.bl n,V.bl m]);have U:(upd H G (.lst [V.bl p,V.bl n,V.bl m])) G=some (.lst [V.bl p,V.bl n,V.bl m]):=ak;generalize (upd H G (.lst [V.bl p,V.bl n,V.bl m]))=H1 at s1 U ⊢;refine⟨_,rfl,?_⟩;refine⟨_,rfl,_,_,_,_,_,rfl,rfl,ty _ s1,k3,?_⟩;refine⟨_,rfl,_,_,_,_,_,rfl,rfl,ty _ s1,k4,?_⟩;refine⟨_,rfl,_,_,_,_,_,rfl,rfl,ty _ s1,k5,?_⟩;refine⟨by show 3<=PH;decide,λI X=>?_⟩;have s2:=s1.trans (ag X (.lst [V.bl c,V.bl d,V.bl g]));have M:=ag X (.lst [V.bl c,V.bl d,V.bl g]) _ _ U;have x:(upd H1 I (.lst [V.bl c,V.bl d,V.bl g])) I=some (.lst [V.bl c,V.bl d,V.bl g]):=ak;generalize (upd H1 I (.lst [V.bl c,V.bl d,V.bl g]))=H2 at s2 M x ⊢;refine⟨G,I,_,_,rfl,rfl,M,x,by show 6<=PH;decide,λl W=>?_⟩;have s3:=s2.trans (ag W (.lst [V.bl p,V.bl n,V.bl m,V.bl c,V.bl d,V.bl g]));have J:(upd H2 l (.lst [V.bl p,V.bl n,V.bl m,V.bl c,V.bl d,V.bl g])) l=some (.lst [V.bl p,V.bl n,V.bl m,V.bl c,V.bl d,V.bl g]):=ak;have Vy:H l=none:=s2.free W;have e6:([V.bl p,V.bl n,V.bl m]++[V.bl c,V.bl d,V.bl g])=[V.bl p,V.bl n,V.bl m,V.bl c,V.bl d,V.bl g]:=rfl;rw[e6];generalize (upd H2 l (.lst [V.bl p,V.bl n,V.bl m,V.bl c,V.bl d,V.bl g]))=H3 at s3 J ⊢;refine⟨_,rfl,.inl ⟨rfl,_,PX.of J⟩,?_⟩;refine⟨_,rfl,_,_,_,_,_,rfl,rfl,ty _ s3,k6,?_⟩;refine⟨l,_,_,rfl,rfl,J,by show 6<PH;decide,?_⟩;have e7:([V.bl p,V.bl n,V.bl m,V.bl c,V.bl d,V.bl g]++[V.bl u])=[V.bl p,V.bl n,V.bl m,V.bl c,V.bl d,V.bl g,V.bl u]:=rfl;rw[e7];have s4:ar H (upd H3 l (.lst [V.bl p,V.bl n,V.bl m,V.bl c,V.bl d,V.bl g,V.bl u])):=λb o S=>by
  rw[al (ax S Vy)];exact s3 b o S
 have D:(upd H3 l (.lst [V.bl p,V.bl n,V.bl m,V.bl c,V.bl d,V.bl g,V.bl u])) l=some (.lst [V.bl p,V.bl n,V.bl m,V.bl c,V.bl d,V.bl g,V.bl u]):=ak;generalize (upd H3 l (.lst [V.bl p,V.bl n,V.bl m,V.bl c,V.bl d,V.bl g,V.bl u]))=H4 at s4 D ⊢;refine⟨_,rfl,.inl ⟨rfl,_,PX.of D⟩,l,_,_,rfl,rfl,PX.of D,rfl,rfl,rfl,_,rfl,?_⟩;rw[R.cnt,Qk (show V.int ((1:Nat):Int)=V.int 1 from rfl)];refine az ?_;refine⟨_,rfl,_,_,_,_,_,rfl,rfl,ty _ s4,R.kv,_,rfl,az ?_⟩;refine⟨by show 7<=PH;decide,λl3 n5=>?_⟩;have s5:=ag n5 (.lst [V.str "book",V.str "number",V.str "order",V.str "rule",V.str "text",V.str "weights",V.str "unlike"]);have O:=PX.of (K:=K) (s5 _ _ D);have bm:∀i:Nat,[V.bl p,V.bl n,V.bl m,V.bl c,V.bl d,V.bl g,V.bl u][i]?=([p,n,m,c,d,g,u][i]?).map V.bl:=λi=>by
  rw[<-So];rfl
 refine⟨_,rfl,.inl ⟨rfl,_,O⟩,l,_,_,j,rfl,rfl,O,rfl,rfl,⟨.bl true,by rw[bm,R.at_];rfl,rfl⟩,λi y hi N=>?_,l3,_,_,_,rfl,rfl,PX.up,R.wd,q _ (s4.trans s5)⟩;rw[bm,R.bef i hi] at N;cases N;rfl
structure Tr (K)(mg:M'->Option G')(CE):Prop where
 kn:mg "NestError"=some (.ref CE)
 nt:W.instIn K (.ref CE) (.type "tuple")=some false
 xc:QF K CE (.type "BaseException")=some true
 cl:SQ K CE=true
theorem rvP (T:Tb H Pt Pw)(s:aO [Pt,Pw] H H')(h:QV K H x r):QV K H' x r:=QV.mono (λq=>s.RC T.soft q) r x h
theorem x8 (T:dW H P pos qual)(h:H l=some (.lst xs)):dW (upd H l (.lst ys)) P pos qual:=by
 obtain⟨d,e,n,m⟩:=T;refine⟨d,?_,n,m.imp id λ⟨c,j,f,b,g⟩=>⟨c,j,f,?_,g⟩⟩
 .rw[al (λz=>by rw[z,h] at e;cases e)];exact e
 .rw[al (λz=>by rw[z,h] at b;cases b)];exact b
theorem Tb.lst (T:Tb H Pt Pw)(h:H l=some (.lst xs)):Tb (upd H l (.lst ys)) Pt Pw:=⟨T.ne,x8 T.j h,x8 T.w h⟩
abbrev Hr (K:Po)(mg:M'->Option G')(CB:D'):Prop:=Ref K mg CB true false false false false false false 0 "book"
abbrev Hs (K:Po)(mg:M'->Option G')(CO:D'):Prop:=Ref K mg CO false false true false false false false 2 "order"
abbrev Ht (K:Po)(mg:M'->Option G')(CR:D'):Prop:=Ref K mg CR false false false true false false false 3 "rule"
def n9 (m:Int)(r:Rv)(x:M'):Prop:=(¬(1<=m/\m<=8)->x="order")/\(1<=m/\m<=8->¬bh m 1 r->x="rule")/\(1<=m/\m<=8->bh m 1 r->x="ok")
def wr (m:Int)(rs:List Bk.Pn)(f:Int)(r:Rv)(x:M'):Prop:=(¬Uz m rs f->x="book")/\(Uz m rs f->¬bh m 1 r->x="rule")/\(Uz m rs f->bh m 1 r->x="ok")
def BL (K:Po)(Pt Pw:D'):Sp:=λvs H Q _=>∃(x v:V) (r:Rv) (m m':Int) (rs:List Bk.Pn) (f:Int),vs=[.int m,x,v]/\Ul K H x m' rs f/\Dom m' rs f/\QV K H v r/\bB r/\XR m/\Tb H Pt Pw/\(1<=m/\m<=8->m<=4)/\
 (Uz m' rs f->∃(many:Nat) (os:Bk.ap),m'=many/\1<=many/\many<=4/\Bk.Q1 many os/\rs=(bx many os).1/\f=((bx many os).2:Nat))/\
 ∀(a b:M') (l:D') (H':Hp),n9 m r a->wr m' rs f r b->aO [Pt,Pw] H H'->Tb H' Pt Pw->H' l=some (.lst [.str a,.str b])->Q (.ref l) H'
noncomputable abbrev NTo:List M':=["_law_many","_law_book","_law_rule_here","_law_words","_law_way","_law_kept","e"]
theorem jV:QE NTo ["_law_many","_law_book","_law_rule_here"] (ao zA):={}
theorem F2 {P:PU}{w:Pz}{K:Po}{mg:M'->Option G'}{base:Ps}{CO:D'}{CB:D'}{CR:D'}{CE:D'}{Pt:D'}{Pw:D'}{f:D'}{fd:P5}(F:Qh K "_law_told" "_law_told" zA f fd)(T:Rf K mg CO)(E0:Tr K mg CE)(onB:QF K CB (.ref CE)=some true)(onO:QF K CO (.ref CE)=some true)(onR:QF K CR (.ref CE)=some true)(RB:Hr K mg CB)(RO:Hs K mg CO)(RR:Ht K mg CR)(WU:Df P w K mg base (QP P w) 21 "ruled" ["many","rule"] (wc K Pt Pw CO CR))(WC:Df P w K mg base (QP P w) 21 "cut" ["book","rule"] (BH K Pt Pw CB CR))(WR:Df P w K mg base PV 1 "_law_refusal" ["_law_kept"] (BK K mg)):P4 P w K mg base (QP P w) 22 f fd ["_law_many","_law_book","_law_rule_here"] (BL K Pt Pw):=by
 refine F.U5 jV (λvs H Q E h=>?_) (λX P3 A outer s H vs Q E hX hp Sl hr h=>?_)
 .obtain⟨x,v,r,m,R,rs,S,rfl,_⟩:=h;rfl
 obtain⟨x,v,r,m,R,rs,S,rfl,B,Qi,ra,sh,Ta,W,m4,hk,z⟩:=h;subst hX;refine⟨_,af (aQ (i:=3) jV.nd rfl (Q8 rfl) (bC ad))
  (af (dM (show ö _ _ _ _ from oR) rfl (eQ rfl T.t.range (aa ae ad)) (cD (i:=4) jV.nd rfl (lc rfl))
   (af (aQ (i:=5) jV.nd rfl (lc rfl) tN)
   (af (Gz rfl rfl rfl rfl rfl E0.kn E0.nt E0.xc E0.cl jV.nd (ie:=6) rfl rfl
    (λUs U6 E XQ=>ai (aH (aq bu (pv 4) ae (aw _)) (ai (bv (aE WU hr rfl XQ (aa (pv 0) (aa (pv 2) ad))))) (ai (bv (aE WC hr rfl XQ (aa (pv 1) (aa (pv 2) ad)))))))
    (λA' Us U6=>ai (aQ (i:=5) jV.nd rfl (lc rfl) (pv 6))))
   (ai (bv (gI Xj Y2 Y3 eT (pv 3) (aa (aE WR (hr.mono (by decide)) rfl pS (aa (pv 5) ad)) ad)))))))
  (ai (aD (pv 3)))),?_⟩
 refine⟨by show 0<=PH;decide,λl Y=>?_⟩;refine⟨2,rfl,by decide,by decide,kU (lo:=0) (n:=(2:Int).toNat) (λi σ D=>∃p L G I,σ=[some (.int m),some x,some v,some (.ref l),L,G,I]/\aO [Pt,Pw] H D/\Tb D Pt Pw/\D l=some (.lst p)/\((i=0/\p=[])\/(i=1/\∃a,n9 m r a/\p=[.str a])\/(i=2/\∃a b,n9 m r a/\wr R rs S r b/\p=[.str a,.str b]))) ⟨[],none,none,none,rfl,aO.of (ag Y _),W.same (ag Y _),ak,.inl ⟨rfl,rfl⟩⟩ ?_ ?_⟩
 .rintro i σ D hi ⟨p,L,G,I,rfl,s1,C,U,u⟩;have j:∀{d:Hp},aO [Pt,Pw] D d->d l=some (.lst p):=λs3=>s3 l _ (λz=>C.ae7 l z p (.inl U)) U;have M:p.length<PH:=by
   rw[QA];rcases u with⟨_,rfl⟩|⟨_,a,_,rfl⟩|⟨h,_⟩
   .decide
   .show 1<16777216;decide
   .exact Py h (Qw hi)
  have O:∀(wd:M') (d:Hp) (L G I:Option V),aO [Pt,Pw] D d->Tb d Pt Pw->(i=0->n9 m r wd)->(i=1->wr R rs S r wd)->∃y v4' v5' v6',([some (.int m),some x,some v,some (.ref l),L,G,I]:St)=[some (.int m),some x,some v,some (.ref l),v4',v5',v6']/\aO [Pt,Pw] H (upd d l (.lst (p++[.str wd])))/\Tb (upd d l (.lst (p++[.str wd]))) Pt Pw/\upd d l (.lst (p++[.str wd])) l=some (.lst y)/\((i+1=0/\y=[])\/(i+1=1/\∃a,n9 m r a/\y=[.str a])\/(i+1=2/\∃a b,n9 m r a/\wr R rs S r b/\y=[.str a,.str b])):=λwd d L G I s3 t3 o1 Z=>by
   refine⟨_,L,G,I,rfl,λb o hb e=>?_,t3.lst (j s3),ak,?_⟩
   .rw[al (ax e Y)];exact s3 b o hb (s1 b o hb e)
   .rcases u with⟨rfl,rfl⟩|⟨rfl,a,oa,rfl⟩|⟨h,_⟩
    .exact .inr (.inl ⟨rfl,wd,o1 rfl,rfl⟩)
    .exact .inr (.inr ⟨rfl,a,wd,oa,Z rfl,rfl⟩)
    .exact Py h (Qw hi)
  refine⟨_,rfl,rfl,_,rfl,?_⟩;rcases u with⟨rfl,rfl⟩|⟨rfl,a,oa,rfl⟩|⟨h,_⟩
  .rw[Qk (show V.int (0+((0:Nat):Int))=V.int 0 from rfl)];refine aU ⟨_,rfl,_,rfl,v,r,m,rfl,rvP W s1 ra,sh,Ta,C,m4,λN J s2=>?_,λN g J s2=>?_,λN g t J s2 VF=>?_⟩
   .exact⟨CO,rfl,onO,λe c=>⟨_,rfl,_,rfl,.inl ⟨rfl,_,PX.of (j (aO.of (s2.trans (ag c _))))⟩,_,rfl,.inr ⟨e,CO,false,false,true,false,false,false,false,2,"order",rfl,ak,RO,λd s3=>⟨l,_,_,rfl,rfl,j (aO.of (s2.trans ((ag c _).trans s3))),M,O "order" d _ _ _ (aO.of (s2.trans ((ag c _).trans s3))) (C.same (s2.trans ((ag c _).trans s3))) (λ_=>⟨λ_=>rfl,λh=>Py h N,λh=>Py h N⟩) (λh=>Py h (by decide))⟩⟩⟩⟩
   .exact⟨CR,rfl,onR,λe c=>⟨_,rfl,_,rfl,.inl ⟨rfl,_,PX.of (j (aO.of (s2.trans (ag c _))))⟩,_,rfl,.inr ⟨e,CR,false,false,false,true,false,false,false,3,"rule",rfl,ak,RR,λd s3=>⟨l,_,_,rfl,rfl,j (aO.of (s2.trans ((ag c _).trans s3))),M,O "rule" d _ _ _ (aO.of (s2.trans ((ag c _).trans s3))) (C.same (s2.trans ((ag c _).trans s3))) (λ_=>⟨λh=>Py N h,λ_ _=>rfl,λ_ h=>Py h g⟩) (λh=>Py h (by decide))⟩⟩⟩⟩
   .exact⟨_,rfl,.inl ⟨rfl,_,PX.of (j s2)⟩,_,rfl,.inl ⟨rfl,l,_,_,rfl,rfl,j s2,M,O "ok" J _ _ _ s2 VF (λ_=>⟨λh=>Py N h,λ_ h=>Py g h,λ_ _=>rfl⟩) (λh=>Py h (by decide))⟩⟩
  .rw[Qd (show ¬V.int (0+((1:Nat):Int))=V.int 0 from λh=>Py (V.int.inj h) (by decide))];refine az ⟨_,rfl,_,rfl,x,v,r,R,rs,S,rfl,pJ W s1 B,Qi,rvP W s1 ra,sh,C,λnb J s2=>?_,hk,λbk g J s2=>?_,λbk g t J s2 VF=>?_⟩
   .exact⟨CB,rfl,onB,λe c=>⟨_,rfl,_,rfl,.inl ⟨rfl,_,PX.of (j (aO.of (s2.trans (ag c _))))⟩,_,rfl,.inr ⟨e,CB,true,false,false,false,false,false,false,0,"book",rfl,ak,RB,λd s3=>⟨l,_,_,rfl,rfl,j (aO.of (s2.trans ((ag c _).trans s3))),M,O "book" d _ _ _ (aO.of (s2.trans ((ag c _).trans s3))) (C.same (s2.trans ((ag c _).trans s3))) (λh=>Py h (by decide)) (λ_=>⟨λ_=>rfl,λh=>Py h nb,λh=>Py h nb⟩)⟩⟩⟩⟩
   .exact⟨CR,rfl,onR,λe c=>⟨_,rfl,_,rfl,.inl ⟨rfl,_,PX.of (j (aO.of (s2.trans (ag c _))))⟩,_,rfl,.inr ⟨e,CR,false,false,false,true,false,false,false,3,"rule",rfl,ak,RR,λd s3=>⟨l,_,_,rfl,rfl,j (aO.of (s2.trans ((ag c _).trans s3))),M,O "rule" d _ _ _ (aO.of (s2.trans ((ag c _).trans s3))) (C.same (s2.trans ((ag c _).trans s3))) (λh=>Py h (by decide)) (λ_=>⟨λh=>Py bk h,λ_ _=>rfl,λ_ h=>Py h g⟩)⟩⟩⟩⟩
   .exact⟨_,rfl,.inl ⟨rfl,_,PX.of (j s2)⟩,_,rfl,.inl ⟨rfl,l,_,_,rfl,rfl,j s2,M,O "ok" J _ _ _ s2 VF (λh=>Py h (by decide)) (λ_=>⟨λh=>Py bk h,λ_ h=>Py g h,λ_ _=>rfl⟩)⟩⟩
  .exact Py h (Qw hi)
 .rintro σ D ⟨p,L,G,I,rfl,s1,C,U,u⟩;rcases u with⟨h,_⟩|⟨h,_⟩|⟨_,a,b,o1,Z,rfl⟩
  .exact Py h (by decide)
  .exact Py h (by decide)
  .exact⟨_,rfl,z a b l D o1 Z s1 C U⟩
theorem oh (M:St->Hp->Prop)(h2:∀σ H,M σ H->u D σ H)(h1:(∀σ H,M σ H->u D σ H)->t { D with nx:=u D } σ H):kT t u D σ H:=h1 h2
def tI (K:Po)(Pt Pw:D'):Sp:=λvs H Q _=>∃(a:D') (ns:List Int),vs=[.ref a]/\PX K H a (ns.map V.int)/\Tb H Pt Pw/\∀H',Q (.bl true) H'
noncomputable abbrev NLa:List M':=["_law_script","_law_many","_law_rule_here","_law_number","_law_k","_law_book","_law_due"]
theorem iu:QE NLa ["_law_script"] (ao DC):={}
theorem F4:bB (.leaf "nor" ns):=by
 unfold bB jT;decide +kernel
theorem Hu (F:Qh K "law" "law" DC f fd)(T:Rf K mg CO)(WM:Df P w K mg base PV 2 "_law_mix" ["_law_script","_law_k"] (pI K))(WR:Df P w K mg base PV 6 "_law_rule" ["_law_script","_law_k","_law_many","_law_deep"] (mS K 3))(WP:Df P w K mg base PV 4 "_law_spoilt" ["_law_rule_here","_law_many","_law_number"] (jk K 3))(WS:Df P w K mg base PV 3 "_law_set" ["_law_script","_law_k","_law_many"] (Ep K))(WB:Df P w K mg base (QP P w) 12 "book_of" ["many","orders"] (vt K))(WG:Df P w K mg base PV 7 "_law_good" ["_law_many","_law_rule_here","_law_deep"] (mR K 6))(WT:Df P w K mg base (QP P w) 22 "_law_told" ["_law_many","_law_book","_law_rule_here"] (BL K Pt Pw)):P4 P w K mg base PV 23 f fd ["_law_script"] (tI K Pt Pw):=by
 refine F.ok iu (λvs H Q E h=>?_) (λP3 A outer s H vs Q E m h=>?_)
 .obtain⟨a,ns,rfl,_⟩:=h;rfl
 obtain⟨a,ns,rfl,hs0,tb,z⟩:=h;have R:X5 K H a:=⟨ns,hs0⟩
 refine⟨_,af (aQ (i:=1) iu.nd rfl (lc rfl) (ay bT ae (ay bD (aE WM (m.mono (by decide)) rfl pS (aa (pv 0) (aa ae ad))) ae)))
  (af (aQ (i:=2) iu.nd rfl (lc rfl) (aE WR (m.mono (by decide)) rfl pS (aa (pv 0) (aa ae (aa (pv 1) (aa ae ad))))))
  (af (aQ (i:=3) iu.nd rfl (lc rfl) (aE WM (m.mono (by decide)) rfl pS (aa (pv 0) (aa ae ad))))
  (af (aH (aq bu (ay bD (pv 3) ae) ae (aw _))
   (ai (aQ (i:=2) iu.nd rfl (lc rfl) (aE WP (m.mono (by decide)) rfl pS (aa (pv 2) (aa (pv 1) (aa (ay cS (pv 3) ae) ad)))))) au)
  (af (aH (aq bu (ay bD (pv 3) ae) ae (aw _))
   (ai (dM Wg rfl (eQ rfl T.t.range (aa (ay bT ae (ay bD (ay cS (pv 3) ae) ae)) ad)) (cD (i:=4) iu.nd rfl (lc rfl))
    (ai (aQ (i:=2) iu.nd rfl (lc rfl) (fH (aq bu (ay bD (ay cS (pv 3) ae) ae) ae (aw _)) (aZ (aa av (aa (pv 2) ad))) (aZ (aa av (aa (aZ (aa av ad)) (aa (pv 2) ad))))))))) au)
  (af (aQ (i:=5) iu.nd rfl (lc rfl) (aE WB (m.mono (by decide)) rfl sY (aa (pv 1) (aa (aE WS (m.mono (by decide)) rfl pS (aa (pv 0) (aa ae (aa (pv 1) ad)))) ad))))
  (af (aQ (i:=6) iu.nd rfl (lc rfl) (fH (cz (aE WG (m.mono (by decide)) rfl pS (aa (pv 1) (aa (pv 2) (aa ae ad))))) av av))
  (af (aH (aq (oE m.Yp) (aE WT m rfl sY (aa (pv 1) (aa (pv 5) (aa (pv 2) ad)))) (ay zZ (bC (aa (pv 6) ad)) ae) (aw _)) (ai aK) au)
  (ai (aD (cG (Gu m.Yp) (aE WT m rfl sY (aa (cI bL (bC (aa ae (aa ae (aa (lW jB ae) ad)))) (ay bD (ay cS (pv 3) ae) ae) (λ_ _=>rfl)) (aa (aZ (aa (pv 1) (aa (bC ad) (aa ae ad)))) (aa (aZ (aa av ad)) ad)))) (bC (aa av (aa av ad))) (aw _))))))))))),?_⟩
 refine⟨_,rfl,a,0,rfl,R,λm0 h0 h1=>⟨_,_,rfl,rfl,by show(0:Int)<4;decide,_,_,rfl,rfl,?_⟩⟩;obtain⟨many,hm⟩:∃many:Nat,1+m0 % 4=(many:Int):=⟨(1+m0 % 4).toNat,by lia⟩
 have G:1<=many:=by lia
 have N:many<=4:=by lia
 dsimp only;rw[hm];refine⟨_,rfl,_,rfl,a,60,many,3,rfl,R,G,N,by (first|trivial|lia),by (first|trivial|lia),λv r H1 s1 d ok hh=>?_⟩;refine⟨_,rfl,a,1,rfl,R.same s1,λnum n0 n1=>?_⟩;dsimp only;refine oh (λu C=>∃v r,u=[some (.ref a),some (.int (many:Int)),some v,some (.int num),none,none,none]/\ar H C/\QV K C v r/\bB r) ?_ (λrest=>?_)
 rotate_left
 .refine⟨_,rfl,_,_,rfl,rfl,by show(0:Int)<3;decide,rfl,_,rfl,iO (λc=>?_) (λ_=>rest _ _ ⟨v,toV r,rfl,s1,gF d,eB r⟩)⟩;exact⟨_,rfl,_,rfl,_,rfl,_,_,rfl,rfl,⟨by decide,by decide⟩,v,r,many,num / 3,rfl,d,ok,hh,by lia,λv' r' C s2 rv j=>rest _ _ ⟨v',r',rfl,s1.trans s2,rv,j⟩⟩
 clear d ok hh s1;rintro u H1 ⟨v,r,rfl,s1,d,j⟩;refine oh (λu C=>∃v r I,u=[some (.ref a),some (.int (many:Int)),some v,some (.int num),I,none,none]/\ar H C/\QV K C v r/\bB r) ?_ (λrest=>?_)
 rotate_left
 .refine⟨_,rfl,_,_,rfl,rfl,by show(0:Int)<3;decide,rfl,_,rfl,iO (λc=>?_) (λ_=>rest _ _ ⟨v,r,none,rfl,s1,d,j⟩)⟩;refine⟨_,rfl,_,_,rfl,rfl,⟨by decide,by decide⟩,_,_,rfl,rfl,by show(0:Int)<4;decide,_,_,rfl,rfl,_,rfl,by lia,by lia,kU (lo:=0) (n:=(4+num / 3 % 4).toNat) (λ_ u C=>∃v r I,u=[some (.ref a),some (.int (many:Int)),some v,some (.int num),I,none,none]/\ar H C/\QV K C v r/\bB r) ⟨v,r,none,rfl,s1,d,j⟩ ?_ rest⟩;clear d j s1;rintro i u C hi ⟨v,r,I,rfl,s1,d,j⟩;refine⟨_,rfl,_,_,rfl,rfl,⟨by decide,by decide⟩,_,_,rfl,rfl,by show(0:Int)<2;decide,rfl,_,rfl,iO (λ_=>?_) (λ_=>?_)⟩
  .refine⟨_,rfl,by show 2<=PH;decide,λp hp=>?_⟩;have s2:=ag hp (.tup [V.str "not",v]);exact⟨_,_,_,rfl,s1.trans s2,eI PM.up (.cons (d.same s2) .nil),dL qI (by intro k O;rw[Ri.mp O];exact j)⟩
  .refine⟨by show 1<=PH;decide,λp hp=>?_⟩;have s2:=ag hp (.tup [V.str "even"]);refine⟨_,rfl,by show 3<=PH;decide,λq hq=>?_⟩;have s3:=ag hq (.tup [V.str "either",.ref p,v]);refine⟨_,_,_,rfl,s1.trans (s2.trans s3),eI PM.up (.cons (cy (wd:="even") (ns:=[]) (s3.P6 PM.up)) (.cons (d.same (s2.trans s3)) .nil)),dL kM (by
    intro k O;simp only[Qe,Rz,or_false] at O;rcases O with rfl|rfl
    .exact V7 (b:=.Sv)
    .exact j)⟩
 clear d j s1;rintro u H1 ⟨v,r,I,rfl,s1,d,j⟩;refine⟨_,rfl,_,rfl,_,rfl,a,10,many,rfl,R.same s1,G,N,λl2 os C s2 ol2 sub=>?_⟩;have S:Bk.Q1 many os:=Bk.Q1.of G N sub;have lS:=S.len;obtain⟨ys2,hy2,py2⟩:=id ol2;refine⟨many,l2,ys2,os,rfl,PX.of hy2,py2,λo ho=>DA G (by lia) (S.mem o ho),G,by lia,by lia,λt3 lr3 H3 s3 bn3=>?_⟩;have wh:=Q1.whole S;have bk:Uz (many:Int) (bx many os).1 ((bx many os).2:Nat):=BA wh;have M:1<=(many:Int)/\(many:Int)<=8:=⟨by lia,by lia⟩
 obtain⟨D,hat,hk9,f9⟩:∃D:Int,SJ [V.int 0,V.int 9,V.int (-1)] (num / 64 % 3)=some (V.int D)/\¬(1<=D/\D<=8)/\XR D:=by
  have h3:num / 64 % 3=0\/num / 64 % 3=1\/num / 64 % 3=2:=by lia
  rcases h3 with h|h|h <;> rw[h]
  .exact⟨0,rfl,by decide,dA (by decide) (by decide)⟩
  .exact⟨9,rfl,by decide,dA (by decide) (by decide)⟩
  .exact⟨-1,rfl,by decide,dA (by decide) (by decide)⟩
 dsimp only;refine oh (λu H4=>∃e:M',u=[some (.ref a),some (.int (many:Int)),some v,some (.int num),I,some (.ref t3),some (.str e)]/\ar H3 H4/\dU [V.str e,V.str e] [V.str e,V.str e]=true/\(∀x,n9 (many:Int) r x->x=e)/\∀x,wr (many:Int) (bx many os).1 ((bx many os).2:Nat) r x->x=e) ?_ (λrest=>?_)
 rotate_left
 .refine⟨_,rfl,_,rfl,v,r,many,1,rfl,d.same (s2.trans s3),j,by (first|trivial|lia),by (first|trivial|lia),λb H4 U s4=>⟨_,rfl,iO (λh=>?_) (λh=>?_)⟩⟩
  .exact rest _ _ ⟨"ok",rfl,s4,by decide +kernel,λx o=>o.2.2 M (U.mp h),λx o=>o.2.2 bk (U.mp h)⟩
  .exact rest _ _ ⟨"rule",rfl,s4,by decide +kernel,λx o=>o.2.1 M λg=>h (U.mpr g),λx o=>o.2.1 bk λg=>h (U.mpr g)⟩
 rintro u H4 ⟨e,rfl,s4,eqd,W,Z⟩;have ε:=s1.trans (s2.trans (s3.trans s4));have ra4:=d.same (s2.trans (s3.trans s4));have tb4:=tb.same ε;have B4:=bn3.a.same s4;refine⟨_,rfl,_,rfl,_,rfl,.ref t3,v,r,many,many,_,_,rfl,B4,.inl bk,ra4,j,dA (by lia) (by lia),tb4,λ_=>by lia,λ_=>⟨many,os,rfl,G,N,S,rfl,rfl⟩,λx y l5 H5 o1 o2 s5 tb5 J=>?_⟩;rw[W x o1,Z y o2] at J;refine⟨_,rfl,by show 1<=PH;decide,λl6 hl6=>?_⟩;have s6:=ag hl6 (.lst [V.str e]);refine⟨l6,2,_,rfl,rfl,ak,by decide,by decide,by show 2<=PH;decide,λl7 hl7=>?_⟩;have s7:=s6.trans (ag hl7 (.lst [V.str e,V.str e]));refine⟨l5,l7,_,[V.str e,V.str e],rfl,rfl,PX.of (s7 _ _ J),PX.up,rfl,rfl,_,rfl,?_⟩;rw[PK rfl,eqd];refine az ?_;refine⟨_,rfl,by show 3<=PH;decide,λl8 X=>?_⟩;have s8:=s7.trans (ag X (.lst [V.int 0,V.int 9,V.int (-1)]));refine⟨_,rfl,_,_,rfl,rfl,⟨by decide,by decide⟩,_,_,rfl,rfl,by show(0:Int)<3;decide,l8,_,_,_,rfl,rfl,PX.up,hat,?_⟩;refine⟨_,rfl,by show 0<=PH;decide,λl9 hl9=>?_⟩;have s9:=s8.trans (ag hl9 (.lst []));refine⟨by show 3<=PH;decide,λu1 hu1=>?_⟩;have TH:=ag hu1 (.tup [V.int (many:Int),V.ref l9,V.int 1]);refine⟨by show 1<=PH;decide,λu2 hu2=>?_⟩;have UQ:=ag hu2 (.tup [V.str "nor"]);refine⟨.ref u1,.ref u2,.leaf "nor" [],D,many,[],1,rfl,⟨⟨u1,l9,[],rfl,UQ.P6 PM.up,(TH.trans UQ).R0 PX.up,.nil⟩⟩,.inr ⟨by lia,by lia,rfl,rfl⟩,cy PM.up,F4,f9,tb5.same (s9.trans (TH.trans UQ)),λh=>Py h hk9,λh=>Py h BC,λx' y' l12 H12 o1' o2' V5 ah4 L=>?_⟩;rw[o1'.1 hk9,o2'.1 BC] at L;refine⟨by show 2<=PH;decide,λY ahK=>?_⟩;refine⟨l12,Y,_,[V.str "order",V.str "book"],rfl,rfl,PX.of (ag ahK _ _ _ L),PX.up,rfl,rfl,?_⟩;rw[show(if false=true then !dU [V.str "order",V.str "book"] [V.str "order",V.str "book"] else dU [V.str "order",V.str "book"] [V.str "order",V.str "book"])=true by decide +kernel];exact z _
theorem BO (h:X4 x=some cl):(x="or"/\cl=[(1,0),(0,1),(1,1)])\/(x="and"/\cl=[(1,1)])\/(x="less"/\cl=[(1,0)])\/(x="odd"/\cl=[(1,0),(0,1)]):=by
 unfold X4 at h
 split at h
 .cases h;exact .inl ⟨by assumption,rfl⟩
 .split at h
  .cases h;exact .inr (.inl ⟨by assumption,rfl⟩)
  .split at h
   .cases h;exact .inr (.inr (.inl ⟨by assumption,rfl⟩))
   .split at h
    .cases h;exact .inr (.inr (.inr ⟨by assumption,rfl⟩))
    .cases h
noncomputable abbrev gr (l:List G')(m:Nat):J':=⟨.type "tuple",none,.seq ⟨l⟩ m,#[]⟩
theorem oj (hk:K.lookup p=some (gr [.int a u,.int b v] m)):aV.rep K H (.ref p) [a,b]:=
 cX (o:=[a,b]) (.inr ⟨_,_,_,hk,rfl,rfl,by show 2<=PH;decide,.cons ⟨u,rfl⟩ (.cons ⟨v,rfl⟩ .nil),rfl⟩)
theorem wt:∀ps:List D',aL (ps.map V.ref) (ps.map Qu)
 | []=>.nil
 | _::ps=>.cons rfl (wt ps)
theorem zB (hk:K.lookup c=some (gr (ps.map Qu) m))(Qi:ps.length<=3)(hp:PR (λp ks=>aV.rep K H (.ref p) ks) ps QD):cu.rep K H (.ref c) QD:=by
 refine⟨c,ps.map V.ref,rfl,.inr ⟨_,_,_,hk,rfl,rfl,?_,wt ps,rfl⟩,?_⟩
 .show(ps.map Qu).length<=PH;rw[Qx,QA];lia
 .clear hk Qi
  induction hp with
  | nil=>exact .nil
  | cons h _ ih=>exact .cons h ih
theorem Hv (X:K.In h)(G:h.Ns Qq mg)(na:Q0 K Qq "CLOSES"=some (some (.ref aC)))(hs:(aC==R8)=false)(lk:K.lookup aC=some ⟨.type "dict",none,.dict #[⟨TU w.params "or",.str "or" t1,.ref c1⟩,⟨TU w.params "and",.str "and" t2,.ref c2⟩,⟨TU w.params "less",.str "less" t3,.ref c3⟩,⟨TU w.params "odd",.str "odd" t4,.ref c4⟩] n,#[]⟩)(k1:K.lookup c1=some (gr [.ref p1,.ref p2,.ref p3] n1))(k2:K.lookup c2=some (gr [.ref p4] n2))(k3:K.lookup c3=some (gr [.ref p5] n3))(k4:K.lookup c4=some (gr [.ref p6,.ref p7] n4))(q1:K.lookup p1=some (gr [.int 1 u1,.int 0 v1] m1))(q2:K.lookup p2=some (gr [.int 0 u2,.int 1 v2] m2))(q3:K.lookup p3=some (gr [.int 1 u3,.int 1 v3] m3))(q4:K.lookup p4=some (gr [.int 1 u4,.int 1 v4] m4))(q5:K.lookup p5=some (gr [.int 1 u5,.int 0 v5] m5))(q6:K.lookup p6=some (gr [.int 1 u6,.int 0 v6] m6))(q7:K.lookup p7=some (gr [.int 0 u7,.int 1 v7] m7)):
  TxC P w K mg aC [(.inr "or",.ref c1),(.inr "and",.ref c2),(.inr "less",.ref c3),(.inr "odd",.ref c4)] where
 at_:=Rx X G na
 d:=⟨hs,_,_,_,lk,⟨rfl,rfl,rfl⟩,rfl,λe c=>by
   rcases(show e=_\/e=_\/e=_\/e=_ by simpa using c) with rfl|rfl|rfl|rfl
   .exact⟨.inr "or",bS _ _ _ _,rfl⟩
   .exact⟨.inr "and",bS _ _ _ _,rfl⟩
   .exact⟨.inr "less",bS _ _ _ _,rfl⟩
   .exact⟨.inr "odd",bS _ _ _ _,rfl⟩,
  .cons (bS _ _ _ _) rfl (.cons (bS _ _ _ _) rfl (.cons (bS _ _ _ _) rfl (.cons (bS _ _ _ _) rfl .nil))),by show([.inr "or",.inr "and",.inr "less",.inr "odd"]:List Key).Nodup;decide⟩
 val:=λx cl h=>by
  rcases BO h with⟨rfl,rfl⟩|⟨rfl,rfl⟩|⟨rfl,rfl⟩|⟨rfl,rfl⟩
  .exact⟨c1,rfl,λH=>zB (ps:=[p1,p2,p3]) k1 (ĥ rfl) (.cons (oj q1) (.cons (oj q2) (.cons (oj q3) .nil)))⟩
  .exact⟨c2,rfl,λH=>zB (ps:=[p4]) k2 (ĥ rfl) (.cons (oj q4) .nil)⟩
  .exact⟨c3,rfl,λH=>zB (ps:=[p5]) k3 (ĥ rfl) (.cons (oj q5) .nil)⟩
  .exact⟨c4,rfl,λH=>zB (ps:=[p6,p7]) k4 (ĥ rfl) (.cons (oj q6) (.cons (oj q7) .nil))⟩
 Qb:=λx h=>by
  unfold X4 at h;unfold valueAt;have n1:x≠"or":=λe=>by rw[PK e] at h;cases h
  rw[Pr n1] at h;have n2:x≠"and":=λe=>by rw[PK e] at h;cases h
  rw[Pr n2] at h;have n3:x≠"less":=λe=>by rw[PK e] at h;cases h
  rw[Pr n3] at h;have n4:x≠"odd":=λe=>by rw[PK e] at h;cases h
  have f:∀y:M',x≠y->decide ((UH y:Key)=.inr x)=false:=λy b=>Qd λe=>b (ì e).symm;simp only[We,f _ n1,f _ n2,f _ n3,f _ n4,ę,ĩ]
theorem lT (es:List (M'×Sh×G'))(hs:(a==R8)=false)(lk:K.lookup a=some ⟨.type "dict",none,.dict ⟨es.map λe=>⟨TU w.params e.1,.str e.1 e.2.1,e.2.2⟩⟩ n,#[]⟩)(nd:(es.map λe=>(UH e.1:Key)).Nodup):io P w K a (es.map λe=>(.inr e.1,e.2.2)):=by
 refine⟨hs,_,_,_,lk,⟨rfl,rfl,rfl⟩,rfl,λe b=>?_,?_,by rw[Yi];exact nd⟩
 .have b:e∈es.map λe:M'×Sh×G'=>(⟨TU w.params e.1,.str e.1 e.2.1,e.2.2⟩:Ro):=by simpa using b
  obtain⟨x,_,rfl⟩:=Qs.mp b;exact⟨.inr x.1,bS _ _ _ _,rfl⟩
 .clear lk nd
  induction es with
  | nil=>exact .nil
  | cons x es ih=>exact .cons (bS _ _ _ _) rfl ih
theorem Hw (X:K.In h)(G:h.Ns Qq mg)(T:YT K mg CO)(zs:Q0 K Qq "str"=some none)(e6:Q0 K Qq "MOST_WITHIN"=some (some (.int 6 t6)))(eN:Q0 K Qq "NUMBERS_BEHIND"=some (some (.ref aN)))(eR:Q0 K Qq "RULES_BEHIND"=some (some (.ref aR)))(eJ:Q0 K Qq "JOINS"=some (some (.ref aJ)))(eF:Q0 K Qq "FREE"=some (some (.ref aF)))(sN:(aN==R8)=false)(sR:(aR==R8)=false)(sJ:(aJ==R8)=false)(lN:K.lookup aN=some ⟨.type "dict",none,.dict #[⟨TU w.params "at",.str "at" x1,.int 2 y1⟩,⟨TU w.params "ahead",.str "ahead" x2,.int 2 y2⟩,⟨TU w.params "next",.str "next" x3,.int 2 y3⟩,⟨TU w.params "even",.str "even" x4,.int 0 y4⟩] n1,#[]⟩)(lR:K.lookup aR=some ⟨.type "dict",none,.dict #[⟨TU w.params "not",.str "not" p1,.int 1 q1⟩,⟨TU w.params "both",.str "both" p2,.int 2 q2⟩,⟨TU w.params "either",.str "either" p3,.int 2 q3⟩] n2,#[]⟩)(lJ:K.lookup aJ=some ⟨.type "dict",none,.dict #[⟨TU w.params "both",.str "both" j1,.str "and" k1⟩,⟨TU w.params "either",.str "either" j2,.str "or" k2⟩] n3,#[]⟩)(lF:K.lookup aF=some (gr [.str "free" f1] m1)):
  VE P w K mg CO aN aR aJ aF [(.inr "at",.int 2 y1),(.inr "ahead",.int 2 y2),(.inr "next",.int 2 y3),(.inr "even",.int 0 y4)] [(.inr "not",.int 1 q1),(.inr "both",.int 2 q2),(.inr "either",.int 2 q3)] [(.inr "both",.str "and" k1),(.inr "either",.str "or" k2)] where
 k:=T
 str:=S0 X G zs
 most:=⟨t6,Rx X G e6⟩
 nb:=Rx X G eN
 dN:=lT [("at",x1,.int 2 y1),("ahead",x2,.int 2 y2),("next",x3,.int 2 y3),("even",x4,.int 0 y4)] sN lN (by show([.inr "at",.inr "ahead",.inr "next",.inr "even"]:List Key).Nodup;decide)
 vN:=λb c=>by
  cases b with
  | free=>exact Py rfl c
  | at_ _ _=>exact⟨y1,rfl⟩
  | ahead _ _=>exact⟨y2,rfl⟩
  | next _ _=>exact⟨y3,rfl⟩
  | Sv=>exact⟨y4,rfl⟩
 nN:=⟨rfl,rfl,rfl⟩
 rb:=Rx X G eR
 dR:=lT [("not",p1,.int 1 q1),("both",p2,.int 2 q2),("either",p3,.int 2 q3)] sR lR (by show([.inr "not",.inr "both",.inr "either"]:List Key).Nodup;decide)
 vR:=⟨⟨q1,rfl⟩,⟨q2,rfl⟩,⟨q3,rfl⟩⟩
 jo:=Rx X G eJ
 dJ:=lT [("both",j1,.str "and" k1),("either",j2,.str "or" k2)] sJ lJ (by show([.inr "both",.inr "either"]:List Key).Nodup;decide)
 vJ:=⟨⟨k1,rfl⟩,⟨k2,rfl⟩⟩
 nJ:=λb=>by cases b <;> rfl
 fr:=Rx X G eF
 sF:=λH=>.inr ⟨_,_,_,lF,rfl,rfl,by show 1<=PH;decide,.cons ⟨f1,rfl⟩ .nil,rfl⟩
theorem Hx:TxO [(.inr "at",.int 2 y1),(.inr "ahead",.int 2 y2),(.inr "next",.int 2 y3),(.inr "even",.int 0 y4)] [(.inr "not",.int 1 q1),(.inr "both",.int 2 q2),(.inr "either",.int 2 q3)] where
 n:=λx b g d h=>by
  unfold valueAt;have f:∀y:M',x≠y->decide ((UH y:Key)=.inr x)=false:=λy c=>Qd λe=>c (ì e).symm;simp only[We,f _ b,f _ g,f _ d,f _ h,ę,ĩ]
 r:=λx b g d=>by
  unfold valueAt;have f:∀y:M',x≠y->decide ((UH y:Key)=.inr x)=false:=λy c=>Qd λe=>c (ì e).symm;simp only[We,f _ b,f _ g,f _ d,ę,ĩ]
end Ord
set_option maxHeartbeats 0
namespace Vw
open PySem PySem.W L2
noncomputable section
abbrev pw:PU:=PySem.Challenge.pw_ordernest_k31_no_rules
def at_ (i:Nat):PD:=pw.main.body.getD i (.Pass ⟨0,0,0,0⟩)
def s0:PD:=at_ 0
def s1:PD:=at_ 1
def s2:PD:=at_ 2
def s3:PD:=at_ 3
def s4:PD:=at_ 4
def s5:PD:=at_ 5
def s6:PD:=at_ 6
def s7:PD:=at_ 7
def s8:PD:=at_ 8
def s9:PD:=at_ 9
def TH:PD:=at_ 10
def UQ:PD:=at_ 11
def V5:PD:=at_ 12
def Z6:PD:=at_ 13
def ε:PD:=at_ 14
def s15:PD:=at_ 15
def s16:PD:=at_ 16
def s17:PD:=at_ 17
def s18:PD:=at_ 18
def ζ:PD:=at_ 19
def s20:PD:=at_ 20
def s21:PD:=at_ 21
def s22:PD:=at_ 22
def s23:PD:=at_ 23
def s24:PD:=at_ 24
def X7:PD:=at_ 25
def X6:PD:=at_ 26
def Z':PD:=at_ 27
def YU:PD:=at_ 28
def s29:PD:=at_ 29
def s30:PD:=at_ 30
def s31:PD:=at_ 31
def s32:PD:=at_ 32
def s33:PD:=at_ 33
def s34:PD:=at_ 34
def s35:PD:=at_ 35
def s36:PD:=at_ 36
def s37:PD:=at_ 37
def s38:PD:=at_ 38
def s39:PD:=at_ 39
def s40:PD:=at_ 40
def s41:PD:=at_ 41
def s42:PD:=at_ 42
def s43:PD:=at_ 43
def s44:PD:=at_ 44
def Z0:PD:=at_ 45
def s46:PD:=at_ 46
def s47:PD:=at_ 47
def s48:PD:=at_ 48
def s49:PD:=at_ 49
def s50:PD:=at_ 50
def s51:PD:=at_ 51
def s52:PD:=at_ 52
def s53:PD:=at_ 53
def s54:PD:=at_ 54
def s55:PD:=at_ 55
def s56:PD:=at_ 56
def s57:PD:=at_ 57
def s58:PD:=at_ 58
def s59:PD:=at_ 59
def s60:PD:=at_ 60
def s61:PD:=at_ 61
def s62:PD:=at_ 62
def s63:PD:=at_ 63
def s64:PD:=at_ 64
def s65:PD:=at_ 65
def s66:PD:=at_ 66
def s67:PD:=at_ 67
def s68:PD:=at_ 68
def s69:PD:=at_ 69
def s70:PD:=at_ 70
def s71:PD:=at_ 71
def dk (P:Yo)(x:M')(t:Nat)(v:G'):Ro:=⟨TU P x,.str x t,v⟩
def kf (x q:M')(s:PD)(kV doc pm P3 ct:G'):J':=⟨.type "function",none,.func (fnOf x q (dQ s) (bR s) (ao s) .none kV doc pm none P3 ct),#[]⟩
def kg (c:G')(x q:M')(s:PD)(g:Nat)(dV kV doc pm P3 ct:G'):J':=⟨c,none,.func { name:=x,qualname:=q,params:=dQ s,body:=.stmts (bR s),scope:=ao s,globals:=g,closure:=[],defaults:=dV,kwdefaults:=kV,doc:=doc,pyModule:=pm,code:=P3,closureTuple:=ct },#[]⟩
def kj (c:G')(d:Data):J':=⟨c,none,d,#[]⟩
def kt (l:List G'):J':=⟨.type "tuple",none,.seq ⟨l⟩ 0,#[]⟩
def tJ (s:PD)(i:Nat):PD:=match s with
 | .ClassDef _ _ _ b _ _ _ _ _ _ _=>b.getD i (.Pass ⟨0,0,0,0⟩)
 | s=>s
def r (a:Nat):G':=.ref a
def i (a:Int)(t:Nat):G':=.int a t
def z (x:M')(t:Nat):G':=.str x t
def kc (x q:M')(a b c l n f r1 r2 r3 r4 r5 t m u:Nat):J':=kj (.type "code") (.fields #[z x a,z q b,z "/claim/cut.py" c,i l 0,i n 0,i 0 0,i 0 0,i f 0,r r1,.bool true,i 181 0,r r2,.none,r r3,r r4,r r5,i t 0,i m 0,z "/claim/cut.py" u])
variable (P:Yo)
def lt (n a:Nat):List G':=[i n 0,i 0 0,r a]
def kl (l:List G'):J':=kj .none (.fields ⟨l⟩)
def SZ:=z "ordernest.errors" 187
def SD:=z "ordernest.books" 350
def TM:=z "ordernest.ruling" 597
def VG:=z "law_ordernest_k31_no_rules" 752
def zz4:=z "NestError" 197
def zz5:=z "NestError" 189
def zz6:=z "ordernest.joining" 527
def zz7:=z "ordernest.orders" 319
def o11:J':=kt []
def o12:J':=kj .none (.fields #[])
def V8 (a:M')(b:Nat)(c:Nat)(d:Nat):J':=kj (.type "code") (.fields #[z a b,z a (b+1),z "/claim/cut.py" (b+2),i c 0,i 0 0,i 0 0,i 0 0,i 0 0,r d,.bool false,i 181 0,r (d+1),.none,.none,.none,.none,i (b+3) 0,i c 0,z "/claim/cut.py" (b+4)])
def o13:J':=V8 "<module>" 182 1 11
def o14:J':=⟨(.type "frame"),none,.plain,#[(some (r 13)),(some (r 3)),(some (r 3)),none,(some (z "__main__" 164)),none,(some (r 0))]⟩
def η:List Ro:=[dk P "__doc__" 166 .none,dk P "__package__" 167 .none,dk P "__loader__" 168 (.builtin "__main__.__loader__#opaque"),dk P "__spec__" 169 .none,dk P "__annotations__" 170 (r 6),dk P "__builtins__" 171 (r 4),dk P "__file__" 173 (z "/claim/cut.py" 172),dk P "__cached__" 174 .none,dk P "NestError" 206 (r 24)]
def o3:J':=kj (.type "dict") (.dict ⟨dk P "__name__" 165 SZ::η P⟩ 10)
def BP:=lt 2 20
def Lo:J':=kl BP
def o15:J':=kt [.type "ValueError"]
def WZ:J':=kj (.type "builtin_function_or_method") (.fields #[.builtin "type.__prepare__",.type "type"])
def o17:J':=kj (.type "dict") (.dict #[dk P "__module__" 196 SZ,dk P "__qualname__" 198 zz4,dk P "__firstlineno__" 200 (i 2 199),dk P "__static_attributes__" 201 (r 22)] 4)
def o20:J':=V8 "NestError" 191 2 18
def W' (a:Nat)(b:G'):J':=⟨(.type "frame"),none,.plain,#[(some (r a)),(some (r 3)),(some (r (a-3))),none,(some b),none,(some (r 0))]⟩
def o21:J':=W' 20 SZ
def o23:J':=kj (.type "dict") (.dict #[dk P "__module__" 196 SZ,dk P "__firstlineno__" 200 (i 2 199),dk P "__static_attributes__" 201 (r 22),dk P "__weakref__" 203 (r 25),dk P "__doc__" 204 .none] 3)
def X8 (a:List G'):J':=⟨(.type "type"),none,.cls { name:="NestError",bases:=[.type "ValueError"],mro:=[r 24,.type "ValueError",.type "Exception",.type "BaseException",.type "object"],ns:=23,qualname:="NestError",subclasses:=a },#[(some (r 15)),none,(some zz5),(some zz4),(some (.builtin "ValueError.__new__")),(some (.bool true))]⟩
def o24:J':=X8 []
def kk3 (a:Nat)(b:Nat):J':=kj (.type "getset_descriptor") (.fields #[z "__weakref__" a,r b,.builtin "ExceptionGroup.__weakref__",.none])
def o25:J':=kk3 202 24
def Xa (a:Nat):J':=kj (.type "super") (.fields #[r a,r a,r a])
def o26:J':=Xa 24
def Xb (a:Nat):J':=kj (.type "builtin_function_or_method") (.fields #[.builtin "object.__init_subclass__",r a])
def o27:J':=Xb 24
def Es:List Ro:=η P++[dk P "BadOrder" 222 (r 37)]
def Mm:J':=kj (.type "dict") (.dict ⟨dk P "__name__" 165 SZ::Es P⟩ 11)
def BQ:=BP++lt 4 33
def Lp:J':=kl BQ
def Lq:J':=X8 [r 37]
def YV:J':=kt [r 24]
def YW (a:Nat)(b:M')(c:Nat)(d:Nat):J':=kj (.type "dict") (.dict #[dk P "__module__" a SZ,dk P "__qualname__" (a+2) (z b (a+1)),dk P "__firstlineno__" (a+4) (i c (a+3)),dk P "__static_attributes__" (a+5) (r d)] 4)
def o30:J':=YW P 214 "BadOrder" 4 35
def o31:J':=kt []
def Ry:J':=kj .none (.fields #[])
def o33:J':=V8 "BadOrder" 209 4 31
def o34:J':=W' 33 SZ
def Qt:J':=kt []
def YX (a:Nat)(b:Nat)(c:Nat):J':=kj (.type "dict") (.dict #[dk P "__module__" a SZ,dk P "__firstlineno__" (a+4) (i b (a+3)),dk P "__static_attributes__" (a+5) (r c),dk P "__doc__" (a+6) .none] 2)
def o36:J':=YX P 214 4 35
def YY (a:M')(b:Nat)(c:Nat):J':=⟨(.type "type"),none,.cls { name:=a,bases:=[r 24],mro:=[r b,r 24,.type "ValueError",.type "Exception",.type "BaseException",.type "object"],ns:=(b-1),qualname:=a,subclasses:=[] },#[(some (r (b-9))),none,(some (z a c)),(some (z a (c+8))),(some (.builtin "ValueError.__new__")),(some (.bool true))]⟩
def o37:J':=YY "BadOrder" 37 207
def o38:J':=Xa 37
def o39:J':=Xb 37
def Et:List Ro:=Es P++[dk P "BadBook" 238 (r 49)]
def Mo:J':=kj (.type "dict") (.dict ⟨dk P "__name__" 165 SZ::Et P⟩ 12)
def BR:=BQ++lt 6 45
def Lr:J':=kl BR
def Ls:J':=X8 [r 37,r 49]
def o42:J':=YW P 230 "BadBook" 6 47
def o45:J':=V8 "BadBook" 225 6 43
def o46:J':=W' 45 SZ
def o48:J':=YX P 230 6 47
def o49:J':=YY "BadBook" 49 223
def o50:J':=Xa 49
def o51:J':=Xb 49
def Eu:List Ro:=Et P++[dk P "Unlike" 254 (r 61)]
def Mp:J':=kj (.type "dict") (.dict ⟨dk P "__name__" 165 SZ::Eu P⟩ 13)
def BS:=BR++lt 8 57
def Lu:J':=kl BS
def Lv:J':=X8 [r 37,r 49,r 61]
def o54:J':=YW P 246 "Unlike" 8 59
def o57:J':=V8 "Unlike" 241 8 55
def o58:J':=W' 57 SZ
def o60:J':=YX P 246 8 59
def o61:J':=YY "Unlike" 61 239
def o62:J':=Xa 61
def o63:J':=Xb 61
def Ev:List Ro:=Eu P++[dk P "BadRule" 270 (r 73)]
def Mq:J':=kj (.type "dict") (.dict ⟨dk P "__name__" 165 SZ::Ev P⟩ 14)
def BU:=BS++lt 10 69
def Lw:J':=kl BU
def Lx:J':=X8 [r 37,r 49,r 61,r 73]
def o66:J':=YW P 262 "BadRule" 10 71
def o69:J':=V8 "BadRule" 257 10 67
def o70:J':=W' 69 SZ
def o72:J':=YX P 262 10 71
def o73:J':=YY "BadRule" 73 255
def o74:J':=Xa 73
def o75:J':=Xb 73
def Ew:List Ro:=Ev P++[dk P "BadNumber" 286 (r 85)]
def Mr:J':=kj (.type "dict") (.dict ⟨dk P "__name__" 165 SZ::Ew P⟩ 15)
def BV:=BU++lt 12 81
def Ly:J':=kl BV
def Lz:J':=X8 [r 37,r 49,r 61,r 73,r 85]
def o78:J':=YW P 278 "BadNumber" 12 83
def o81:J':=V8 "BadNumber" 273 12 79
def o82:J':=W' 81 SZ
def o84:J':=YX P 278 12 83
def o85:J':=YY "BadNumber" 85 271
def o86:J':=Xa 85
def o87:J':=Xb 85
def Ex:List Ro:=Ew P++[dk P "BadWeights" 302 (r 97)]
def Ms:J':=kj (.type "dict") (.dict ⟨dk P "__name__" 165 SZ::Ex P⟩ 16)
def BW:=BV++lt 14 93
def LA:J':=kl BW
def LB:J':=X8 [r 37,r 49,r 61,r 73,r 85,r 97]
def o90:J':=YW P 294 "BadWeights" 14 95
def o93:J':=V8 "BadWeights" 289 14 91
def o94:J':=W' 93 SZ
def o96:J':=YX P 294 14 95
def o97:J':=YY "BadWeights" 97 287
def o98:J':=Xa 97
def o99:J':=Xb 97
def Ey:List Ro:=Ex P++[dk P "BadText" 318 (r 109),dk P "MOST_THINGS" 322 (i 8 321),dk P "is_whole" 329 (r 118),dk P "is_count" 336 (r 125),dk P "look_count" 343 (r 132),dk P "look_order" 349 (r 137),dk P "NO_ROOM" 353 (i 0 352),dk P "END" 355 (i 1 354),dk P "LOWEST" 357 (i 2 356)]
def Mt:J':=kj (.type "dict") (.dict ⟨dk P "__name__" 165 SD::Ey P⟩ 25)
def BX:=BW++lt 16 105++lt 20 117++lt 22 124++lt 24 131++lt 27 136
def LC:J':=kl BX
def jm:J':=X8 [r 37,r 49,r 61,r 73,r 85,r 97,r 109]
def Mu:J':=YW P 310 "BadText" 16 107
def Mv:J':=V8 "BadText" 305 16 103
def Mw:J':=W' 105 SZ
def Hy:J':=YX P 310 16 107
def Hz:J':=YY "BadText" 109 303
def My:J':=Xa 109
def Mz:J':=Xb 109
def MA:J':=kt [z "value" 326]
def QM (a:M')(b:PD):J':=kg .none a a b 0 .none .none .none .none .none .none
def MB:J':=QM "is_whole" UQ
def bE (a:M')(b:M')(c:Nat)(d:Nat)(e:Nat)(f:Nat)(g:Nat):J':=kc a b c (c+1) (c+2) d e 3 f (f+1) (f+2) (f+3) (f+4) g d (g+1)
def HA:J':=bE "is_whole" "is_whole" 323 20 1 112 327
def bz (a:M')(b:PD)(c:G')(d:Nat):J':=kf a a b .none .none c (r d) .none
def HB:J':=bz "is_whole" UQ zz7 117
def MC:J':=kt [z "many" 333]
def MD:J':=QM "is_count" V5
def HC:J':=bE "is_count" "is_count" 330 22 1 119 334
def HD:J':=bz "is_count" V5 zz7 124
def ME:J':=kt [z "many" 340]
def MF:J':=QM "look_count" Z6
def HE:J':=bE "look_count" "look_count" 337 24 1 126 341
def HF:J':=bz "look_count" Z6 zz7 131
def MH:J':=QM "look_order" ε
def jv (a:M')(b:Nat)(c:Nat)(d:Nat)(e:Nat):J':=kj (.type "code") (.fields #[z a b,z a (b+1),z "/claim/cut.py" (b+2),i c 0,i d 0,i 0 0,i 0 0,i 3 0,r e,.bool true,i 181 0,r (e+1),.none,.none,.none,r (e+2),i (b+3) 0,i c 0,z "/claim/cut.py" (b+4)])
def HG:J':=jv "look_order" 344 27 2 133
def HH:J':=bz "look_order" ε zz7 136
def Ez:List Ro:=Ey P++[dk P "Shelf" 394 (r 161),dk P "look_book" 405 (r 172),dk P "look_parts" 412 (r 179),dk P "things_from" 422 (r 186),dk P "look_doors" 433 (r 193)]
def MI:J':=kj (.type "dict") (.dict ⟨dk P "__name__" 165 SD::Ez P⟩ 30)
def BZ:=BX++lt 39 143++lt 50 171++lt 58 178++lt 67 185++lt 73 192
def LD:J':=kl BZ
def MJ:J':=kj (.type "dict") (.dict #[dk P "__module__" 365 SD,dk P "__qualname__" 367 (z "Shelf" 366),dk P "__firstlineno__" 369 (i 39 368),dk P "__init__" 376 (r 151),dk P "keep" 384 (r 158),dk P "__static_attributes__" 387 (r 159)] 6)
def MK:J':=kj .none (.fields #[i 41 0,i 4 0,r 150,i 45 0,i 4 0,r 157])
def ML:J':=V8 "Shelf" 360 39 141
def MM:J':=W' 143 SD
def MN:J':=kt [z "self" 373]
def MO:J':=kg .none "__init__" "Shelf.__init__" (tJ ζ 0) 0 .none .none .none .none .none .none
def HI:J':=bE "__init__" "Shelf.__init__" 370 41 1 145 374
def HJ:J':=kf "__init__" "Shelf.__init__" (tJ ζ 0) .none .none SD (r 150) .none
def hJ (a:M')(b:Nat)(c:M'):J':=kt [z a b,z c (b+1)]
def MP:J':=hJ "self" 380 "room"
def MQ:J':=kg .none "keep" "Shelf.keep" (tJ ζ 1) 0 .none .none .none .none .none .none
def HK:J':=bE "keep" "Shelf.keep" 377 45 2 152 382
def HL:J':=kf "keep" "Shelf.keep" (tJ ζ 1) .none .none SD (r 157) .none
def MR:J':=hJ "numbers" 385 "rooms"
def HM:J':=kj (.type "dict") (.dict #[dk P "__module__" 365 SD,dk P "__firstlineno__" 369 (i 39 368),dk P "__init__" 376 (r 151),dk P "keep" 384 (r 158),dk P "__static_attributes__" 387 (r 159),dk P "__dict__" 389 (r 162),dk P "__weakref__" 391 (r 163),dk P "__doc__" 392 .none] 4)
def HN:J':=⟨(.type "type"),none,.cls { name:="Shelf",bases:=[.type "object"],mro:=[r 161,.type "object"],ns:=160,qualname:="Shelf",subclasses:=[] },#[none,none,(some (z "Shelf" 358)),(some (z "Shelf" 366)),(some (.builtin "object.__new__")),(some (.bool true))]⟩
def MS:J':=kj (.type "getset_descriptor") (.fields #[z "__dict__" 388,r 161,.builtin "function.__dict__",.builtin "function.__dict__#set"])
def MT:J':=kk3 390 161
def MU:J':=Xa 161
def MV:J':=Xb 161
def wu (a:M')(b:Nat)(c:M')(d:M')(e:M')(f:M'):J':=kt [z a b,z c (b+1),z d (b+2),z e (b+3),z f (b+4)]
def MW:J':=wu "book" 398 "many" "rooms" "first" "things"
def MX:J':=QM "look_book" s20
def HP:J':=bE "look_book" "look_book" 395 50 1 166 403
def HQ:J':=bz "look_book" s20 SD 171
def MY:J':=kt [z "book" 409]
def MZ:J':=QM "look_parts" s21
def HR:J':=bE "look_parts" "look_parts" 406 58 1 173 410
def HS:J':=bz "look_parts" s21 SD 178
def lU (a:M')(b:Nat)(c:M')(d:M')(e:M'):J':=kt [z a b,z c (b+1),z d (b+2),z e (b+3)]
def M0:J':=lU "many" 416 "rooms" "things" "room"
def M1:J':=QM "things_from" s22
def HU:J':=bE "things_from" "things_from" 413 67 2 180 420
def HV:J':=bz "things_from" s22 SD 185
def M3:J':=wu "many" 426 "room" "number" "last" "door"
def M4:J':=QM "look_doors" s23
def HW:J':=bE "look_doors" "look_doors" 423 73 3 187 431
def HX:J':=bz "look_doors" s23 SD 192
def EA:List Ro:=Ez P++[dk P "is_door" 440 (r 200),dk P "things_of_room" 446 (r 205),dk P "things_through" 456 (r 212),dk P "look_first" 465 (r 219),dk P "look_turn" 474 (r 226),dk P "walk_rooms" 484 (r 233),dk P "book_of" 495 (r 240),dk P "shelve" 501 (r 245),dk P "grown" 512 (r 252),dk P "grow" 526 (r 259)]
def M5:J':=kj (.type "dict") (.dict ⟨dk P "__name__" 165 zz6::EA P⟩ 40)
def x9:=BZ++lt 85 199++lt 87 204++lt 92 211++lt 98 218++lt 105 225++lt 112 232++lt 118 239++lt 127 244++lt 135 251++lt 139 258
def HY:J':=kl x9
def M6:J':=kt [z "door" 437]
def M7:J':=QM "is_door" s24
def HZ:J':=bE "is_door" "is_door" 434 85 1 194 438
def Ia:J':=bz "is_door" s24 SD 199
def M8:J':=QM "things_of_room" X7
def Id:J':=jv "things_of_room" 441 87 2 201
def Ie:J':=bz "things_of_room" X7 SD 204
def M9:J':=lU "door" 450 "things" "thing" "later"
def Na:J':=QM "things_through" X6
def Ig:J':=bE "things_through" "things_through" 447 92 2 206 454
def Ih:J':=bz "things_through" X6 SD 211
def Nb:J':=kt [z "many" 460,z "things" 461,z "first" 462]
def Nc:J':=QM "look_first" Z'
def Ii:J':=bE "look_first" "look_first" 457 98 3 213 463
def Ij:J':=bz "look_first" Z' SD 218
def Nd:J':=kt [z "rooms" 469,z "first" 470,z "walked" 471]
def Nf:J':=QM "look_turn" YU
def Ik:J':=bE "look_turn" "look_turn" 466 105 2 220 472
def Il:J':=bz "look_turn" YU SD 225
def Ng:J':=lU "rooms" 478 "number" "walked" "door"
def Nh:J':=QM "walk_rooms" s29
def Im:J':=bE "walk_rooms" "walk_rooms" 475 112 3 227 482
def Io:J':=bz "walk_rooms" s29 SD 232
def Ni:J':=wu "many" 488 "orders" "order" "shelf" "first"
def Nj:J':=QM "book_of" s30
def Ip:J':=bE "book_of" "book_of" 485 118 2 234 493
def Iq:J':=bz "book_of" s30 SD 239
def Nk:J':=QM "shelve" s31
def Ir:J':=jv "shelve" 496 127 3 241
def Iu:J':=bz "shelve" s31 SD 244
def Nl:J':=wu "many" 505 "state" "doors_from" "shelf" "first"
def Nm:J':=QM "grown" s32
def Iv:J':=bE "grown" "grown" 502 135 3 246 510
def Ix:J':=bz "grown" s32 SD 251
def Nn:J':=kt [z "shelf" 516,z "state" 517,z "doors_from" 518,z "known" 519,z "doors" 520,z "thing" 521,z "later" 522,z "number" 523]
def No:J':=QM "grow" s33
def Iy:J':=bE "grow" "grow" 513 139 4 253 524
def Iz:J':=bz "grow" s33 SD 258
def B0:List Ro:=EA P++[dk P "CLOSES" 551 (r 260),dk P "join_books" 564 (r 278),dk P "meet" 574 (r 285),dk P "doors_of_pair" 588 (r 292),dk P "doors_by_thing" 596 (r 299),dk P "MOST_WITHIN" 600 (i 6 599),dk P "NUMBERS_BEHIND" 613 (r 300),dk P "RULES_BEHIND" 623 (r 301)]
def LF:J':=kj (.type "dict") (.dict ⟨dk P "__name__" 165 TM::B0 P⟩ 48)
def ya:=x9++lt 150 277++lt 154 284++lt 161 291++lt 168 298
def IA:J':=kl ya
def IB:J':=kj (.type "dict") (.dict #[dk P "or" 529 (r 264),dk P "and" 536 (r 266),dk P "less" 539 (r 268),dk P "odd" 542 (r 271)] 4)
def IC:J':=kt [i 1 530,i 0 531]
def ID:J':=kt [i 0 532,i 1 533]
def IE:J':=kt [i 1 534,i 1 535]
def IG:J':=kt [r 261,r 262,r 263]
def IH:J':=kt [i 1 537,i 1 538]
def II:J':=kt [r 265]
def IJ:J':=kt [i 1 540,i 0 541]
def IK:J':=kt [r 267]
def IL:J':=kt [i 1 543,i 0 544]
def IM:J':=kt [i 0 545,i 1 546]
def IO:J':=kt [r 269,r 270]
def Np:J':=lU "word" 555 "one" "other" "first"
def Nq:J':=kt [z "one" 559,z "other" 560,z "closes" 561]
def Nr:J':=QM "join_books" s36
def IP:J':=bE "join_books" "join_books" 552 150 3 272 562
def IQ:J':=bz "join_books" s36 zz6 277
def Nt:J':=lU "closes" 568 "one" "other" "settled"
def Nu:J':=QM "meet" s37
def IR:J':=bE "meet" "meet" 565 154 3 279 572
def IT:J':=bz "meet" s37 zz6 284
def Nv:J':=kt [z "closes" 578,z "rooms" 579,z "others" 580,z "pair" 581,z "mine" 582,z "theirs" 583,z "found" 584,z "thing" 585]
def Nw:J':=QM "doors_of_pair" s38
def IU:J':=bE "doors_of_pair" "doors_of_pair" 575 161 4 286 586
def IV:J':=bz "doors_of_pair" s38 zz6 291
def Nx:J':=hJ "rooms" 592 "number"
def Ny:J':=QM "doors_by_thing" s39
def IW:J':=bE "doors_by_thing" "doors_by_thing" 589 168 2 293 594
def IX:J':=bz "doors_by_thing" s39 zz6 298
def IY:J':=kj (.type "dict") (.dict #[dk P "at" 601 (i 2 602),dk P "ahead" 603 (i 2 604),dk P "next" 605 (i 2 606),dk P "even" 607 (i 0 608)] 4)
def IZ:J':=kj (.type "dict") (.dict #[dk P "not" 614 (i 1 615),dk P "both" 616 (i 2 617),dk P "either" 618 (i 2 619)] 3)
def B5:List Ro:=B0 P++[dk P "JOINS" 630 (r 302),dk P "FREE" 632 (r 303),dk P "BROKEN" 634 (i 2 633),dk P "ruled" 642 (r 310),dk P "cut" 650 (r 317),dk P "look_rule" 660 (r 324),dk P "look_parts_behind" 668 (r 331),dk P "look_numbers" 677 (r 338),dk P "book_by_rule" 685 (r 345),dk P "book_of_walk" 695 (r 352),dk P "doors_by_rule" 701 (r 357),dk P "things_left" 707 (r 362),dk P "has_gone" 715 (r 369),dk P "state_behind" 726 (r 376)]
def LG:J':=kj (.type "dict") (.dict ⟨dk P "__name__" 165 TM::B5 P⟩ 62)
def yb:=ya++lt 179 309++lt 183 316++lt 187 323++lt 201 330++lt 204 337++lt 210 344++lt 216 351++lt 218 356++lt 220 361++lt 222 368++lt 224 375
def I0:J':=kl yb
def Ja:J':=kj (.type "dict") (.dict #[dk P "both" 624 (z "and" 625),dk P "either" 626 (z "or" 627)] 2)
def Jb:J':=kt [z "free" 631]
def Nz:J':=kt []
def NB:J':=kj .none (.fields #[])
def NC:J':=hJ "many" 638 "rule"
def ND:J':=kt []
def NE:J':=QM "ruled" s47
def Jc:J':=bE "ruled" "ruled" 635 179 2 304 640
def Jd:J':=bz "ruled" s47 TM 309
def NF:J':=kt []
def NG:J':=kj .none (.fields #[])
def NH:J':=hJ "book" 646 "rule"
def NI:J':=kt []
def NJ:J':=QM "cut" s48
def Je:J':=bE "cut" "cut" 643 183 2 311 648
def Jf:J':=bz "cut" s48 TM 316
def NK:J':=kt []
def NM:J':=kj .none (.fields #[])
def NO:J':=lU "many" 654 "rule" "depth" "part"
def NP:J':=kt []
def NQ:J':=QM "look_rule" s49
def Jg:J':=bE "look_rule" "look_rule" 651 187 3 318 658
def Jh:J':=bz "look_rule" s49 TM 323
def NR:J':=kt []
def NS:J':=kj .none (.fields #[])
def NT:J':=hJ "rule" 664 "count"
def NU:J':=kt []
def NV:J':=QM "look_parts_behind" s50
def Ji:J':=bE "look_parts_behind" "look_parts_behind" 661 201 2 325 666
def Jj:J':=bz "look_parts_behind" s50 TM 330
def NW:J':=kt []
def NX:J':=kj .none (.fields #[])
def NY:J':=kt [z "many" 672,z "rule" 673,z "number" 674]
def NZ:J':=kt []
def N0:J':=QM "look_numbers" s51
def Jk:J':=bE "look_numbers" "look_numbers" 669 204 2 332 675
def Jl:J':=bz "look_numbers" s51 TM 337
def N1:J':=kt []
def N3:J':=kj .none (.fields #[])
def N4:J':=hJ "many" 681 "rule"
def N5:J':=kt []
def N7:J':=QM "book_by_rule" s52
def Jm:J':=bE "book_by_rule" "book_by_rule" 678 210 2 339 683
def Jn:J':=bz "book_by_rule" s52 TM 344
def N8:J':=kt []
def N9:J':=kj .none (.fields #[])
def Oa:J':=hJ "many" 689 "rule"
def Ob:J':=hJ "many" 691 "rule"
def Oc:J':=QM "book_of_walk" s53
def Jo:J':=bE "book_of_walk" "book_of_walk" 686 216 2 346 693
def Jp:J':=bz "book_of_walk" s53 TM 351
def Od:J':=kt []
def Oe:J':=kj .none (.fields #[])
def Og:J':=QM "doors_by_rule" s54
def Jq:J':=jv "doors_by_rule" 696 218 3 353
def Jr:J':=bz "doors_by_rule" s54 TM 356
def Oh:J':=kt []
def Oi:J':=kj .none (.fields #[])
def Oj:J':=QM "things_left" s55
def Js:J':=jv "things_left" 702 220 2 358
def Jt:J':=bz "things_left" s55 TM 361
def Ol:J':=kt []
def Om:J':=kj .none (.fields #[])
def Oo:J':=hJ "gone" 711 "thing"
def Op:J':=kt []
def Oq:J':=QM "has_gone" s56
def Ju:J':=bE "has_gone" "has_gone" 708 222 2 363 713
def Jv:J':=bz "has_gone" s56 TM 368
def Os:J':=kt []
def Ot:J':=kj .none (.fields #[])
def Ou:J':=wu "many" 719 "rule" "state" "thing" "mark"
def Ov:J':=kt []
def Ow:J':=QM "state_behind" s57
def Jw:J':=bE "state_behind" "state_behind" 716 224 4 370 724
def Jx:J':=bz "state_behind" s57 TM 375
def Jy:List Ro:=B5 P++[dk P "mark_behind" 736 (r 383),dk P "mark_behind_next" 745 (r 390),dk P "crossed_by" 751 (r 395),dk P "_law_cell" 761 (r 402),dk P "_law_mix" 770 (r 409),dk P "_law_all" 776 (r 414),dk P "_law_set" 782 (r 419),dk P "_law_rule" 788 (r 424),dk P "_law_refusal" 796 (r 431),dk P "_law_good" 802 (r 436),dk P "_law_spoilt" 812 (r 443),dk P "_law_told" 825 (r 450),dk P "law" 838 (r 457)]
def zC:J':=kj (.type "dict") (.dict ⟨dk P "__name__" 165 VG::Jy P⟩ 75)
def F5:=yb++lt 231 382++lt 241 389++lt 245 394++lt 248 401++lt 252 408++lt 256 413++lt 264 418++lt 274 423++lt 286 430++lt 295 435++lt 304 442++lt 313 449++lt 326 456
def B6:J':=kl F5
def Ox:J':=kt []
def Oy:J':=kj .none (.fields #[])
def Oz:J':=lU "many" 730 "rule" "state" "thing"
def OA:J':=kt []
def OB:J':=QM "mark_behind" s58
def Jz:J':=bE "mark_behind" "mark_behind" 727 231 4 377 734
def JA:J':=bz "mark_behind" s58 TM 382
def OC:J':=kt []
def OD:J':=kj .none (.fields #[])
def OE:J':=kt [z "rule" 740,z "state" 741,z "thing" 742]
def OG:J':=kt []
def OH:J':=QM "mark_behind_next" s59
def JB:J':=bE "mark_behind_next" "mark_behind_next" 737 241 3 384 743
def JC:J':=bz "mark_behind_next" s59 TM 389
def OI:J':=kt []
def OJ:J':=kj .none (.fields #[])
def OK:J':=QM "crossed_by" s60
def JD:J':=jv "crossed_by" 746 245 3 391
def JE:J':=bz "crossed_by" s60 TM 394
def OM:J':=kt []
def jw:J':=kj .none (.fields #[])
def OO:J':=hJ "_law_script" 757 "_law_k"
def fQ:J':=kt []
def OP:J':=QM "_law_cell" s62
def JF:J':=bE "_law_cell" "_law_cell" 754 248 2 396 759
def JG:J':=bz "_law_cell" s62 VG 401
def OQ:J':=kt [z "_law_script" 765,z "_law_k" 766,z "_law_number" 767]
def OS:J':=QM "_law_mix" s63
def JH:J':=bE "_law_mix" "_law_mix" 762 252 2 403 768
def JI:J':=bz "_law_mix" s63 VG 408
def OT:J':=QM "_law_all" s64
def JJ:J':=jv "_law_all" 771 256 1 410
def JK:J':=bz "_law_all" s64 VG 413
def OU:J':=QM "_law_set" s65
def JL:J':=jv "_law_set" 777 264 3 415
def JM:J':=bz "_law_set" s65 VG 418
def OV:J':=QM "_law_rule" s66
def JN:J':=jv "_law_rule" 783 274 4 420
def JO:J':=bz "_law_rule" s66 VG 423
def OW:J':=hJ "_law_kept" 792 "_law_kinds"
def OX:J':=QM "_law_refusal" s67
def JP:J':=bE "_law_refusal" "_law_refusal" 789 286 1 425 794
def JQ:J':=bz "_law_refusal" s67 VG 430
def OY:J':=QM "_law_good" s68
def JR:J':=jv "_law_good" 797 295 3 432
def JS:J':=bz "_law_good" s68 VG 435
def OZ:J':=lU "_law_rule_here" 806 "_law_many" "_law_number" "_law_bad"
def O0:J':=QM "_law_spoilt" s69
def JT:J':=bE "_law_spoilt" "_law_spoilt" 803 304 3 437 810
def JU:J':=bz "_law_spoilt" s69 VG 442
def O1:J':=kt [z "_law_many" 816,z "_law_book" 817,z "_law_rule_here" 818,z "_law_words" 819,z "_law_way" 820,z "_law_kept" 821,z "e" 822]
def O2:J':=QM "_law_told" s70
def JV:J':=bE "_law_told" "_law_told" 813 313 3 444 823
def JW:J':=bz "_law_told" s70 VG 449
def O3:J':=kt [z "_law_script" 829,z "_law_many" 830,z "_law_rule_here" 831,z "_law_number" 832,z "_law_k" 833,z "_law_book" 834,z "_law_due" 835]
def O4:J':=QM "law" s71
def JX:J':=bE "law" "law" 826 326 1 451 836
def JZ:J':=bz "law" s71 VG 456
def ev:List J'->List J'
 | x::_::r=>x::ev r
 | l=>l
def od:List J'->List J'
 | _::y::r=>y::od r
 | _=>[]
def tr:Nat->List J'->BT
 | n+1,x::r=>.node x (tr n (ev r)) (tr n (od r))
 | _,_=>.nil
def zD (x3 RQ RS:J'):List J':=[boot_o_0 P,boot_o_1 P,boot_o_2 P,x3,boot_o_4 P,boot_o_5 P,boot_o_6 P,boot_o_7 P,boot_o_8 P,boot_o_9 P,boot_o_10 P,o11,RQ,o13,o14]
abbrev F6:=zD
def J0 (x3 RQ RS:J'):List J':=zD P x3 RQ RS++[o15,WZ,o17 P,o11,o12,o20,o21,o11,o23 P,RS,o25,o26,o27]
def J2 (x3 RQ RS:J'):List J':=J0 P x3 RQ RS++[YV,WZ,o30 P,o31,Ry,o33,o34,Qt,o36 P,o37,o38,o39]
def J3 (x3 RQ RS:J'):List J':=J2 P x3 RQ RS++[YV,WZ,o42 P,Qt,Ry,o45,o46,Qt,o48 P,o49,o50,o51]
def J4 (x3 RQ RS:J'):List J':=J3 P x3 RQ RS++[YV,WZ,o54 P,Qt,Ry,o57,o58,Qt,o60 P,o61,o62,o63]
def J6 (x3 RQ RS:J'):List J':=J4 P x3 RQ RS++[YV,WZ,o66 P,Qt,Ry,o69,o70,Qt,o72 P,o73,o74,o75]
def Ka (x3 RQ RS:J'):List J':=J6 P x3 RQ RS++[YV,WZ,o78 P,Qt,Ry,o81,o82,Qt,o84 P,o85,o86,o87]
def Kb (x3 RQ RS:J'):List J':=Ka P x3 RQ RS++[YV,WZ,o90 P,Qt,Ry,o93,o94,Qt,o96 P,o97,o98,o99]
def Kc (x3 RQ RS:J'):List J':=Kb P x3 RQ RS++[YV,WZ,Mu P,Qt,Ry,Mv,Mw,Qt,Hy P,Hz,My,Mz,Qt,Ry,MA,Qt,MB,HA,HB,Qt,Ry,MC,Qt,MD,HC,HD,Qt,Ry,ME,Qt,MF,HE,HF,Qt,Ry,MH,HG,HH]
def Ke (x3 RQ RS:J'):List J':=Kc P x3 RQ RS++[Qt,WZ,MJ P,Qt,MK,ML,MM,Qt,Ry,MN,Qt,MO,HI,HJ,Qt,Ry,MP,Qt,MQ,HK,HL,MR,HM P,HN,MS,MT,MU,MV,Qt,Ry,MW,Qt,MX,HP,HQ,Qt,Ry,MY,Qt,MZ,HR,HS,Qt,Ry,M0,Qt,M1,HU,HV,Qt,Ry,M3,Qt,M4,HW,HX]
def Kf (x3 RQ RS:J'):List J':=Ke P x3 RQ RS++[Qt,Ry,M6,Qt,M7,HZ,Ia,Qt,Ry,M8,Id,Ie,Qt,Ry,M9,Qt,Na,Ig,Ih,Qt,Ry,Nb,Qt,Nc,Ii,Ij,Qt,Ry,Nd,Qt,Nf,Ik,Il,Qt,Ry,Ng,Qt,Nh,Im,Io,Qt,Ry,Ni,Qt,Nj,Ip,Iq,Qt,Ry,Nk,Ir,Iu,Qt,Ry,Nl,Qt,Nm,Iv,Ix,Qt,Ry,Nn,Qt,No,Iy,Iz]
def EB (x3 RQ RS:J'):List J':=Kf P x3 RQ RS++[IB P,IC,ID,IE,IG,IH,II,IJ,IK,IL,IM,IO,Qt,Ry,Np,Nq,Nr,IP,IQ,Qt,Ry,Nt,Qt,Nu,IR,IT,Qt,Ry,Nv,Qt,Nw,IU,IV,Qt,Ry,Nx,Qt,Ny,IW,IX,IY P,IZ P]
def EC (x3 RQ RS:J'):List J':=EB P x3 RQ RS++[Ja P,Jb,Nz,NB,NC,ND,NE,Jc,Jd,NF,NG,NH,NI,NJ,Je,Jf,NK,NM,NO,NP,NQ,Jg,Jh,NR,NS,NT,NU,NV,Ji,Jj,NW,NX,NY,NZ,N0,Jk,Jl,N1,N3,N4,N5,N7,Jm,Jn,N8,N9,Oa,Ob,Oc,Jo,Jp,Od,Oe,Og,Jq,Jr,Oh,Oi,Oj,Js,Jt,Ol,Om,Oo,Op,Oq,Ju,Jv,Os,Ot,Ou,Ov,Ow,Jw,Jx]
def ED (x3 RQ RS:J'):List J':=EC P x3 RQ RS++[Ox,Oy,Oz,OA,OB,Jz,JA,OC,OD,OE,OG,OH,JB,JC,OI,OJ,OK,JD,JE,OM,jw,OO,fQ,OP,JF,JG,fQ,jw,OQ,fQ,OS,JH,JI,fQ,jw,OT,JJ,JK,fQ,jw,OU,JL,JM,fQ,jw,OV,JN,JO,fQ,jw,OW,fQ,OX,JP,JQ,fQ,jw,OY,JR,JS,fQ,jw,OZ,fQ,O0,JT,JU,fQ,jw,O1,fQ,O2,JV,JW,fQ,jw,O3,fQ,O4,JX,JZ]
def yc:BT:=tr 10 (F6 P (boot_o_3 P) (o12) (o14))
def Kg:BT:=tr 10 (J0 P (o3 P) (Lo) (o24))
def Kh:BT:=tr 10 (J2 P (Mm P) (Lp) (Lq))
def Ki:BT:=tr 10 (J3 P (Mo P) (Lr) (Ls))
def Kj:BT:=tr 10 (J4 P (Mp P) (Lu) (Lv))
def Kk:BT:=tr 10 (J6 P (Mq P) (Lw) (Lx))
def Kl:BT:=tr 10 (Ka P (Mr P) (Ly) (Lz))
def Km:BT:=tr 10 (Kb P (Ms P) (LA) (LB))
def Kn:BT:=tr 10 (Kc P (Mt P) (LC) (jm))
def Ko:BT:=tr 10 (Ke P (MI P) (LD) (jm))
def zE:BT:=tr 10 (Kf P (M5 P) (HY) (jm))
def mT:BT:=tr 10 (EB P (LF P) (IA) (jm))
def tK:BT:=tr 10 (EC P (LG P) (I0) (jm))
def EF:BT:=tr 10 (ED P (zC P) (B6) (jm))
def hA:Ps:=⟨⟨zD P (boot_o_3 P) (o12) (o14)⟩,{}⟩
def hF:Ps:=⟨⟨ED P (zC P) (B6) (jm)⟩,{}⟩
def K:Frag:=(nat_lit 2,boot_o_2 P)::(nat_lit 3,zC P)::(nat_lit 23,o23 P)::(nat_lit 24,jm)::(nat_lit 36,o36 P)::(nat_lit 37,o37)::(nat_lit 48,o48 P)::(nat_lit 49,o49)::(nat_lit 60,o60 P)::(nat_lit 61,o61)::(nat_lit 72,o72 P)::(nat_lit 73,o73)::(nat_lit 84,o84 P)::(nat_lit 85,o85)::(nat_lit 96,o96 P)::(nat_lit 97,o97)::(nat_lit 108,Hy P)::(nat_lit 109,Hz)::(nat_lit 117,HA)::(nat_lit 118,HB)::(nat_lit 124,HC)::(nat_lit 125,HD)::(nat_lit 131,HE)::(nat_lit 132,HF)::(nat_lit 136,HG)::(nat_lit 137,HH)::(nat_lit 150,HI)::(nat_lit 151,HJ)::(nat_lit 157,HK)::(nat_lit 158,HL)::(nat_lit 160,HM P)::(nat_lit 161,HN)::(nat_lit 171,HP)::(nat_lit 172,HQ)::(nat_lit 178,HR)::(nat_lit 179,HS)::(nat_lit 185,HU)::(nat_lit 186,HV)::(nat_lit 192,HW)::(nat_lit 193,HX)::(nat_lit 199,HZ)::(nat_lit 200,Ia)::(nat_lit 204,Id)::(nat_lit 205,Ie)::(nat_lit 211,Ig)::(nat_lit 212,Ih)::(nat_lit 218,Ii)::(nat_lit 219,Ij)::(nat_lit 225,Ik)::(nat_lit 226,Il)::(nat_lit 232,Im)::(nat_lit 233,Io)::(nat_lit 239,Ip)::(nat_lit 240,Iq)::(nat_lit 244,Ir)::(nat_lit 245,Iu)::(nat_lit 251,Iv)::(nat_lit 252,Ix)::(nat_lit 258,Iy)::(nat_lit 259,Iz)::(nat_lit 260,IB P)::(nat_lit 261,IC)::(nat_lit 262,ID)::(nat_lit 263,IE)::(nat_lit 264,IG)::(nat_lit 265,IH)::(nat_lit 266,II)::(nat_lit 267,IJ)::(nat_lit 268,IK)::(nat_lit 269,IL)::(nat_lit 270,IM)::(nat_lit 271,IO)::(nat_lit 277,IP)::(nat_lit 278,IQ)::(nat_lit 284,IR)::(nat_lit 285,IT)::(nat_lit 291,IU)::(nat_lit 292,IV)::(nat_lit 298,IW)::(nat_lit 299,IX)::(nat_lit 300,IY P)::(nat_lit 301,IZ P)::(nat_lit 302,Ja P)::(nat_lit 303,Jb)::(nat_lit 309,Jc)::(nat_lit 310,Jd)::(nat_lit 316,Je)::(nat_lit 317,Jf)::(nat_lit 323,Jg)::(nat_lit 324,Jh)::(nat_lit 330,Ji)::(nat_lit 331,Jj)::(nat_lit 337,Jk)::(nat_lit 338,Jl)::(nat_lit 344,Jm)::(nat_lit 345,Jn)::(nat_lit 351,Jo)::(nat_lit 352,Jp)::(nat_lit 356,Jq)::(nat_lit 357,Jr)::(nat_lit 361,Js)::(nat_lit 362,Jt)::(nat_lit 368,Ju)::(nat_lit 369,Jv)::(nat_lit 375,Jw)::(nat_lit 376,Jx)::(nat_lit 382,Jz)::(nat_lit 383,JA)::(nat_lit 389,JB)::(nat_lit 390,JC)::(nat_lit 394,JD)::(nat_lit 395,JE)::(nat_lit 401,JF)::(nat_lit 402,JG)::(nat_lit 408,JH)::(nat_lit 409,JI)::(nat_lit 413,JJ)::(nat_lit 414,JK)::(nat_lit 418,JL)::(nat_lit 419,JM)::(nat_lit 423,JN)::(nat_lit 424,JO)::(nat_lit 430,JP)::(nat_lit 431,JQ)::(nat_lit 435,JR)::(nat_lit 436,JS)::(nat_lit 442,JT)::(nat_lit 443,JU)::(nat_lit 449,JV)::(nat_lit 450,JW)::(nat_lit 456,JX)::(nat_lit 457,JZ)::[]
def as_:List D':=[2,3,23,24,36,37,48,49,60,61,72,73,84,85,96,97,108,109,117,118,124,125,131,132,136,137,150,151,157,158,160,161,171,172,178,179,185,186,192,193,199,200,204,205,211,212,218,219,225,226,232,233,239,240,244,245,251,252,258,259,260,261,262,263,264,265,266,267,268,269,270,271,277,278,284,285,291,292,298,299,300,301,302,303,309,310,316,317,323,324,330,331,337,338,344,345,351,352,356,357,361,362,368,369,375,376,382,383,389,390,394,395,401,402,408,409,413,414,418,419,423,424,430,431,435,436,442,443,449,450,456,457]
def B:List Frame:=[topFrame ⟨0,0,0,0⟩]
def env:RD:={ scope:=pw.main.scope,locals:=mainNs,globals:=mainNs,cells:=[],code:=(.ref 13),frame:=some 14 }
def cE:Code:=.body (behindTheImports pw) env
def sT (t:Yo->BT)(n k:Nat)(w:Pz)(os:RM):SharedT:=⟨t w.params,n,{},⟨[]⟩,{},k,os⟩
def sH (h:Yo->Ps)(k:Nat)(w:Pz)(os:RM):N':=⟨h w.params,⟨[]⟩,{},k,os⟩
def sO (w:Pz)(os:RM):N':=⟨Î w.params,⟨[]⟩,boot_drawn,boot_toks,os⟩
theorem O5 (w)(os):topGo treeTable pw w 11 (some (.ref 6)) 12 (sO w os) (topStub pw)=some (sH hA 187 w os,⟨denote treeTable cE,cE,⟨0,0,0,0⟩,B⟩):=by
 rewrite [W.Fast.te15667345088766844465,Tg,W.Fast.te11892475500146522536];kernel_rfl
theorem Kp (w)(os):segRun treeTable pw w 11 (some (.ref 6)) 1 1 (sH hA 187 w os) (blockOf (behindTheImports pw) env cE ⟨0,0,0,0⟩ B)=some (.next,(sT yc 15 187 w os).abs,cE,⟨0,0,0,0⟩):=by
 rewrite [W.Fast.te14374325043358763698,Tg];kernel_rfl
def Kq:List PD:=[s0,s1]
theorem O6 (w)(os):segRunT treeTable pw w 11 (some (.ref 6)) 1 196 (sT yc 15 187 w os) (piecesOf Kq env cE ⟨0,0,0,0⟩ B)=some (.next,sT Kg 28 207 w os,cE,⟨2,0,3,8⟩):=by
 rewrite [Ud,Tg];kernel_rfl
def Kr:List PD:=[s2]
theorem O7 (w)(os):segRunT treeTable pw w 11 (some (.ref 6)) 1 214 (sT Kg 28 207 w os) (piecesOf Kr env cE ⟨2,0,3,8⟩ B)=some (.next,sT Kh 40 223 w os,cE,⟨4,0,5,8⟩):=by
 rewrite [Ud,Tg];kernel_rfl
def Ks:List PD:=[s3]
theorem O8 (w)(os):segRunT treeTable pw w 11 (some (.ref 6)) 1 214 (sT Kh 40 223 w os) (piecesOf Ks env cE ⟨4,0,5,8⟩ B)=some (.next,sT Ki 52 239 w os,cE,⟨6,0,7,8⟩):=by
 rewrite [Ud,Tg];kernel_rfl
def Kt:List PD:=[s4]
theorem O9 (w)(os):segRunT treeTable pw w 11 (some (.ref 6)) 1 214 (sT Ki 52 239 w os) (piecesOf Kt env cE ⟨6,0,7,8⟩ B)=some (.next,sT Kj 64 255 w os,cE,⟨8,0,9,8⟩):=by
 rewrite [Ud,Tg];kernel_rfl
def Ku:List PD:=[s5]
theorem Pa (w)(os):segRunT treeTable pw w 11 (some (.ref 6)) 1 214 (sT Kj 64 255 w os) (piecesOf Ku env cE ⟨8,0,9,8⟩ B)=some (.next,sT Kk 76 271 w os,cE,⟨10,0,11,8⟩):=by
 rewrite [Ud,Tg];kernel_rfl
def Kv:List PD:=[s6]
theorem Pb (w)(os):segRunT treeTable pw w 11 (some (.ref 6)) 1 214 (sT Kk 76 271 w os) (piecesOf Kv env cE ⟨10,0,11,8⟩ B)=some (.next,sT Kl 88 287 w os,cE,⟨12,0,13,8⟩):=by
 rewrite [Ud,Tg];kernel_rfl
def Kw:List PD:=[s7]
theorem Pc (w)(os):segRunT treeTable pw w 11 (some (.ref 6)) 1 214 (sT Kl 88 287 w os) (piecesOf Kw env cE ⟨12,0,13,8⟩ B)=some (.next,sT Km 100 303 w os,cE,⟨14,0,15,8⟩):=by
 rewrite [Ud,Tg];kernel_rfl
def Kx:List PD:=[s8,s9,TH,UQ,V5,Z6,ε,s15,s16,s17,s18]
theorem Pd (w)(os):segRunT treeTable pw w 11 (some (.ref 6)) 1 381 (sT Km 100 303 w os) (piecesOf Kx env cE ⟨14,0,15,8⟩ B)=some (.next,sT Kn 138 358 w os,cE,⟨38,0,38,6⟩):=by
 rewrite [Ud,Tg];kernel_rfl
def Ky:List PD:=[ζ,s20,s21,s22,s23]
theorem Pe (w)(os):segRunT treeTable pw w 11 (some (.ref 6)) 1 382 (sT Kn 138 358 w os) (piecesOf Ky env cE ⟨38,0,38,6⟩ B)=some (.next,sT Ko 194 434 w os,cE,⟨73,0,84,22⟩):=by
 rewrite [Ud,Tg];kernel_rfl
def Kz:List PD:=[s24,X7,X6,Z',YU,s29,s30,s31,s32,s33,s34]
theorem Pf (w)(os):segRunT treeTable pw w 11 (some (.ref 6)) 1 319 (sT Ko 194 434 w os) (piecesOf Kz env cE ⟨73,0,84,22⟩ B)=some (.next,sT zE 260 529 w os,cE,⟨148,0,148,8⟩):=by
 rewrite [Ud,Tg];kernel_rfl
def tL:List PD:=[s35,s36,s37,s38,s39,s40,s41,s42,s43]
theorem wL (w)(os):segRunT treeTable pw (Vf w "special-get-raises" false) 11 (some (.ref 6)) 1 379 (sT zE 260 529 (Vf w "special-get-raises" false) os) (piecesOf tL env cE ⟨148,0,148,8⟩ B)=some (.next,sT mT 302 624 (Vf w "special-get-raises" false) os,cE,⟨175,0,175,12⟩):=by
 rewrite [Ud,Tg];kernel_rfl
theorem zF (w)(os):segRunT treeTable pw (Vf w "special-get-raises" true) 11 (some (.ref 6)) 1 379 (sT zE 260 529 (Vf w "special-get-raises" true) os) (piecesOf tL env cE ⟨148,0,148,8⟩ B)=some (.next,sT mT 302 624 (Vf w "special-get-raises" true) os,cE,⟨175,0,175,12⟩):=by
 rewrite [Ud,Tg];kernel_rfl
theorem LH (w)(os):segRunT treeTable pw w 11 (some (.ref 6)) 1 379 (sT zE 260 529 w os) (piecesOf tL env cE ⟨148,0,148,8⟩ B)=some (.next,sT mT 302 624 w os,cE,⟨175,0,175,12⟩):=by
 have e:=agf w "special-get-raises";cases hb:w.params.followText "special-get-raises" <;> rw[hb] at e
 .have h:=wL w os;rw[e] at h;exact h
 .have h:=zF w os;rw[e] at h;exact h
def tM:List PD:=[s44,Z0,s46,s47,s48,s49,s50,s51,s52,s53,s54,s55,s56,s57]
theorem wM (w)(os):segRunT treeTable pw (Vf w "special-get-raises" false) 11 (some (.ref 6)) 1 391 (sT mT 302 624 (Vf w "special-get-raises" false) os) (piecesOf tM env cE ⟨175,0,175,12⟩ B)=some (.next,sT tK 377 727 (Vf w "special-get-raises" false) os,cE,⟨224,0,230,40⟩):=by
 rewrite [Ud,Tg];kernel_rfl
theorem zG (w)(os):segRunT treeTable pw (Vf w "special-get-raises" true) 11 (some (.ref 6)) 1 391 (sT mT 302 624 (Vf w "special-get-raises" true) os) (piecesOf tM env cE ⟨175,0,175,12⟩ B)=some (.next,sT tK 377 727 (Vf w "special-get-raises" true) os,cE,⟨224,0,230,40⟩):=by
 rewrite [Ud,Tg];kernel_rfl
theorem LI (w)(os):segRunT treeTable pw w 11 (some (.ref 6)) 1 391 (sT mT 302 624 w os) (piecesOf tM env cE ⟨175,0,175,12⟩ B)=some (.next,sT tK 377 727 w os,cE,⟨224,0,230,40⟩):=by
 have e:=agf w "special-get-raises";cases hb:w.params.followText "special-get-raises" <;> rw[hb] at e
 .have h:=wM w os;rw[e] at h;exact h
 .have h:=zG w os;rw[e] at h;exact h
def EG:List PD:=[s58,s59,s60,s61,s62,s63,s64,s65,s66,s67,s68,s69,s70,s71]
theorem LJ (w)(os):segRunT treeTable pw w 11 (some (.ref 6)) 1 396 (sT tK 377 727 w os) (piecesOf EG env cE ⟨224,0,230,40⟩ B)=some (.next,sT EF 458 839 w os,cE,⟨326,0,339,106⟩):=by
 rewrite [Ud,Tg];kernel_rfl
theorem Ph (w)(os):topRun treeTable pw w 11 (some (.ref 6)) 2 (sT EF 458 839 w os).abs (restOf [] env cE ⟨326,0,339,106⟩ B)=some (sH hF 839 w os):=by
 rewrite [W.Fast.te14082659384304107361,Tg];kernel_rfl
theorem LK:behindTheImports pw=Kq++(Kr++(Ks++(Kt++(Ku++(Kv++(Kw++(Kx++(Ky++(Kz++(tL++(tM++(EG++[])))))))))))):=by kernel_rfl
theorem Pi (w)(os):topRun treeTable pw w 11 (some (.ref 6)) (12+(1+(196+(214+(214+(214+(214+(214+(214+(381+(382+(319+(379+(391+(396+(2)))))))))))))))) (sO w os) (topStub pw)=some (sH hF 839 w os):=by
 refine go_top (O5 w os) (piece_block (Kp w os) ?_);rw[LK];exact UZ (U0 (O6 w os)) (UZ (U0 (O7 w os)) (UZ (U0 (O8 w os)) (UZ (U0 (O9 w os)) (UZ (U0 (Pa w os)) (UZ (U0 (Pb w os)) (UZ (U0 (Pc w os)) (UZ (U0 (Pd w os)) (UZ (U0 (Pe w os)) (UZ (U0 (Pf w os)) (UZ (U0 (LH w os)) (UZ (U0 (LI w os)) (UZ (U0 (LJ w os)) (Ph w os)))))))))))))
def jx:PU:={ pw with main:={ pw.main with body:=[s1,s2,s3,s4,s5,s6,s7,s8,TH,UQ,V5,Z6,ε,s16,s17,s18,ζ,s20,s21,s22,s23,s24,X7,X6,Z',YU,s29,s30,s31,s32,s33,s35,s36,s37,s38,s39,s41,s42,s43,s44,Z0,s46,s47,s48,s49,s50,s51,s52,s53,s54,s55,s56,s57,s58,s59,s60,s62,s63,s64,s65,s66,s67,s68,s69,s70,s71] } }
abbrev DV:WRecords:=RowW.records (OpenRow.toRowW (OpenLaw.row PySem.Challenge.rw_ordernest_k31_no_rules))
def Xt (s:N'):Bool:=xlAt jx [] s&&recOk DV s
abbrev H:Hook:=kHook K as_ (λ_=>by kernel_rfl)
theorem LL (w:Pz):((Î w.params).isNs Qq&&(Array.mk ([]:List À)).size==0,(Î w.params).objs.size,(Î w.params).nsMap Qq "__annotations__")=(true,11,(some (.ref 6))):=by kernel_rfl
open PyProof.Rows in
theorem LM (w:Pz) (os:RM):openSeen jx ["CLOSES","NUMBERS_BEHIND","RULES_BEHIND","JOINS"] (importedModules pw.main.body) Xt true (sH hF 839 w os)=openGood jx ["CLOSES","NUMBERS_BEHIND","RULES_BEHIND","JOINS"]:=by
 unfold openSeen openGood
 refine Wl ?a (Wl ?b (Wl ?c (Wl ?d (Wl ?e (Wl ?f (Wl ?g (Wl ?h ?i)))))))
 case a=>rewrite [W.Fast.te5160383126252970620,W.R.mapR_eq,afE,W.Fast.te5991557255702980513];kernel_rfl
 case b=>kernel_rfl
 case c=>rewrite [W.Fast.te10880121769531294198,afK,W.R.mapR_eq,afE,W.Fast.te7409074990110511671,W.Fast.te13664370479719496447,W.Fast.te14722251495701143533,afF,W.Fast.te10994771534591457954];kernel_rfl
 case d=>rewrite [W.Fast.te479339242167458305];kernel_rfl
 case e=>rewrite [W.Fast.te16090120013241838585,W.Fast.te3247288618530077131];kernel_rfl
 case f=>rewrite [W.Fast.te2386780881361962483,afK];kernel_rfl
 case g=>rewrite [W.Fast.te11698064438423848299];kernel_rfl
 case h=>rewrite [W.Fast.te7317090234206586261];kernel_rfl
 case i=>rewrite [W.Fast.te7369524293546568484];kernel_rfl
theorem LN (w)(os):(staticsOk (importedModules pw.main.body) (Î w.params) (hF w.params)&&namesBound pw (hF w.params)&&gensDone (sH hF 839 w os)&&laidKept (Î w.params) (hF w.params))=true:=by
 rewrite [afF];kernel_rfl
theorem Pj (w)(os):Hook.obs H (sH hF 839 w os)=Hook.val H w:=by kernel_rfl
theorem DX:opening pw=plainProg pw.main.scope.names:=by kernel_rfl
theorem LO:LeftO pw jx ["CLOSES","NUMBERS_BEHIND","RULES_BEHIND","JOINS"] Xt (Hook.obs H) (Hook.val H) 7556:=
 LeftO.of_pieces (H₁:=hF) (boot_open DX rfl λs=>by kernel_rfl) LL Pi rfl λw=>funext λos=>Wl (LN w os) (Wl (LM w os) (Pj w os))
end
end Vw
namespace L2
open PySem PySem.Spec PyProof.Rows
structure Dn (K)(x)(st)(f)(fd):Prop where
 fn:Qh K x x st f fd
 ns:Q0 K Qq x=some (some (.ref f))
theorem bg {K:Po}{x:M'}{st:PD}{f:D'}{oc:G'}{od an:Option D'}{SV:Array (Option G')}{kV doc pm P3 ct:G'}(a:Q0 K Qq x=some (some (.ref f)))(l:K.lookup f=some ⟨oc,od,.func (Wo x x (dQ st) (bR st) (ao st) .none kV doc pm an P3 ct),SV⟩)(c:î K P3 x=true)(k:Vj K (.ref f)=true):
  Dn K x st f (Wo x x (dQ st) (bR st) (ao st) .none kV doc pm an P3 ct):=⟨Ac l c k,a⟩
theorem Dn.df {P:PU}{w:Pz}{K:Po}{mg:M'->Option G'}{base h:Ps}{CX:Si}{k:Nat}{x:M'}{st:PD}{f:D'}{fd:P5}{ps:List M'}{sp:Sp}(D:Dn K x st f fd)(X:K.In h)(G:h.Ns Qq mg)(b:bA K fd ps [])(F:P4 P w K mg base CX k f fd ps sp):Df P w K mg base CX k x ps sp:=⟨f,fd,F,b,D.fn.kp,Rx X G D.ns⟩
theorem Dn.dg (P:PU)(w:Pz){K:Po}{mg:M'->Option G'}(base:Ps){h:Ps}{CX:Si}{k:Nat}{x:M'}{st:PD}{f:D'}{fd:P5}{ps:List M'}{sp:Sp}(D:Dn K x st f fd)(X:K.In h)(G:h.Ns Qq mg)(b:bA K fd ps [])(F:P4 P w K mg base CX k f fd ps sp):Df P w K mg base CX k x ps sp:=⟨f,fd,F,b,D.fn.kp,Rx X G D.ns⟩
structure Mn (K)(C)(x qual)(st)(f)(fd):Prop where
 fn:Qh K x qual st f fd
 mt:XB K C x f
theorem EH {K:Po}{C:D'}{x qual:M'}{st:PD}{f:D'}{oc:G'}{od an:Option D'}{SV:Array (Option G')}{kV doc pm P3 ct:G'}(a:RY K (.ref C) x=some (some (.ref f)))(i:W.isFn K (.ref f)=true)(l:K.lookup f=some ⟨oc,od,.func (Wo x qual (dQ st) (bR st) (ao st) .none kV doc pm an P3 ct),SV⟩)(c:î K P3 qual=true)(k:Vj K (.ref f)=true):
  Mn K C x qual st f (Wo x qual (dQ st) (bR st) (ao st) .none kV doc pm an P3 ct):=⟨Ac l c k,a,i,k⟩
theorem gM {p:List G'->Prop}(h:∀a,p [a])(us:List G')(e:us.length=1):p us:=by
 cases us with
 | nil=>cases e
 | cons a us=>cases us with
 | nil=>exact h a
 | cons x us=>cases e
theorem dq {p:List G'->Prop}(h:∀a b,p [a,b])(us:List G')(e:us.length=2):p us:=by
 cases us with
 | nil=>cases e
 | cons a us=>cases us with
 | nil=>cases e
 | cons b us=>cases us with
 | nil=>exact h a b
 | cons x us=>cases e
theorem eC {p:List G'->Prop}(h:∀a b c,p [a,b,c])(us:List G')(e:us.length=3):p us:=by
 cases us with
 | nil=>cases e
 | cons a us=>cases us with
 | nil=>cases e
 | cons b us=>cases us with
 | nil=>cases e
 | cons c us=>cases us with
 | nil=>exact h a b c
 | cons x us=>cases e
theorem pO {p:List G'->Prop}(h:∀a b c d,p [a,b,c,d])(us:List G')(e:us.length=4):p us:=by
 cases us with
 | nil=>cases e
 | cons a us=>cases us with
 | nil=>cases e
 | cons b us=>cases us with
 | nil=>cases e
 | cons c us=>cases us with
 | nil=>cases e
 | cons d us=>cases us with
 | nil=>exact h a b c d
 | cons x us=>cases e
end L2
namespace Ord
open PySem L2 Mx
theorem Kd.mk' (X:K.In h)(G:h.Ns Qq mg)(ho:QF K C (.ref C)=some true)(a:Q0 K Qq x=some (some (.ref D)))(c:SQ K D=true)(t:VN K (.ref D)=some (.type "type"))(m:QF K C (.ref D)=some b):Kd K mg C x b:=by
 refine⟨D,Rx X G a,?_⟩;rw[EW ⟨c,t⟩ m]
 by_cases e:C=D
 .subst e;rw[ho] at m;cases m;rw[PK rfl]
 .rw[Pr e]
theorem KB {l:W.OpenLaw}{w:Pz}{K:Po}{h:Ps}{mg:M'->Option G'}{fa CO CB CR CE C c0 Pt c1 Pw aC aN aR aJ aF:D'}(X:K.In h)(G:h.Ns Qq mg)(hfa:mg "law"=some (.ref fa)){t8 t0 t1 t2 tb:Sh}{fi fk:D'}{gi gk:P5}{f0 f1 f2 f3 f4 f5 f6 f7 f8 f9 f10 f11 f12 f13 f14 f15 f16 f17 f18 f19 f20 f21 f22 f23 f24 f25 f26 f27 f28 f29 f30 f31 f32 f33 f34 f35 f36 f37 f38 f39 f40 f41 f42 f43 f44 f45:D'}{g0 g1 g2 g3 g4 g5 g6 g7 g8 g9 g10 g11 g12 g13 g14 g15 g16 g17 g18 g19 g20 g21 g22 g23 g24 g25 g26 g27 g28 g29 g30 g31 g32 g33 g34 g35 g36 g37 g38 g39 g40 g41 g42 g43 g44 g45:P5}(d0:Dn K "is_whole" ul f0 g0)(d1:Dn K "is_count" um f1 g1)(d2:Dn K "look_count" uo f2 g2)(d3:Dn K "look_order" sZ f3 g3)(d4:Dn K "is_door" uW f4 g4)(d5:Dn K "things_through" nQ f5 g5)(d6:Dn K "look_parts" uZ f6 g6)(d7:Dn K "look_first" uY f7 g7)(d8:Dn K "look_doors" uX f8 g8)(d9:Dn K "things_of_room" mD f9 g9)(d10:Dn K "things_from" yO f10 g10)(d11:Dn K "walk_rooms" tz f11 g11)(d12:Dn K "look_turn" u8 f12 g12)(d13:Dn K "look_book" yP f13 g13)(d14:Dn K "shelve" jQ f14 g14)(d15:Dn K "book_of" qw f15 g15)(d16:Dn K "grow" mL f16 g16)(θ:Dn K "grown" pi f17 g17)(d18:Dn K "meet" tE f18 g18)(d19:Dn K "doors_by_thing" nY f19 g19)(d20:Dn K "doors_of_pair" mM f20 g20)(d21:Dn K "join_books" cQ f21 g21)(d22:Dn K "look_parts_behind" qE f22 g22)(d23:Dn K "look_numbers" vQ f23 g23)(d24:Dn K "look_rule" lO f24 g24)(Xc:Dn K "has_gone" zm f25 g25)(d26:Dn K "things_left" tG f26 g26)(d27:Dn K "crossed_by" kE f27 g27)(d28:Dn K "mark_behind_next" vH f28 g28)(d29:Dn K "mark_behind" vI f29 g29)(d30:Dn K "state_behind" qC f30 g30)(d31:Dn K "doors_by_rule" mP f31 g31)(d32:Dn K "book_of_walk" cK f32 g32)(d33:Dn K "book_by_rule" mQ f33 g33)(d34:Dn K "ruled" wb f34 g34)(d35:Dn K "cut" DK f35 g35)(d36:Dn K "_law_cell" zq f36 g36)(d37:Dn K "_law_mix" DB f37 g37)(d38:Dn K "_law_all" Wu f38 g38)(d39:Dn K "_law_set" vU f39 g39)(d40:Dn K "_law_rule" lQ f40 g40)(d41:Dn K "_law_refusal" zz f41 g41)(d42:Dn K "_law_good" cZ f42 g42)(d43:Dn K "_law_spoilt" kL f43 g43)(d44:Dn K "_law_told" zA f44 g44)(d45:Dn K "law" DC f45 g45)(aS:Q0 K Qq "Shelf"=some (some (.ref C)))(mi:Mn K C "__init__" "Shelf.__init__" yV fi gi)(mk:Mn K C "keep" "Shelf.keep" tD fk gk)(pg:ñ K C M'.empty=true)(hd:į K C=true)(po:W.plainOver K C=true)(sa:RY K (.ref C) "__setattr__"=some (some (.builtin "object.__setattr__")))(ms:W.makesIn K C=true)(kc:Vj K (.ref C)=true)(nR:RY K (.ref C) "rooms"=some none)(nN:RY K (.ref C) "numbers"=some none)(tj:Xw K "join_books"=some (c0,Pt))(kp:K.lookup Pt=none)(tw:Xw K "book_of_walk"=some (c1,Pw))(kw:K.lookup Pw=none)(ne:Pt≠Pw){kvs kN kR kJ:List (Key×G')}(TC:TxC l.prog w K mg aC kvs)(xo:Ì K CO bmV "ValueError.__new__"=true)(xb:Ì K CB bmV "ValueError.__new__"=true)(xr:Ì K CR bmV "ValueError.__new__"=true)(cn:Q0 K Qq "NestError"=some (some (.ref CE)))(nt:W.instIn K (.ref CE) (.type "tuple")=some false)(xc:QF K CE (.type "BaseException")=some true)(cl:SQ K CE=true){D1 D4 D5 D6:D'}(ι:Q0 K Qq "BadBook"=some (some (.ref CB)))(nc0:SQ K CB=true)(ny0:VN K (.ref CB)=some (.type "type"))(na1:Q0 K Qq "BadNumber"=some (some (.ref D1)))(nc1:SQ K D1=true)(ny1:VN K (.ref D1)=some (.type "type"))(μ:Q0 K Qq "BadOrder"=some (some (.ref CO)))(nc2:SQ K CO=true)(ny2:VN K (.ref CO)=some (.type "type"))(ν:Q0 K Qq "BadRule"=some (some (.ref CR)))(nc3:SQ K CR=true)(ny3:VN K (.ref CR)=some (.type "type"))(na4:Q0 K Qq "BadText"=some (some (.ref D4)))(nc4:SQ K D4=true)(ny4:VN K (.ref D4)=some (.type "type"))(na5:Q0 K Qq "BadWeights"=some (some (.ref D5)))(nc5:SQ K D5=true)(ny5:VN K (.ref D5)=some (.type "type"))(na6:Q0 K Qq "Unlike"=some (some (.ref D6)))(nc6:SQ K D6=true)(ny6:VN K (.ref D6)=some (.type "type"))(onb:QF K CB (.ref CE)=some true)(eb1:SQ K CB=true)(eb2:RY K (.ref CB) "__getattribute__"=some (some (.builtin "BaseException.__getattribute__")))(eb3:RY K (.ref CB) "__getattr__"=some none)(eb4:RY K (.ref CB) "__class__"=some (some (.builtin "object.__class__")))(eb5:QF K CB (.type "object")=some true)(eb6:QF K CB (.type "BaseException")=some true)(Xd:QF K CB (.ref CB)=some true)(eb8:QF K CB (.type "ValueError")=some true)(mb0:QF K CB (.ref CB)=some true)(mb1:QF K CB (.ref D1)=some false)(mb2:QF K CB (.ref CO)=some false)(mb3:QF K CB (.ref CR)=some false)(mb4:QF K CB (.ref D4)=some false)(mb5:QF K CB (.ref D5)=some false)(mb6:QF K CB (.ref D6)=some false)(onr:QF K CR (.ref CE)=some true)(er1:SQ K CR=true)(er2:RY K (.ref CR) "__getattribute__"=some (some (.builtin "BaseException.__getattribute__")))(er3:RY K (.ref CR) "__getattr__"=some none)(er4:RY K (.ref CR) "__class__"=some (some (.builtin "object.__class__")))(er5:QF K CR (.type "object")=some true)(er6:QF K CR (.type "BaseException")=some true)(Xe:QF K CR (.ref CR)=some true)(er8:QF K CR (.type "ValueError")=some true)(mr0:QF K CR (.ref CB)=some false)(mr1:QF K CR (.ref D1)=some false)(mr2:QF K CR (.ref CO)=some false)(mr3:QF K CR (.ref CR)=some true)(mr4:QF K CR (.ref D4)=some false)(mr5:QF K CR (.ref D5)=some false)(mr6:QF K CR (.ref D6)=some false)(ono:QF K CO (.ref CE)=some true)(eo1:SQ K CO=true)(eo2:RY K (.ref CO) "__getattribute__"=some (some (.builtin "BaseException.__getattribute__")))(η:RY K (.ref CO) "__getattr__"=some none)(eo4:RY K (.ref CO) "__class__"=some (some (.builtin "object.__class__")))(eo5:QF K CO (.type "object")=some true)(eo6:QF K CO (.type "BaseException")=some true)(Xf:QF K CO (.ref CO)=some true)(eo8:QF K CO (.type "ValueError")=some true)(mo0:QF K CO (.ref CB)=some false)(mo1:QF K CO (.ref D1)=some false)(mo2:QF K CO (.ref CO)=some true)(mo3:QF K CO (.ref CR)=some false)(mo4:QF K CO (.ref D4)=some false)(mo5:QF K CO (.ref D5)=some false)(mo6:QF K CO (.ref D6)=some false)(m8:Q0 K Qq "MOST_THINGS"=some (some (.int 8 t8)))(m0:Q0 K Qq "NO_ROOM"=some (some (.int 0 t0)))(m1:Q0 K Qq "END"=some (some (.int 1 t1)))(m2:Q0 K Qq "LOWEST"=some (some (.int 2 t2)))(mb:Q0 K Qq "BROKEN"=some (some (.int 2 tb)))(z0:Q0 K Qq "isinstance"=some none)(z1:Q0 K Qq "int"=some none)(z2:Q0 K Qq "bool"=some none)(z3:Q0 K Qq "tuple"=some none)(z4:Q0 K Qq "list"=some none)(z5:Q0 K Qq "range"=some none)(z6:Q0 K Qq "sorted"=some none)(z7:Q0 K Qq "all"=some none)(z8:Q0 K Qq "len"=some none)(z9:Q0 K Qq "enumerate"=some none)(z10:Q0 K Qq "set"=some none)(z11:Q0 K Qq "min"=some none)(z12:Q0 K Qq "dict"=some none)(z13:Q0 K Qq "max"=some none)(z14:Q0 K Qq "ValueError"=some none)(TRm:YT K mg CO->VE l.prog w K mg CO aN aR aJ aF kN kR kJ)(TO:TxO kN kR): ∃(fd:P5) (c Pt c' Pw:D'),Xw K "join_books"=some (c,Pt)/\(K).lookup Pt=none/\Xw K "book_of_walk"=some (c',Pw)/\(K).lookup Pw=none/\Pt≠Pw/\(∀(s:N') (v:G'),Á s fd ⟨[v],[]⟩ [("_law_script",v)])/\∀base:Ps,(K).In base->base.Ns Qq mg->TW base c Pt->TW base c' Pw->Bm mg base->P4 l.prog w (K) mg base PV 23 fa fd ["_law_script"] (tI (K) Pt Pw):=by
 have e:=hfa.symm.trans (Rx X G d45.ns);cases e;have T0:Txt K mg CO:=⟨⟨Rx X G μ,xo⟩,⟨t8,Rx X G m8⟩,S0 X G z0,S0 X G z1,S0 X G z2,S0 X G z3,S0 X G z4,S0 X G z5,S0 X G z6,S0 X G z7,S0 X G z8,S0 X G z9⟩
 have T:Rf K mg CO:=⟨T0,⟨t0,Rx X G m0⟩,⟨t1,Rx X G m1⟩,⟨t2,Rx X G m2⟩,S0 X G z10⟩
 have TJ:TxJ K mg CO:=⟨T,S0 X G z11,S0 X G z12⟩
 have TK:YT K mg CO:=⟨T,⟨tb,Rx X G mb⟩⟩
 have TR:=TRm TK;have BB:VS K mg "BadBook" CB:=⟨Rx X G ι,xb⟩
 have RO:VS K mg "BadRule" CR:=⟨Rx X G ν,xr⟩
 have E0:Tr K mg CE:=⟨Rx X G cn,nt,xc,cl⟩
 have RB:Hr K mg CB:=⟨Kd.mk' X G Xd ι nc0 ny0 mb0,Kd.mk' X G Xd na1 nc1 ny1 mb1,Kd.mk' X G Xd μ nc2 ny2 mb2,Kd.mk' X G Xd ν nc3 ny3 mb3,Kd.mk' X G Xd na4 nc4 ny4 mb4,Kd.mk' X G Xd na5 nc5 ny5 mb5,Kd.mk' X G Xd na6 nc6 ny6 mb6,⟨eb1,eb2,eb3,eb4,eb5,eb6⟩,S0 X G z14,ui eb8,rfl,rfl,λi hi=>by (first|trivial|lia),rfl⟩
 have RR:Ht K mg CR:=⟨Kd.mk' X G Xe ι nc0 ny0 mr0,Kd.mk' X G Xe na1 nc1 ny1 mr1,Kd.mk' X G Xe μ nc2 ny2 mr2,Kd.mk' X G Xe ν nc3 ny3 mr3,Kd.mk' X G Xe na4 nc4 ny4 mr4,Kd.mk' X G Xe na5 nc5 ny5 mr5,Kd.mk' X G Xe na6 nc6 ny6 mr6,⟨er1,er2,er3,er4,er5,er6⟩,S0 X G z14,ui er8,rfl,rfl,λi hi=>by
   have:i=0\/i=1\/i=2:=by lia
   rcases this with rfl|rfl|rfl <;> rfl,rfl⟩
 have RZ:Hs K mg CO:=⟨Kd.mk' X G Xf ι nc0 ny0 mo0,Kd.mk' X G Xf na1 nc1 ny1 mo1,Kd.mk' X G Xf μ nc2 ny2 mo2,Kd.mk' X G Xf ν nc3 ny3 mo3,Kd.mk' X G Xf na4 nc4 ny4 mo4,Kd.mk' X G Xf na5 nc5 ny5 mo5,Kd.mk' X G Xf na6 nc6 ny6 mo6,⟨eo1,eo2,η,eo4,eo5,eo6⟩,S0 X G z14,ui eo8,rfl,rfl,λi hi=>by
   have:i=0\/i=1:=by lia
   rcases this with rfl|rfl <;> rfl,rfl⟩
 have c:V2 K C:=⟨⟨pg,hd,po,sa⟩,nR,nN⟩
 have M:Mk K C fi:=⟨ms,mi.mt.at_,mi.mt.fn,kc⟩
 have mC:=Rx X G aS;have bi:=mi.fn.binds (ps:=["self"]) λ_ _ _ _ _ _=>gM λ_=>rfl;have bk:=mk.fn.binds (ps:=["self","room"]) λ_ _ _ _ _ _=>dq λ_ _=>rfl;have b0:=d0.fn.binds (ps:=["value"]) λ_ _ _ _ _ _=>gM λ_=>rfl;have b1:=d1.fn.binds (ps:=["many"]) λ_ _ _ _ _ _=>gM λ_=>rfl;have b2:=d2.fn.binds (ps:=["many"]) λ_ _ _ _ _ _=>gM λ_=>rfl;have b3:=d3.fn.binds (ps:=["many","order"]) λ_ _ _ _ _ _=>dq λ_ _=>rfl;have b4:=d4.fn.binds (ps:=["door"]) λ_ _ _ _ _ _=>gM λ_=>rfl;have b5:=d5.fn.binds (ps:=["door","things"]) λ_ _ _ _ _ _=>dq λ_ _=>rfl;have b6:=d6.fn.binds (ps:=["book"]) λ_ _ _ _ _ _=>gM λ_=>rfl;have b7:=d7.fn.binds (ps:=["many","things","first"]) λ_ _ _ _ _ _=>eC λ_ _ _=>rfl;have b8:=d8.fn.binds (ps:=["many","room","number"]) λ_ _ _ _ _ _=>eC λ_ _ _=>rfl;have b9:=d9.fn.binds (ps:=["room","things"]) λ_ _ _ _ _ _=>dq λ_ _=>rfl;have b10:=d10.fn.binds (ps:=["many","rooms"]) λ_ _ _ _ _ _=>dq λ_ _=>rfl;have b11:=d11.fn.binds (ps:=["rooms","number","walked"]) λ_ _ _ _ _ _=>eC λ_ _ _=>rfl;have b12:=d12.fn.binds (ps:=["rooms","first"]) λ_ _ _ _ _ _=>dq λ_ _=>rfl;have b13:=d13.fn.binds (ps:=["book"]) λ_ _ _ _ _ _=>gM λ_=>rfl;have b14:=d14.fn.binds (ps:=["shelf","orders","place"]) λ_ _ _ _ _ _=>eC λ_ _ _=>rfl;have b15:=d15.fn.binds (ps:=["many","orders"]) λ_ _ _ _ _ _=>dq λ_ _=>rfl;have b16:=d16.fn.binds (ps:=["shelf","state","doors_from","known"]) λ_ _ _ _ _ _=>pO λ_ _ _ _=>rfl;have b17:=θ.fn.binds (ps:=["many","state","doors_from"]) λ_ _ _ _ _ _=>eC λ_ _ _=>rfl;have b18:=d18.fn.binds (ps:=["closes","one","other"]) λ_ _ _ _ _ _=>eC λ_ _ _=>rfl;have b19:=d19.fn.binds (ps:=["rooms","number"]) λ_ _ _ _ _ _=>dq λ_ _=>rfl;have b20:=d20.fn.binds (ps:=["closes","rooms","others","pair"]) λ_ _ _ _ _ _=>pO λ_ _ _ _=>rfl;have b21:=d21.fn.binds (ps:=["word","one","other"]) λ_ _ _ _ _ _=>eC λ_ _ _=>rfl;have b22:=d22.fn.binds (ps:=["rule","count"]) λ_ _ _ _ _ _=>dq λ_ _=>rfl;have b23:=d23.fn.binds (ps:=["many","rule"]) λ_ _ _ _ _ _=>dq λ_ _=>rfl;have b24:=d24.fn.binds (ps:=["many","rule","depth"]) λ_ _ _ _ _ _=>eC λ_ _ _=>rfl;have b25:=Xc.fn.binds (ps:=["gone","thing"]) λ_ _ _ _ _ _=>dq λ_ _=>rfl;have b26:=d26.fn.binds (ps:=["many","gone"]) λ_ _ _ _ _ _=>dq λ_ _=>rfl;have b27:=d27.fn.binds (ps:=["many","gone","thing"]) λ_ _ _ _ _ _=>eC λ_ _ _=>rfl;have b28:=d28.fn.binds (ps:=["rule","state","thing"]) λ_ _ _ _ _ _=>eC λ_ _ _=>rfl;have b29:=d29.fn.binds (ps:=["many","rule","state","thing"]) λ_ _ _ _ _ _=>pO λ_ _ _ _=>rfl;have b30:=d30.fn.binds (ps:=["many","rule","state","thing"]) λ_ _ _ _ _ _=>pO λ_ _ _ _=>rfl;have b31:=d31.fn.binds (ps:=["many","rule","state"]) λ_ _ _ _ _ _=>eC λ_ _ _=>rfl;have b32:=d32.fn.binds (ps:=["many","rule"]) λ_ _ _ _ _ _=>dq λ_ _=>rfl;have b33:=d33.fn.binds (ps:=["many","rule"]) λ_ _ _ _ _ _=>dq λ_ _=>rfl;have b34:=d34.fn.binds (ps:=["many","rule"]) λ_ _ _ _ _ _=>dq λ_ _=>rfl;have b35:=d35.fn.binds (ps:=["book","rule"]) λ_ _ _ _ _ _=>dq λ_ _=>rfl;have b36:=d36.fn.binds (ps:=["_law_script","_law_k"]) λ_ _ _ _ _ _=>dq λ_ _=>rfl;have b37:=d37.fn.binds (ps:=["_law_script","_law_k"]) λ_ _ _ _ _ _=>dq λ_ _=>rfl;have b38:=d38.fn.binds (ps:=["_law_many"]) λ_ _ _ _ _ _=>gM λ_=>rfl;have b39:=d39.fn.binds (ps:=["_law_script","_law_k","_law_many"]) λ_ _ _ _ _ _=>eC λ_ _ _=>rfl;have b40:=d40.fn.binds (ps:=["_law_script","_law_k","_law_many","_law_deep"]) λ_ _ _ _ _ _=>pO λ_ _ _ _=>rfl;have b41:=d41.fn.binds (ps:=["_law_kept"]) λ_ _ _ _ _ _=>gM λ_=>rfl;have b42:=d42.fn.binds (ps:=["_law_many","_law_rule_here","_law_deep"]) λ_ _ _ _ _ _=>eC λ_ _ _=>rfl;have b43:=d43.fn.binds (ps:=["_law_rule_here","_law_many","_law_number"]) λ_ _ _ _ _ _=>eC λ_ _ _=>rfl;have b44:=d44.fn.binds (ps:=["_law_many","_law_book","_law_rule_here"]) λ_ _ _ _ _ _=>eC λ_ _ _=>rfl;have b45:=d45.fn.binds (ps:=["_law_script"]) λ_ _ _ _ _ _=>gM λ_=>rfl;refine⟨g45,c0,Pt,c1,Pw,tj,kp,tw,kw,ne,λs v=>?_,λbase _ _ CH CW bm=>?_⟩
 .obtain⟨oc,od,kV,doc,pm,an,P3,ct,SV,rfl,lk,R5⟩:=d45.fn.ex;exact .of_eq rfl
 have DP:∀Rk,Mod K mg Rk->Df l.prog w K mg Rk PV 2 "doors_of_pair" ["closes","rooms","others","pair"] (iY K):=λRk _=>d20.df X G b20 (su d20.fn TJ (d19.df X G b19 (pC d19.fn TJ)) (d18.df X G b18 (xN d18.fn TJ)));have DW:∀Rk,Mod K mg Rk->Df l.prog w K mg Rk PV 5 "doors_by_rule" ["many","rule","state"] (i5 K):=λRk _=>(d31.df X G b31 (sG d31.fn (d26.df X G b26 (xO d26.fn T (Xc.df X G b25 (mO Xc.fn)))) (d30.df X G b30 (sE d30.fn TK (d29.df X G b29 (vL d29.fn TK (Xc.df X G b25 (mO Xc.fn)) (d28.df X G b28 (vK d28.fn TK)) (d27.df X G b27 (pH d27.fn T (Xc.df X G b25 (mO Xc.fn))))))))))
 have GR:∀Rk,Mod K mg Rk->iE l.prog w K mg Rk f17 g17:=λRk _=>Dq θ.fn d16.fn T c M (xD mi.fn c) bi mC mk.mt (xE mk.fn T c) bk b16 (Rx X G d16.ns);have Fi:=xD (P:=l.prog) (w:=w) (mg:=mg) (base:=base) mi.fn c;have Fk:=xE (P:=l.prog) (w:=w) (base:=base) mk.fn T c;have W0:=d0.dg l.prog w base X G b0 (Cq d0.fn T.t);have W1:=d1.dg l.prog w base X G b1 (Cr d1.fn T.t W0);have W2:=d2.dg l.prog w base X G b2 (Cs d2.fn T.t W1);have W3:=d3.dg l.prog w base X G b3 (E2 d3.fn T.t W2 W0);have W4:=d4.dg l.prog w base X G b4 (C3 d4.fn T W0);have W5:=d5.dg l.prog w base X G b5 (yQ d5.fn);have W6:=d6.dg l.prog w base X G b6 (C4 d6.fn T W0 W1);have W7:=d7.dg l.prog w base X G b7 (Bz d7.fn T BB);have W8:=d8.dg l.prog w base X G b8 (C6 d8.fn T W4);have W9:=d9.dg l.prog w base X G b9 (AO d9.fn T W5);have W10:=d10.dg l.prog w base X G b10 (Ft d10.fn T W8 W9);have W11:=λn=>d11.dg l.prog w base X G b11 (xx d11.fn T b11 (Rx X G d11.ns) n);have W12:=d12.dg l.prog w base X G b12 (C8 8 d12.fn T (W11 8));have W13:=d13.dg l.prog w base X G b13 (DJ d13.fn W6 W10 W7 W12);have W14:=λn=>d14.dg l.prog w base X G b14 (se d14.fn T c mk.mt Fk bk b14 (Rx X G d14.ns) n);have W15:=d15.dg l.prog w base X G b15 (A6 d15.fn T c M Fi bi mC W2 W3 W14);have W18:=d18.dg l.prog w base X G b18 (xN d18.fn TJ);have W19:=d19.dg l.prog w base X G b19 (pC d19.fn TJ);have W20:=d20.dg l.prog w base X G b20 (su d20.fn TJ W19 W18);have W21:=d21.dg l.prog w base X G b21 (Dr d21.fn (d21.fn.code X G tj (Rx X G d21.ns)) CH bm TJ TC W18 DP GR (Rx X G θ.ns) θ.fn.kp b17);have W22:=d22.dg l.prog w base X G b22 (zy d22.fn T RO);have W23:=d23.dg l.prog w base X G b23 (BD d23.fn RO W0);have W24:=λn=>d24.dg l.prog w base X G b24 (wa d24.fn TR TO RO W22 W23 b24 (Rx X G d24.ns) n);have W25:=Xc.dg l.prog w base X G b25 (mO Xc.fn);have W26:=d26.dg l.prog w base X G b26 (xO d26.fn T W25);have W27:=d27.dg l.prog w base X G b27 (pH d27.fn T W25);have W28:=d28.dg l.prog w base X G b28 (vK d28.fn TK);have W29:=d29.dg l.prog w base X G b29 (vL d29.fn TK W25 W28 W27);have W30:=d30.dg l.prog w base X G b30 (sE d30.fn TK W29);have W31:=d31.dg l.prog w base X G b31 (sG d31.fn W26 W30);have W32:=d32.dg l.prog w base X G b32 (Bq d32.fn (d32.fn.code X G tw (Rx X G d32.ns)) CW bm DW GR (Rx X G θ.ns) θ.fn.kp b17);have W33:=λn=>d33.dg l.prog w base X G b33 (sK d33.fn TR W21 W32 b33 (Rx X G d33.ns) n);have W34:=d34.dg l.prog w base X G b34 (BG d34.fn W2 (W24 6) (W33 6));have W35:=d35.dg l.prog w base X G b35 (FU d35.fn W13 (W24 6) (W33 6) W21);have W36:=d36.dg l.prog w base X G b36 (FQ d36.fn T);have W37:=d37.dg l.prog w base X G b37 (Hi d37.fn T W36);have W38:=d38.dg l.prog w base X G b38 (Hj d38.fn T);have W39:=d39.dg l.prog w base X G b39 (Hk d39.fn T W38 W37);have W40:=λn=>d40.dg l.prog w base X G b40 (wm d40.fn T W37 b40 (Rx X G d40.ns) n);have W41:=d41.dg l.prog w base X G b41 (F1 d41.fn T);have W42:=λn=>d42.dg l.prog w base X G b42 (wj d42.fn T (S0 X G z11) (S0 X G z13) b42 (Rx X G d42.ns) n);have W43:=λn=>d43.dg l.prog w base X G b43 (pN d43.fn b43 (Rx X G d43.ns) n);have W44:=d44.dg l.prog w base X G b44 (F2 d44.fn T E0 onb ono onr RB RZ RR W34 W35 W41);exact Hu d45.fn T W37 (W40 3) (W43 3) W39 W15 (W42 6) W44
theorem walk {l:W.OpenLaw}{q:PU}{loose:List M'}{XP:(M'->Option G')->Ps->Prop}{YP:Pz->Ps->Prop}{d:Zv}{K:Yo->Po}(hn:l.most=some 63)(hdf:d.params.defaults=[])(hj:((ags q).find? (λe:Zv=>e.name==("join_books":M'))).isSome=true)(hw:((ags q).find? (λe:Zv=>e.name==("book_of_walk":M'))).isSome=true)(hY:∀(w:Pz) (h:Ps),YP w h->(K w.params).In h)(F:∀(w:Pz) (mg:M'->Option G') (fa:D') (h:Ps),(K w.params).In h->h.Ns Qq mg->mg d.name=some (.ref fa)->∃(fd:P5) (c Pt c' Pw:D'),Xw (K w.params) "join_books"=some (c,Pt)/\((K w.params)).lookup Pt=none/\Xw (K w.params) "book_of_walk"=some (c',Pw)/\((K w.params)).lookup Pw=none/\Pt≠Pw/\(∀(s:N') (v:G'),Á s fd ⟨[v],[]⟩ [("_law_script",v)])/\∀base:Ps,((K w.params)).In base->base.Ns Qq mg->TW base c Pt->TW base c' Pw->Bm mg base->P4 l.prog w ((K w.params)) mg base PV 23 fa fd ["_law_script"] (tI ((K w.params)) Pt Pw)):
  W.WalkO q loose XP YP l.row.toRowW d [] (λf vs=>ĸ f vs):=by
 obtain⟨dj,hj⟩:=V9.mp hj;obtain⟨dw,hw⟩:=V9.mp hw;exact L2.DU (n:=63) (k:=23) (x:="_law_script") (xj:="join_books") (xw:="book_of_walk") (CX:=λ_=>PV) (sp:=λw=>tI (K w.params)) hn (by decide) hdf ⟨rfl,by decide,by decide,rfl⟩ hj hw hY F (λ_ _ a Pt Pw ns hl ne hT WX hS=>⟨a,ns,rfl,hS,⟨ne,⟨#[],hT,trivial,.inl rfl⟩,⟨#[],WX,trivial,.inl rfl⟩⟩,λ_=>rfl⟩) λ_ _ _ _ _ z=>z
end Ord
open PySem PySem.W PyProof.Rows
theorem Vw.ahL:((recsOf Vw.jx).find? (λe:Zv=>e.name==("join_books":M'))).isSome=true:=by kernel_rfl
theorem Vw.ahM:((recsOf Vw.jx).find? (λe:Zv=>e.name==("book_of_walk":M'))).isSome=true:=by kernel_rfl
set_option maxRecDepth 100000 in
set_option maxHeartbeats 0 in
theorem PySem.Challenge.cw_ordernest_k31_no_rules_holds : PySem.Challenge.rw_ordernest_k31_no_rules.Holds := by
 w_on;refine holds_law (by kernel_rfl) λsaid=>?_
 refine holds_open (q:=Vw.jx) (loose:=["CLOSES","NUMBERS_BEHIND","RULES_BEHIND","JOINS"]) (Xt:=Vw.Xt) (XP:=XL Vw.jx []) (Yf:=Hook.obs Vw.H) (Ya:=Hook.val Vw.H)
  (YP:=Hook.says Vw.H) (N:=7556) Vw.LO (Hook.of Vw.H) (Hook.keeps Vw.H) (λs e=>xl_of s (agk.mp (id e:(xlAt Vw.jx [] s&&recOk Vw.DV s)=true)).1) XL.keeps
  (by rfl) (by rfl) (by rfl) (λs e=>recFacts_of (agk.mp (id e:(xlAt Vw.jx [] s&&recOk Vw.DV s)=true)).2) (by rfl)
  (by assumption) (by decide +kernel) ⟨rfl,rfl,rfl,rfl,rfl,by decide +kernel⟩ ?hw ?hc
 (case hw=>w_witness2)
 refine Ord.walk (l:=PySem.Challenge.rw_ordernest_k31_no_rules) rfl rfl Vw.ahL Vw.ahM (λw h Y=>W.kIn_of Y) ?F
 case F=>
  intro w mg fa h KX G hmg
  k_fill
  refine' Ord.KB (c0:=277) (Pt:=273) (c1:=351) (Pw:=347) KX G hmg (L2.bg ?a0 ?l0 ?c0 ?k0) (L2.bg ?a1 ?l1 ?c1 ?k1) (L2.bg ?a2 ?l2 ?c2 ?k2) (L2.bg ?a3 ?l3 ?c3 ?k3) (L2.bg ?a4 ?l4 ?c4 ?k4) (L2.bg ?a5 ?l5 ?c5 ?k5) (L2.bg ?a6 ?l6 ?c6 ?k6) (L2.bg ?a7 ?l7 ?c7 ?k7) (L2.bg ?a8 ?l8 ?c8 ?k8) (L2.bg ?a9 ?l9 ?c9 ?k9) (L2.bg ?a10 ?l10 ?c10 ?k10) (L2.bg ?a11 ?l11 ?c11 ?k11) (L2.bg ?a12 ?l12 ?c12 ?k12) (L2.bg ?a13 ?l13 ?c13 ?k13) (L2.bg ?a14 ?l14 ?c14 ?k14) (L2.bg ?a15 ?l15 ?c15 ?k15) (L2.bg ?a16 ?l16 ?c16 ?k16) (L2.bg ?a17 ?l17 ?c17 ?k17) (L2.bg ?a18 ?l18 ?c18 ?k18) (L2.bg ?a19 ?l19 ?c19 ?k19) (L2.bg ?a20 ?l20 ?c20 ?k20) (L2.bg ?a21 ?l21 ?c21 ?k21) (L2.bg ?a22 ?l22 ?c22 ?k22) (L2.bg ?a23 ?l23 ?c23 ?k23) (L2.bg ?a24 ?l24 ?c24 ?k24) (L2.bg ?a25 ?l25 ?c25 ?k25) (L2.bg ?a26 ?l26 ?c26 ?k26) (L2.bg ?a27 ?l27 ?c27 ?k27) (L2.bg ?a28 ?l28 ?c28 ?k28) (L2.bg ?a29 ?l29 ?c29 ?k29) (L2.bg ?a30 ?l30 ?c30 ?k30) (L2.bg ?a31 ?l31 ?c31 ?k31) (L2.bg ?a32 ?l32 ?c32 ?k32) (L2.bg ?a33 ?l33 ?c33 ?k33) (L2.bg ?a34 ?l34 ?c34 ?k34) (L2.bg ?a35 ?l35 ?c35 ?k35) (L2.bg ?a36 ?l36 ?c36 ?k36) (L2.bg ?a37 ?l37 ?c37 ?k37) (L2.bg ?a38 ?l38 ?c38 ?k38) (L2.bg ?a39 ?l39 ?c39 ?k39) (L2.bg ?a40 ?l40 ?c40 ?k40) (L2.bg ?a41 ?l41 ?c41 ?k41) (L2.bg ?a42 ?l42 ?c42 ?k42) (L2.bg ?a43 ?l43 ?c43 ?k43) (L2.bg ?a44 ?l44 ?c44 ?k44) (L2.bg ?a45 ?l45 ?c45 ?k45) ?aS (L2.EH ?ia ?ii ?il ?ic ?ik) (L2.EH ?ka ?ki ?kl ?kcc ?kk) ?pg ?hd ?po ?sa ?ms ?kc ?nR ?nN ?tj ?kp ?tw ?kw ?ne (Ord.Hv KX G ?cna ?csy ?clk ?ck1 ?ck2 ?ck3 ?ck4 ?cq1 ?cq2 ?cq3 ?cq4 ?cq5 ?cq6 ?cq7) ?xo ?xb ?xr ?cn ?nt ?xc ?cl ?ι ?nc0 ?ny0 ?na1 ?nc1 ?ny1 ?μ ?nc2 ?ny2 ?ν ?nc3 ?ny3 ?na4 ?nc4 ?ny4 ?na5 ?nc5 ?ny5 ?na6 ?nc6 ?ny6 ?onb ?eb1 ?eb2 ?eb3 ?eb4 ?eb5 ?eb6 ?Xd ?eb8 ?mb0 ?mb1 ?mb2 ?mb3 ?mb4 ?mb5 ?mb6 ?onr ?er1 ?er2 ?er3 ?er4 ?er5 ?er6 ?Xe ?er8 ?mr0 ?mr1 ?mr2 ?mr3 ?mr4 ?mr5 ?mr6 ?ono ?eo1 ?eo2 ?η ?eo4 ?eo5 ?eo6 ?Xf ?eo8 ?mo0 ?mo1 ?mo2 ?mo3 ?mo4 ?mo5 ?mo6 ?m8 ?m0 ?m1 ?m2 ?mb ?z0 ?z1 ?z2 ?z3 ?z4 ?z5 ?z6 ?z7 ?z8 ?z9 ?z10 ?z11 ?z12 ?z13 ?z14 (λT=>Ord.Hw KX G T ?rzs ?re6 ?reN ?reR ?reJ ?reF ?rsN ?rsR ?rsJ ?rlN ?rlR ?rlJ ?rlF) Ord.Hx
  case a0|l0|c0|k0|a1|l1|c1|k1|a2|l2|c2|k2|a3|l3|c3|k3|a4|l4|c4|k4|a5|l5|c5|k5|a6|l6|c6|k6|a7|l7|c7|k7|a8|l8|c8|k8|a9|l9|c9|k9|a10|l10|c10|k10|a11|l11|c11|k11|a12|l12|c12|k12|a13|l13|c13|k13|a14|l14|c14|k14|a15|l15|c15|k15|a16|l16|c16|k16|a17|l17|c17|k17|a18|l18|c18|k18|a19|l19|c19|k19|a20|l20|c20|k20|a21|l21|c21|k21|a22|l22|c22|k22|a23|l23|c23|k23|a24|l24|c24|k24|a25|l25|c25|k25|a26|l26|c26|k26|a27|l27|c27|k27|a28|l28|c28|k28|a29|l29|c29|k29|a30|l30|c30|k30|a31|l31|c31|k31|a32|l32|c32|k32|a33|l33|c33|k33|a34|l34|c34|k34|a35|l35|c35|k35|a36|l36|c36|k36|a37|l37|c37|k37|a38|l38|c38|k38|a39|l39|c39|k39|a40|l40|c40|k40|a41|l41|c41|k41|a42|l42|c42|k42|a43|l43|c43|k43|a44|l44|c44|k44|a45|l45|c45|k45|aS|ia|ii|il|ic|ik|ka|ki|kl|kcc|kk|pg|hd|po|sa|ms|kc|nR|nN=>k_is
  (case tj=>kernel_rfl)
  (case kp=>kernel_rfl)
  (case tw=>kernel_rfl)
  (case kw=>kernel_rfl)
  (case ne=>decide)
  case cna=>k_is
  (case csy=>rfl)
  case clk|ck1|ck2|ck3|ck4|cq1|cq2|cq3|cq4|cq5|cq6|cq7|μ|ι|ν=>k_is
  (case xo=>k_exc);(case xb=>k_exc);(case xr=>k_exc)
  case cn|nt|xc|cl|nc0|ny0|na1|nc1|ny1|nc2|ny2|nc3|ny3|na4|nc4|ny4|na5|nc5|ny5|na6|nc6|ny6|onb|eb1|eb2|eb3|eb4|eb5|eb6|Xd|eb8|mb0|mb1|mb2|mb3|mb4|mb5|mb6|onr|er1|er2|er3|er4|er5|er6|Xe|er8|mr0|mr1|mr2|mr3|mr4|mr5|mr6|ono|eo1|eo2|η|eo4|eo5|eo6|Xf|eo8|mo0|mo1|mo2|mo3|mo4|mo5|mo6|m8|m0|m1|m2|mb|z0|z1|z2|z3|z4|z5|z6|z7|z8|z9|z10|z11|z12|z13|z14|rzs|re6|reN|reR|reJ|reF=>k_is
  (case rsN=>rfl)
  (case rsR=>rfl)
  (case rsJ=>rfl)
  case rlN|rlR|rlJ|rlF=>k_is
