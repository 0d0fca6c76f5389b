import PyProof.Rows.All
import Wide.All
import OpenK.AllK
import Wide.FinOn
import Lean
import PyProof.EqAt
import PyProof.EqKinds
import PyProof.TupleCall
import PyProof.Rows.SetFrom
import PyProof.ExcAttrAll.ValueError
import KE.KDictList
import KE.KRevIter
import KE.KPairComp
import PyProof.EqAt
import KE.KSortTup
import PyProof.DictValues
import PyProof.DictWalks
import KE.KDictList
import KE.KItemsList
import KE.KIsAll
import KE.KIntText
import KE.KRevSl
import PyProof.StrCalls2
import PyProof.CallStr
import PyProof.StrLawsTight
import PyProof.StrLawsChain
import KE.KLam
import KE.KMinKey
import KE.KNestM
import PyProof.ExcInit
import OpenK.KCls
import PyProof.FString
import PyProof.InstStoreFacts
import PyProof.AssignAttr
import PyProof.StrWalks
import PyProof.StrOps2
import PyProof.SliceStr2
import PySem.Challenge.RW_homeround_k38_cut_prices_looked_at
set_option Elab.async false
set_option compiler.extract_closed false
set_option bootstrap.genMatcherCode false
set_option linter.all false
noncomputable section
open PySem.W renaming Frag->aa,nsIn->ft,excIn->kr,fnOf->ky,mg_of->mq,kas_sort->mr,keepIn->qg,kas_place->ql,cellsFrom_some->tm,kas_rev->uu,kas_desc->wk,kas_descPart->wm,codeIn->wx,methodObj->xi,kas_asc->yt,hideAll_get->AW,kas_count->Bp,kas_tail3->Ci,kas_bin->Cj
open PySem renaming wpAny_bind->ae,wpAny_pure->ao,sizeLine->cm,mainGlobals->dt,wpAny_newObj_type->dz,wpAny_callSpecial?_slot->fh,wpAny_call_entry->fi,bootBuiltins->fm,starEach->fv,wpAny_holding->f9,codeAny_builtin->gh,wpAny_field->gs,Spec->gw,wpAny_setState_of->gy,mem_of_lookup->ic,wpAny_setField_rec->iq,compareOp->iw,wpAny_seqItems->i9,wpAny_truthy_bool->jc,wpAny_mono->jf,wpAny_askSetting->jm,codeAny_mono->jq,rawInt->jw,IsTupleKey->j5,intKind->j8,sizeLine_eq->ka,cellsFrom->kl,plainId_quiet->kq,foldedSetIterable->k9,wpAny_setEntries_of->lq,binaryOp->mh,wpAny_setField->mx,wpAny_passesOwn->m3,wpAny_attempt->nq,wpAny_typeOf->ot,argBest->ou,pyNext->qf,wpAny_runValue->qi,firstArgMember->qk,wpAny_forIn_list->qq,wpAny_isInstance->qr,wpAny_of_eq->qu,wpAny_letGo->qv,wpAny_standAt->rj,wpAny_pyIter_tuple->sf,wpAny_newList->sv,assignEach->tu,wpAny_rule->tv,sliceBounds->tw,wpAny_pyIter_list->t6,wpAny_storeSet_of->ua,wpAny_pyIter_slot->ub,ofAClassStatement->ud,isSubtype_type->uh,wpAny_updateSeq_pair->uw,backTo->vc,letOwnedTupleGo->vd,codeAny->ve,wpAny_loadPart'->vf,codeAny_of_tree->vk,wpAny_Call_Name_kw->v8,wpAny_newTuple->w4,isSubtype_stop->w5,wpAny_tryCatch->w6,wpAny_fieldsOf->w8,wpAny_load->xk,wpAny_sequenceKey->xm,wpAny_getItem_list_slice->xo,wpAny_comprehension_free->xq,IsPair->xu,intKind_is->ya,setsByText->yb,wpAny_pyNext_tuple_item->yi,behindInMarks->yj,richCompare->yk,evalPart_none->ym,wpAny_onRaise->yq,noFill_tuple_add->zg,wpAny_pyNext_tuple_end->zm,wpAny_pyIter_tupleiter->zp,richCompare_meets_room->zq,wpAny_execs_nil->Ad,getItem->Ag,pushCells_keeps->Ai,wpAny_updateSeq->Aq,setAddHashed->Aw,weight_type_call_type->Ax,builtinLookup_eq_fast->Ay,wpAny_eqIsQuiet_tuple->AB,codeAny_call_builtin->AL,int_text_length_le10->AO,pyIter->AQ,newFunctionEnv->AS,holding->AX,collect->A2,setNext->A8,hashByValue->Bb,assignInOrder->Be,rangeSize_one->Bf,bindArgs->Bg,seq_tuple_add->Bh,evalPart_some->Bj,seqIndex?->Bk,seqItems?->Bl,wpAny_handled->Bm,setField->Bn,builtinsNs->Bx,BindsTo->By,call_meets->BA,callerA->BB,relabel->BC,assign->BF,Result->BG,concat_meets->BH,seqIndex_neg->BJ,callType_new->BK,standAt->BX,swapsWith->BY,wpAny_Slice->BZ,seqIndex_of->B1,pushCells->Ca,newList->Cb,wpAny_throw->Cd,IsEnum->Cf,ItemsOf->Cg,hashInt->Cr
open List renaming length_map->af,getElem?_eq_getElem->ah,getElem?_eq_some_iff->ai,getD_eq_getElem?_getD->ak,length_append->aq,mem_of_getElem?->au,size_toArray->ay,range->bc,getElem?_map->bp,mem_cons_of_mem->bq,mem_singleton->br,mem_cons->b8,mem_append->cg,mem_map->cw,map_append->c4,length_cons->c5,mem_cons_self->c7,getElem?_append_right->c9,map_cons->de,getElem?_append_left->dg,length_take->dj,all_eq_true->dk,replicate->dr,mem_append_right->du,length_set->dw,length_filter_le->dy,length_range->e8,mem_range->fc,map_map->fg,getElem?_set_ne->fk,getElem_mem->f7,length_singleton->gg,mem_iff_getElem?->gi,take_length->gn,take_add_one->gq,mem_filter->gr,append_assoc->gx,append_nil->ia,length_drop->ip,getElem?_toArray->iz,lookup_cons->i4,not_mem_nil->ja,filter_append->je,nodup_cons->jg,toArray->ju,mem_append_left->j3,getElem_map->j7,getElem?_set_self->j9,mem_map_of_mem->kc,filter_cons_of_pos->kv,filter_cons_of_neg->kx,filterMap_cons->la,length_nil->lg,length_reverse->lh,range_succ_eq_map->l9,pairwise_cons->mi,getElem?_drop->mw,pairwise_append->my,getElem?_take_of_lt->m7,flatMap_cons->m8,getElem?_replicate->nj,replicate_succ->nk,getElem_of_mem->nr,zip_cons_cons->oa,getElem_range->og,length_replicate->oq,all_cons->pf,map_take->pg,pairwise_map->ph,perm_ext_iff_of_nodup->qd,mem_of_mem_take->qe,forIn_nil->qh,pairwise_iff_getElem->qm,getElem_inj->qp,ext_getElem->qt,map_congr_left->qx,mem_filterMap->rq,forIn_cons->sd,range_succ->sk,length_eq_zero_iff->su,flatten_cons->tx,contains_iff_mem->uo,getElem?_eq_none->uq,pairwise_and_iff->ur,mem_of_mem_drop->uz,getElem?_of_mem->u4,map_drop->u5,filterMap_map->wa,map_inj_right->wo,nodup_nil->w9,any_eq_false->xy,ext_getElem?->ye,getElem?_set->yf,any_cons->yo,pairwise_singleton->y9,perm_middle->zj,length_pos_of_mem->Ab,pairwise_lt_range->Ac,of_mem_zip->Ae,map_nil->Ah,all_map->Aj,countP_mono_left->Ar,take_append_drop->As,length->AY,length_pos_iff->A1,map_id->A9,getElem?_range->Bd,sum_cons->Bw,any_map->BR
open PySem.Heap renaming get?_push_of_some->aj,get?_push_size->bg,lt_size->bx,size_push->f6,SameBut->gp,get?_update_self->iy,get?_update_other->lx,get?_update_ne->vq,ExtBut->yp,get?_push_cases->AI
open Nat renaming le_refl->ar,lt_of_lt_of_le->av,pow_le_pow_right->az,zero_le->bh,lt_of_le_of_lt->bj,le_trans->bo,ne_of_lt->di,lt_succ_of_lt->gk,not_lt_zero->i5,le_of_lt->i6,le_add_right->jn,ne_of_gt->jo,lt_succ_self->j6,lt_irrefl->kn,lt_succ_iff_lt_or_eq->rg,lt_trichotomy->uc,le_succ->vh,gcd_comm->wq,le_of_succ_le->xp,log2_lt->yv,mul_le_mul_right->AN,add_zero->BM,lt_trans->BS,sub_self->BU,lt_or_ge->BV,add_mul->Cc,pow_pos->Cp
open PySem.SetTable renaming below->b7,leap->ib,runEnd->jk,insertAt->nc,bits->nu,turns->n5,sizeAbove->oh,toList_insertAt->rf,grown->ui,probe->uj,insertAt_perm->zx,has->AA,fill->Bt
open Option.some renaming inj->cf
open Int renaming toNat_natCast->cv,mul_comm->fe,mul_left_comm->ff,mul_assoc->fw,zero_add->jd,mul_nonneg->jl,mul_zero->jv,mul_le_mul_of_nonneg_right->kg,mul_pos->lr,neg_mul->lu,mul_ediv_cancel_left->ni,mul_one->oo,le_of_lt->o6,add_mul->qy,le_refl->t8,mul_add->ue,le_antisymm->vx,zero_mul->wt,natAbs_mul->xa,eq_of_mul_eq_mul_left->xb,le_of_dvd->yz,dvd_mul_of_dvd_left->ze,emod_nonneg->Ao,natAbs_dvd_natAbs->AD,mul_eq_zero->AE,mul_ediv_cancel'->AM,one_mul->Bc,dvd_trans->Bv,ediv_one->BI,add_comm->BW,mul_neg->Cn,one_dvd->Co
open Bool renaming false_ne_true->cy,and_eq_true->cz,false_eq_true->gm,not_eq_true->jb,true_and->nv,or_eq_true->o7,not_eq_true'->t9,false_and->uf,and_eq_true_iff->uv,not_true->yx,eq_iff_iff->AF,false_or->Br
open Array renaming getElem?_eq_getElem->c8,length_toList->da,getD_eq_getD_getElem?->dh,getElem?_eq_none->ij,getElem?_toList->ke,toList_inj->nz,perm_iff_toList_perm->qc,getElem_toList->u3,replicate->vy,getElem_mem->xx,toList_filterMap->zy
open Classical renaming byContradiction->dn,propDecidable->za
open List.cons renaming inj->fj
open PyProof.Rows renaming slot_tuple_getitem->fq,callWith_type1->jx,seqObj->kd,listUpdate_at->u6,entry_tuple_getitem->vg,assignInOrder_cons->v7,args_tuple_getitem->we,AllBare->yh,subscriptTail->yn,subscriptTail_builtinR->zu,envOfC->Af,listItems_at->Ak,get?_update_seq->Am,entry_list_sort->Az,slot_list_sort->AU,args_list_sort->AV,mirror_size->A4,tuples'->A5,seqEpoch_at->A7,tupleItemsOf_->Bi,failedOf->Bq,Subscript_->Bz,sortedHeap->BD,plain_sorted->BN,entry_sorted->BO,args_sorted1->BQ,kind_sorted->Ck
open PySem.Around renaming under_plainId->fz
open PySem.Builtin.SmallTypes renaming nextOf->gc,ownedTupleIsFree->gv,ownedTupleHandOut->ji
open Ne renaming symm->gf
open PySem.Builtin.Tuple renaming tupleExact->gj,tupleItemsOf->qb
open PySem.Heap.SameBut renaming update->gu
open PySem.Builtin.Slice renaming slicePlaces->ie,sliceAdjust->jh,sliceApplied->ma,sliceFields->wz
open PySem.SeqAt renaming EqAt->ig,notIn_tupleAt->AZ
open Option renaming map_eq_some_iff->il,isSome_iff_exists->jr
open PySem.Str renaming ofString->i7
open PySem.F renaming called_set->i8,plainAttrs_list->ku,slot_tuple_iterator_next->md,plain_min_loop->mf,plain_list_iadd->m9,slot_list_append->ng,type_list_append->nh,slot_enumerate_next->oz,args_tuple_add_2->qz,entry_tuple_add->sa,slot_tuple_add->tq,entry_proto_collect->uk,plain_proto_collect->um,args_tuple_iterator_next_1->u7,entry_tuple_iterator_next->vn,slot_zip_next->vo,slot_set_iter->vv,entry_list_iadd->xw,args_enumerate_next_1->yr,entry_min_loop->zh,entry_enumerate_next->zv,args_object_init_2->AJ,excBase_ValueError->AK
open PySem.AutoSeq1 renaming wpAny_loadPart'->jt,sub_tuple_tuple->xl
open PySem.Builtin.List renaming listExtendWith->jy,listTooLong->q9,listLengthHint->vw,listUpdate->yu
open PyProof.Rows.F renaming plain_set_update_loop->jz,entry_set_update_loop->nt
open PySem.Obj renaming mapSeq->j4,isFreed_of_fields->mj,data_mapFields->mm,mapFields->vb,cls_mapFields->xt,putSet->BE
open False renaming elim->mz
open PySem.SetTable.layClean renaming free->n9
open PySem.PyData renaming leavesShortAll->o9,hasDict->qj,showableAll->tj,showable->vm,leavesShort->wu,bulkAll->xg,hasDictAll->xr,depthAll->An,bulk->Cq
open PySem.SetTable.below renaming go->pk
open PySem.Calls renaming call_function_entry->qo,Name_function_global->v5,evalArgs_plain->AH
open PySem.Builtin.Int renaming intBits->qw
open List.Perm renaming eq_of_pairwise->rh,append_left->Av
open PySem.Builtin.Range renaming rangeSize->rk,small->A3
open Array.Perm renaming refl->td
open PySem.PassesOwn renaming never->tf
open ToString renaming toString->ug
open PySem.Builtin.Frozenset renaming updateFrom->u9,sizeOf->yc,slot0->yw
open PySem.Builtin.Builtins renaming bindParams->vp
open PySem.SeqAt.EqAt renaming int_int->v9
open PySem.Heap.IsSliceOf renaming new->wg
open PySem.Code renaming quiet_builtin->wj
open PySem.Value renaming isInt_shape->xh
open LawfulBEq renaming eq_of_beq->xn
open PySem.SetTable.probe renaming go->yd
open List.Pairwise renaming map->yg
open PySem.Builtin renaming sorted->zk
open PySem.Shared renaming TypeIs->Bo,heap->Ce
open Int.ofNat renaming inj->Bu
open PySem.pickOrder renaming go->BL
open PySem renaming Value->wn,Shared->wv,Addr->ww,Program->zn,World->xj,Around->xz,wpAny->v4,model->v6,Str->u8,Expr->ut,Heap->jp
theorem Ch:3<=cm:=by decide
theorem C9:2<=cm:=by decide
theorem C8:1<=cm:=by decide
theorem C7:0<=cm:=by decide
theorem C6 {a b:Nat}(h:a<=b:=by decide):2^a<=2^b:=az (by decide) h
theorem At {p:Prop}[Decidable p](h:p):decide p=true:=decide_eq_true h
theorem Au {p:Prop}[Decidable p](h:¬p):decide p=false:=decide_eq_false h
theorem C0 {p:Prop}[Decidable p](h:decide p=true):p:=of_decide_eq_true h
theorem C4 {c:Prop}[Decidable c]{α}{t e:α}(h:¬c):ite c t e=e:=if_neg h
theorem C5 {c:Prop}[Decidable c]{α}{t e:α}(h:c):ite c t e=t:=if_pos h
set_option maxRecDepth 100000
set_option maxHeartbeats 8000000
namespace L2
open PySem PySem.Spec PyProof.Rows
abbrev Key:=Sum Int u8
def aNc:Key->wn->Bool
 |.inl k,v=>Value.isInt k v
 |.inr x,v=>Value.isStrOf x v
def aRB (w:xj):Key->Int
 |.inl k=>Cr k
 |.inr x=>hashStr w x
def cI:∀{k:Key}{v:wn},aNc k v=true->(∃i t,k=Sum.inl i/\v=Value.int i t)\/(∃x t,k=Sum.inr x/\v=Value.str x t)
 |.inl i,v,h=>by
  obtain⟨t,e⟩:=xh (k:=i) (v:=v) h;exact .inl ⟨i,t,rfl,e⟩
 |.inr x,v,h=>by
  obtain⟨t,e⟩:=Value.isStrOf_shape (x:=x) (v:=v) h;exact .inr ⟨x,t,rfl,e⟩
def aMp (a b:Int):decide ((Sum.inl a:Key)=Sum.inl b)=(a==b):=by
 by_cases e:a=b
 ·subst e;simp
 ·have h:¬(Sum.inl a:Key)=Sum.inl b:=λq=>e (Sum.inl.inj q);rw[Au h];exact(beq_eq_false_iff_ne.mpr e).symm
def aNa (a b:u8):decide ((Sum.inr a:Key)=Sum.inr b)=decide (a=b):=by
 by_cases e:a=b
 ·subst e;simp
 ·have h:¬(Sum.inr a:Key)=Sum.inr b:=λq=>e (Sum.inr.inj q);rw[Au h,Au e]
def aMK (a:Int)(b:u8):decide ((Sum.inl a:Key)=Sum.inr b)=false:=Au (λq=>nomatch q)
def aNT (a:u8)(b:Int):decide ((Sum.inr a:Key)=Sum.inl b)=false:=Au (λq=>nomatch q)
def aGm (prog:zn)(w:xj):PySem.KeyKind prog w Key where
 is:=aNc
 hash:=aRB w
 inj:=λv a b ha hb=>by
  rcases cI ha with⟨i,t,rfl,rfl⟩|⟨x,t,rfl,rfl⟩
  ·rcases cI hb with⟨j,u,rfl,e⟩|⟨y,u,rfl,e⟩
   ·injection e with e1 _;rw[e1]
   ·exact nomatch e
  ·rcases cI hb with⟨j,u,rfl,e⟩|⟨y,u,rfl,e⟩
   ·exact nomatch e
   ·injection e with e1 _;rw[e1]
 byValue:=λk v h=>by
  rcases cI h with⟨i,t,rfl,rfl⟩|⟨x,t,rfl,rfl⟩<;>rfl
 pyHash:=λhv h=>by
  rcases cI hv with⟨i,t,rfl,rfl⟩|⟨x,t,rfl,rfl⟩
  ·exact wpAny_pyHash_int h
  ·exact wpAny_pyHash_str h
 eqBool:=λhu hv h=>by
  rcases cI hu with⟨i,t,rfl,rfl⟩|⟨x,t,rfl,rfl⟩
  ·rcases cI hv with⟨j,u,rfl,rfl⟩|⟨y,u,rfl,rfl⟩
   ·rw[aMp] at h;exact wpAny_eqBool_int h
   ·rw[aMK] at h;exact SeqAt.EqAt.int_str i t y u _ _ _ _ h
  ·rcases cI hv with⟨j,u,rfl,rfl⟩|⟨y,u,rfl,rfl⟩
   ·rw[aNT] at h;exact SeqAt.EqAt.str_int x t j u _ _ _ _ h
   ·rw[aNa] at h;exact wpAny_eqBool_str h
 «strs»:=λk x t v h=>by
  rcases cI h with⟨i,u,rfl,e⟩|⟨y,u,rfl,e⟩
  ·exact nomatch e
  ·injection e with e1 _;subst e1;cases v<;>rfl
inductive V where
 |non|bl (b:Bool)|int (i:Int)|str (x:u8)|byt (b:Array UInt8)|flt (b:UInt64)|ref (a:ww)|ty (n:String)
 deriving DecidableEq
def RelV:V->wn->Prop
 |.non,u=>u=Value.none
 |.bl b,u=>u=Value.bool b
 |.int i,u=>∃t,u=Value.int i t
 |.str x,u=>∃t,u=Value.str x t
 |.byt b,u=>∃t,u=Value.bytes b t
 |.flt b,u=>∃t,u=Value.float b t
 |.ref a,u=>u=Value.ref a
 |.ty n,u=>u=Value.type n
abbrev Vals:List V->List wn->Prop:=Paired RelV
def Vals.length (r:Vals xs us):xs.length=us.length:=Paired.length r
theorem Vals.get:∀{xs:List V}{us:List wn}{i:Nat}{x:V},Vals xs us->xs[i]?=some x->∃u,us[i]?=some u/\RelV x u
 |_,_,_,_,.nil,e=>by simp at e
 |_,_,0,_,.cons r _,e=>by simp at e;subst e;exact⟨_,rfl,r⟩
 |_,_,i+1,x,.cons _ t,e=>by
  obtain⟨u,h1,h2⟩:=Vals.get (i:=i) (x:=x) t (by simpa using e);exact⟨u,by simpa using h1,h2⟩
theorem Vals.set (r:RelV x u):∀{xs:List V}{us:List wn} (i:Nat),Vals xs us->Vals (xs.set i x) (us.set i u)
 |_,_,_,.nil=>.nil
 |_,_,0,.cons _ t=>.cons r t
 |_,_,i+1,.cons q t=>.cons q (Vals.set r i t)
theorem Vals.append:∀{xs ys:List V}{us ws:List wn},Vals xs us->Vals ys ws->Vals (xs++ys) (us++ws)
 |_,_,_,_,.nil,s=>s
 |_,_,_,_,.cons r t,s=>.cons r (Vals.append t s)
theorem Vals.take:∀{xs:List V}{us:List wn} (n:Nat),Vals xs us->Vals (xs.take n) (us.take n)
 |_,_,0,_=>.nil
 |_,_,_+1,.nil=>.nil
 |_,_,n+1,.cons r t=>.cons r (Vals.take n t)
theorem Vals.drop:∀{xs:List V}{us:List wn} (n:Nat),Vals xs us->Vals (xs.drop n) (us.drop n)
 |_,_,0,r=>r
 |_,_,_+1,.nil=>.nil
 |_,_,n+1,.cons _ t=>Vals.drop n t
def aRg:Option V->Option wn->Prop
 |some v,some u=>RelV v u
 |none,none=>True
 |_,_=>False
def KV:List (κ×V)->List (κ×wn)->Prop:=Paired λ(p:κ×V) (q:κ×wn)=>p.1=q.1/\RelV p.2 q.2
def kV:Key->V
 |.inl i=>.int i
 |.inr x=>.str x
inductive HO where
 |lst (xs:List V)
 |tup (xs:List V)
 |dK (kvs:List (Key×V))|dT (kvs:List (List Key×V))
 |set (S:Int->Bool) (n:Nat)
 |ins (C dx:ww) (fs:List (u8×V))
 |own (x:ww)
 |xd (fs:List (u8×V))
 |met (f x:ww)
 |rng (lo hi:Int)
 |frz (o:Obj) (u:HO)
 |tbl (ps:Array wn)
 |ext (φ:jp->Prop)
abbrev Hp:=ww->Option HO
def upd (H:Hp)(a:ww)(o:HO):Hp:=λb=>if b=a then some o else H b
def aB:upd H a o a=some o:=by unfold upd;rw[C5 rfl]
def aM (h:b≠a):upd H a o b=H b:=by unfold upd;rw[C4 h]
def ne_of {H:Hp}{a b:ww}{o u:HO}(h:H a=some o)(h':H b=some u)(d:o≠u):a≠b:=by
 intro e;subst e;rw[h] at h';exact d (cf h')
def aJ {H:Hp}{a b:ww}{o:HO}(h:H a=some o)(h':H b=none):a≠b:=by
 intro e;subst e;rw[h] at h';cases h'
def TupN (h:jp)(a:ww)(items:Array wn):Prop:=∃o,h.get? a=some o/\o.cls=.type "tuple"/\(∃n,o.data=.seq items n)/\o.dict=none
def TupN.tup (p:TupN h a items):IsTup h a items:=let⟨o,e,c,n,_⟩:=p;⟨o,e,c,n⟩
def TupN.new (h:jp)(items:Array wn):TupN (h.push {cls:=.type "tuple",data:=.seq items}) h.objs.size items:=⟨_,bg _ rfl,rfl,⟨_,rfl⟩,rfl⟩
section
variable (P:zn)(w:xj)
def ObjOk (H:Hp)(h:jp)(a:ww):HO->Prop
 |.lst xs=>xs.length<=cm/\∃(its:List wn) (n:Nat),Vals xs its/\h.get? a=some {cls:=.type "list",data:=.seq its.toArray n}
 |.tup xs=>xs.length<=cm/\∃its:List wn,Vals xs its/\TupN h a its.toArray
 |.dK kvs=>kvs.length<=cm/\(a==sysModules)=false/\∃vs,KV kvs vs/\h.DictOf (aGm P w) a vs
 |.dT kvs=>kvs.length<=cm/\(a==sysModules)=false/\∃xs:List (List Key×ww×wn),
   Paired (λ(p:List Key×V) (q:List Key×ww×wn)=>p.1=q.1/\H q.2.1=some (.tup (p.1.map kV))/\RelV p.2 q.2.2) kvs xs /\
   ∃o es ep,h.get? a=some o/\o.ExactDict/\o.data=.dict es ep/\es.toList=xs.map (entryOfKey (tupleKind (aGm P w)))/\(xs.map (·.1)).Nodup
 |.set S n=>h.SetOf (j8 P w) a S n
 |.ins C dx fs=>H dx=some (.own a)/\fs.length<=1000/\dx≠a/\h.get? a=some (PySem.W.instObj C dx) /\
   ∃mA,h.Ns1 dx mA/\(∀f,aRg (fs.lookup f) (mA f))/\PySem.Within mA (fs.map (·.1))
 |.own _=>∃o,h.get? a=some o
 |.xd fs=>∃mA,h.Ns1 a mA/\∀f,aRg (fs.lookup f) (mA f)
 |.rng lo hi=>∃t u v,h.get? a=some {cls:=.type "range",data:=.fields #[.int lo t,.int hi u,.int 1 v]}
 |.frz o u=>h.get? a=some o/\ObjOk H h a u
 |.tbl ps=>h.get? a=some {cls:=.none,data:=.fields ps}
 |.met f x=>h.get? a=some (xi (.ref f) (.ref x))
 |.ext φ=>φ h/\(∃o,h.get? a=some o)/\∀h1 h2:jp,φ h1->(∀o,h1.get? a=some o->h2.get? a=some o)->φ h2
def HOk (H:Hp)(h:jp):Prop:=∀a o,H a=some o->ObjOk P w H h a o
end
def ObjOk.lt (x:ObjOk P w H h a o):a<h.objs.size:=by
 cases o with
 |lst xs=>obtain⟨_,_,_,_,e⟩:=x;exact bx e
 |tup xs=>obtain⟨_,_,_,p⟩:=x;exact p.tup.lt
 |dK kvs=>obtain⟨_,_,_,_,o,_,_,e,_⟩:=x;exact bx e
 |dT kvs=>obtain⟨_,_,_,_,o,_,_,e,_⟩:=x;exact bx e
 |set S n=>obtain⟨o,_,_,_,e,_⟩:=x;exact bx e
 |ins C dx fs=>obtain⟨_,_,_,e,_⟩:=x;exact bx e
 |own y=>obtain⟨_,e⟩:=x;exact bx e
 |xd fs=>obtain⟨_,⟨_,_,_,e,_⟩,_⟩:=x;exact bx e
 |rng lo hi=>obtain⟨_,_,_,e⟩:=x;exact bx e
 |frz ob u=>obtain⟨e,_⟩:=x;exact bx e
 |tbl ps=>exact bx (show h.get? a=some _ from x)
 |met f y=>exact bx (show h.get? a=some _ from x)
 |ext φ=>obtain⟨_,⟨_,e⟩,_⟩:=x;exact bx e
theorem Paired.mapP:∀{l₁:List α}{l₂:List β},Paired F l₁ l₂->(∀a b,F a b->G a b)->Paired G l₁ l₂
 |_,_,.nil,_=>.nil
 |_,_,.cons r t,f=>.cons (f _ _ r) (Paired.mapP t f)
def ObjOk.stay (x:ObjOk P w H h a o)(k:∀b u,(b=a\/H b=some (.own a))->h.get? b=some u->h'.get? b=some u)(ho:∀b,H b=some (.own a)->H' b=some (.own a))(ht:∀b xs,H b=some (.tup xs)->H' b=some (.tup xs)):ObjOk P w H' h' a o:=by
 induction o with
 |lst xs=>obtain⟨z,its,n,r,e⟩:=x;exact⟨z,its,n,r,k _ _ (.inl rfl) e⟩
 |tup xs=>obtain⟨z,its,r,ob,e,c⟩:=x;exact⟨z,its,r,ob,k _ _ (.inl rfl) e,c⟩
 |dK kvs=>obtain⟨z,y,vs,r,ob,es,ep,e,c⟩:=x;exact⟨z,y,vs,r,ob,es,ep,k _ _ (.inl rfl) e,c⟩
 |dT kvs=>
  obtain⟨z,y,xs,r,ob,es,ep,e,c⟩:=x;exact⟨z,y,xs,Paired.mapP r λp q z=>⟨z.1,ht _ _ z.2.1,z.2.2⟩,ob,es,ep,k _ _ (.inl rfl) e,c⟩
 |set S n=>obtain⟨ob,es,ep,t,e,c⟩:=x;exact⟨ob,es,ep,t,k _ _ (.inl rfl) e,c⟩
 |ins C dx fs=>
  obtain⟨d,z,ne,e,mA,⟨od,es,ep,e2,c⟩,r⟩:=x;exact⟨ho _ d,z,ne,k _ _ (.inl rfl) e,mA,⟨od,es,ep,k _ _ (.inr d) e2,c⟩,r⟩
 |own y=>obtain⟨ob,e⟩:=x;exact⟨ob,k _ _ (.inl rfl) e⟩
 |xd fs=>obtain⟨mA,⟨od,es,ep,e,c⟩,r⟩:=x;exact⟨mA,⟨od,es,ep,k _ _ (.inl rfl) e,c⟩,r⟩
 |rng lo hi=>obtain⟨t,u,v,e⟩:=x;exact⟨t,u,v,k _ _ (.inl rfl) e⟩
 |frz ob u ih=>obtain⟨e,q⟩:=x;exact⟨k _ _ (.inl rfl) e,ih q⟩
 |tbl ps=>
  have e:h.get? a=some {cls:=.none,data:=.fields ps}:=x;show h'.get? a=some {cls:=.none,data:=.fields ps};exact k a _ (.inl rfl) e
 |met f y=>
  have e:h.get? a=some (xi (.ref f) (.ref y)):=x;show h'.get? a=some (xi (.ref f) (.ref y));exact k a _ (.inl rfl) e
 |ext φ=>obtain⟨p,⟨o,e⟩,st⟩:=x;exact⟨st _ _ p λo q=>k _ _ (.inl rfl) q,⟨o,k _ _ (.inl rfl) e⟩,st⟩
def HOk.lt (x:HOk P w H h)(e:H a=some o):a<h.objs.size:=(x a o e).lt
def HOk.fresh {H:Hp}{h:jp}{a:ww}(x:HOk P w H h)(e:h.objs.size<=a):H a=none:=by
 cases q:H a with
 |none=>rfl
 |some u=>exact absurd (av (x.lt q) e) (kn _)
def HOk.kept (x:HOk P w H h)(k:∀b u,h.get? b=some u->h'.get? b=some u):HOk P w H h':=λa o e=>
 (x a o e).stay (λb u _ q=>k b u q) (λ_ q=>q) λ_ _ q=>q
def HOk.laid {H:Hp}{h h':jp}{a:ww}{o:HO}(x:HOk P w H h)(k:∀b u,h.get? b=some u->h'.get? b=some u)(hp:h.objs.size<=a)(new:ObjOk P w (upd H a o) h' a o):HOk P w (upd H a o) h':=λb u e=>by
 have hn:=x.fresh hp;by_cases hb:b=a
 ·subst hb;rw[aB] at e;cases e;exact new
 ·rw[aM hb] at e;exact(x b u e).stay (λc v _ q=>k c v q) (λc q=>by rw[aM (aJ q hn)];exact q) λc xs q=>by rw[aM (aJ q hn)];exact q
def Rd (H:Hp)(a:ww)(u:HO):Prop:=H a=some u\/∃o,H a=some (.frz o u)
def Rd.ok (r:Rd H a u)(x:HOk P w H h):ObjOk P w H h a u:=by
 rcases r with r|⟨o,r⟩
 ·exact x a u r
 ·obtain⟨_,q⟩:=x a _ r;exact q
def Mut:Option HO->Prop
 |some (.lst _)=>True
 |some (.dK _)=>True
 |some (.dT _)=>True
 |some (.set _ _)=>True
 |some (.ins _ _ _)=>True
 |some (.ext _)=>True
 |_=>False
def HOk.write (ok:HOk P w H h)(mu:Mut (H x))(he:e=x\/H e=some (.own x))(k:∀b u,b≠e->h.get? b=some u->h'.get? b=some u)(heo:∃u,h'.get? e=some u)(new:ObjOk P w (upd H x o') h' x o'):HOk P w (upd H x o') h':=λb u q=>by
 have nown:∀c y,H c=some (.own y)->c≠x:=λc y r z=>by subst z;rw[r] at mu;exact mu
 have ntup:∀c xs,H c=some (.tup xs)->c≠x:=λc xs r z=>by subst z;rw[r] at mu;exact mu
 by_cases hb:b=x
 ·subst hb;rw[aB] at q;cases q;exact new
 ·rw[aM hb] at q;by_cases hbe:b=e
  ·have q':H b=some (.own x):=by
    rcases he with z|z
    ·exact absurd (hbe.trans z) hb
    ·rw[hbe];exact z
   rw[q] at q';cases q';obtain⟨v,hv⟩:=heo;exact⟨v,by rw[hbe];exact hv⟩
  ·refine(ok b u q).stay (λc v hc r=>k c v ?_ r) (λc r=>by rw[aM (nown c b r)];exact r) λc xs r=>by rw[aM (ntup c xs r)];exact r
   rcases hc with rfl|hc
   ·exact hbe
   ·rintro rfl;rcases he with z|z
    ·exact nown c b hc z
    ·rw[hc] at z;cases z;exact hb rfl
structure Un (fs ex:List ww)(H H':Hp)(h h':jp):Prop where
 keep:∀b o,h.get? b=some o->H b=none->b∉fs->b∉ex->h'.get? b=some o
 slot:∀b o,h.get? b=some o->H b=none->b∈fs->b∉ex->∃sl,h'.get? b=some {o with slots:=sl}
 free:∀b o,h.get? b=some o->H b=none->b∉ex->H' b=none
 there:∀b o,h.get? b=some o->b∉ex->∃o',h'.get? b=some o'
 tups:∀b xs,H b=some (.tup xs)->H' b=some (.tup xs)
 frzs:∀b o u,H b=some (.frz o u)->H' b=some (.frz o u)
 tbls:∀b ps,H b=some (.tbl ps)->∃more,H' b=some (.tbl (ps++more))
def Un.any (u:Un fs ex H H1 h h1)(q:h.get? b=some ob)(n:H b=none)(hx:b∉ex):∃sl,h1.get? b=some {ob with slots:=sl}:=by
 by_cases hb:b∈fs
 ·exact u.slot b ob q n hb hx
 ·exact⟨ob.slots,u.keep b ob q n hb hx⟩
def Un.kept (k:∀b u,h.get? b=some u->h'.get? b=some u):Un fs ex H H h h':=
 ⟨λb ob q _ _ _=>k b ob q,λb ob q _ _ _=>⟨ob.slots,k b ob q⟩,λ_ _ _ n _=>n,λb ob q _=>⟨ob,k b ob q⟩,λ_ _ q=>q,λ_ _ _ q=>q,λ_ ps q=>⟨#[],by rw[q];simp⟩⟩
def Un.refl:Un fs ex H H h h:=Un.kept λ_ _ q=>q
def Un.laid {fs ex:List ww}{H:Hp}{h h':jp}{a:ww}{o:HO}(k:∀b u,h.get? b=some u->h'.get? b=some u)(hp:h.objs.size<=a)(hn:H a=none):Un fs ex H (upd H a o) h h' where
 keep:=λb u q _ _ _=>k b u q
 slot:=λb u q _ _ _=>⟨u.slots,k b u q⟩
 free:=λb u q n _=>by rw[aM (di (av (bx q) hp))];exact n
 there:=λb u q _=>⟨u,k b u q⟩
 tups:=λb xs q=>by rw[aM (aJ q hn)];exact q
 frzs:=λb u xs q=>by rw[aM (aJ q hn)];exact q
 tbls:=λb ps q=>⟨#[],by rw[aM (aJ q hn),q];simp⟩
def Un.write (mu:Mut (H x))(he:e=x\/H e=some (.own x))(k:∀b u,b≠e->h.get? b=some u->h'.get? b=some u)(heo:∃u,h'.get? e=some u):Un fs ex H (upd H x o) h h':=by
 have hx:∀b,H b=none->b≠x:=λb n z=>by subst z;rw[n] at mu;exact mu
 have hb:∀b,H b=none->b≠e:=λb n z=>by
  subst z;rcases he with r|r
  ·exact hx b n r
  ·rw[n] at r;cases r
 have hm:∀b u,H b=some u->¬Mut (some u)->b≠x:=λb u q nm z=>by subst z;rw[q] at mu;exact nm mu
 refine⟨λb u q n _ _=>k b u (hb b n) q,λb u q n _ _=>⟨u.slots,k b u (hb b n) q⟩,λb u q n _=>by rw[aM (hx b n)];exact n,λb u q _=>?_,
  λb xs q=>by rw[aM (hm b _ q λz=>z)];exact q,λb u xs q=>by rw[aM (hm b _ q λz=>z)];exact q,λb ps q=>⟨#[],by rw[aM (hm b _ q λz=>z),q];simp⟩⟩
 by_cases hbe:b=e
 ·subst hbe;exact heo
 ·exact⟨u,k b u hbe q⟩
def trk (h:jp)(H:Hp):List ww:=(bc h.objs.size).filter λa=>(H a).isSome
def aIj (h:jp)(H:Hp):jp:=PySem.W.hideAll h (trk h H)
def aGl (h:jp)(H:Hp):(aIj h H).objs.size=h.objs.size:=PySem.W.hideAll_size _ _
def aIA (e:h.get? b=some o)(n:H b=none):(aIj h H).get? b=some o:=
 AW _ e λhm=>by
  have q:(H b).isSome=true:=(gr.mp hm).2;rw[n] at q;simp at q
def aKj (e:(aIj h H).get? b=some o):h.get? b=some o/\H b=none:=by
 have e':h.get? b=some o:=PySem.W.of_hideAll (trk h H) e;refine⟨e',?_⟩;cases q:H b with
 |none=>rfl
 |some x=>
  have hm:b∈trk h H:=gr.mpr ⟨fc.mpr (bx e'),by simp[q]⟩;have z:(aIj h H).get? b=none:=PySem.W.hideAll_none (trk h H) hm;rw[z] at e;cases e
structure Mod (K:aa)(mg:u8->Option wn)(base:jp):Prop where
 kin:K.In base
 glob:base.Ns dt mg
 blt:∃mb,base.Ns Bx mb/\∀x:u8,x≠"__name__"->mb x=fm x
 nolimit:base.NoLimit
structure Cx where
 prog:zn
 w:xj
 K:aa
 mg:u8->Option wn
 base:jp
 A:xz
 N:List u8
 s₀:wv
 H₀:Hp
 env:Env
 outer:List Env
 stack:List Env
 ex:List ww
 fn:u8->Bool
 calm:Bool
 pn:List (ww×Obj)
 xe:wn->wv->Prop
def frs (l:List Env):List ww:=l.filterMap (·.frame)
abbrev Cx.fs (X:Cx):List ww:=frs X.outer
def Vis (sc:Scope)(x:u8):Prop:=sc.names.lookup x=some .local\/sc.names.lookup x=some .cell\/sc.names.lookup x=some .free
def Loc (sc:Scope)(x:u8):Prop:=sc.names.lookup x=some .local\/sc.names.lookup x=some .cell
def aRK (env:Env)(h:jp)(m:u8->Option wn)(x:u8)(u:wn):Prop:=
 (env.kindOf x=some .local/\m x=some u)\/((env.kindOf x=some .cell\/env.kindOf x=some .free)/\∃c,env.cells.lookup x=some c/\h.IsCell c (some u))
structure Cx.Ok (X:Cx):Prop where
 mod:Mod X.K X.mg X.base
 kind:X.env.scope.kind=.function
 glob:X.env.globals=dt
 blt:X.env.builtins=Bx
 above:X.s₀.heap.objs.size<=X.env.locals
 inj:∀x y c,X.env.cells.lookup x=some c->X.env.cells.lookup y=some c->x=y
 has:∀x,(X.env.kindOf x=some .cell\/X.env.kindOf x=some .free)->∃c,X.env.cells.lookup x=some c
 cab:∀x c,X.fn x=true->X.env.cells.lookup x=some c->X.s₀.heap.objs.size<=c
 hd:X.calm=true->X.A.handled=none
 frames:X.A.frames=some X.stack
 stk:X.stack=X.outer\/(X.stack=X.env::X.outer/\X.env.frame=some X.env.locals)
 exf:∀b∈X.ex,b≠X.env.locals/\∀x c,X.env.cells.lookup x=some c->c≠b
 bs:∀b o,X.base.get? b=some o->X.s₀.heap.get? b=some o/\X.H₀ b=none
 bsz:X.base.objs.size<=X.s₀.heap.objs.size
 noex:∀b o,X.base.get? b=some o->b∉X.ex
 exfs:∀b∈X.ex,b∉X.fs
 funs:X.s₀.heap.FunFrames X.base X.outer
 frf:∀b∈X.fs,X.H₀ b=none
structure Inv (X:Cx)(pins:List (ww×Obj))(σ:List (Option V))(H:Hp)(s:wv):Prop where
 ok:X.Ok
 os:s.os=X.s₀.os
 bare:yh s.gens
 base:Un X.fs X.ex X.H₀ H X.s₀.heap s.heap
 loc:∃m,s.heap.Ns X.env.locals m/\∀(i:Nat) (x:u8) (v:V),X.N[i]?=some x->σ[i]?=some (some v)->Vis X.env.scope x->∃u,RelV v u/\aRK X.env s.heap m x u
 cell:∀x c,X.env.cells.lookup x=some c->∃v,s.heap.IsCell c v
 free:H X.env.locals=none
 freeC:∀x c,X.env.cells.lookup x=some c->H c=none
 pin:∀p∈X.pn++pins,s.heap.get? p.1=some p.2/\H p.1=none/\p.1≠X.env.locals/\p.1∉X.fs/\∀v,p.2.data≠.cell v
 hok:HOk X.prog X.w H s.heap
 len:σ.length=X.N.length
def Cx.Ok.nofr {X:Cx}(ok:X.Ok){b:ww}{o:Obj}(e:X.base.get? b=some o):b∉X.fs:=λhb=>by
 have:=(ok.funs.mem hb).1;rw[e] at this;cases this
def Inv.bs (I:Inv X pins σ H s):∀b o,X.base.get? b=some o->s.heap.get? b=some o/\H b=none:=λb o e=>
 ⟨I.base.keep b o (I.ok.bs b o e).1 (I.ok.bs b o e).2 (I.ok.nofr e) (I.ok.noex b o e),I.base.free b o (I.ok.bs b o e).1 (I.ok.bs b o e).2 (I.ok.noex b o e)⟩
def Inv.bk (I:Inv X pins σ H s):∀b o,X.base.get? b=some o->s.heap.get? b=some o:=λb o e=>(I.bs b o e).1
def Inv.mod (I:Inv X pins σ H s):Mod X.K X.mg X.base:=I.ok.mod
def Inv.kIn (I:Inv X pins σ H s):X.K.In s.heap:=I.ok.mod.kin.keeps I.bk
def Inv.lt (I:Inv X pins σ H s):X.env.locals<s.heap.objs.size:=let⟨_,hn,_⟩:=I.loc;hn.lt
def Inv.sz (I:Inv X pins σ H s):X.s₀.heap.objs.size<=s.heap.objs.size:=bo I.ok.above (i6 I.lt)
def Inv.nofs {pins:List (ww×Obj)}{σ:List (Option V)}{H:Hp}{s:wv}(I:Inv X pins σ H s){a:ww}(h:s.heap.objs.size<=a):a∉X.fs:=λhb=>by
 obtain⟨_,o,ho,_⟩:=I.ok.funs.mem hb;exact absurd (av (bx ho) (bo I.sz h)) (kn _)
def Inv.cne (I:Inv X pins σ H s):∀x c,X.env.cells.lookup x=some c->c≠X.env.locals:=λx c e z=>by
 obtain⟨v,o,ho,hd⟩:=I.cell x c e;obtain⟨m,⟨o',es,ep,ho',hd',_⟩,_⟩:=I.loc;rw[z,ho'] at ho;cases ho;rw[hd'] at hd;cases hd
def Inv.funs (I:Inv X pins σ H s):s.heap.FunFrames X.base X.outer:=by
 have all:∀(l:List Env),(∀b∈frs l,b∈X.fs)->X.s₀.heap.FunFrames X.base l->s.heap.FunFrames X.base l:=by
  intro l
  induction l with
  |nil=>intro _ _;trivial
  |cons env r ih=>
   intro hs hl;obtain⟨hk,⟨L,o,hf,hn,ho,hd⟩,hr⟩:=hl;have hL:L∈X.fs:=hs L (by unfold frs;rw[la,hf];exact c7);obtain⟨sl,e⟩:=I.base.slot L o ho (I.ok.frf L hL) hL λz=>I.ok.exfs L z hL;exact⟨hk,⟨L,_,hf,hn,e,hd⟩,ih (λb hb=>hs b (by unfold frs;rw[la,hf];exact bq _ hb)) hr⟩
 exact all X.outer (λ_ hb=>hb) I.ok.funs
def Inv.stack (I:Inv X pins σ H s):s.heap.FunFrames X.base X.stack:=by
 rcases I.ok.stk with e|⟨e,hf⟩
 ·rw[e];exact I.funs
 ·rw[e];obtain⟨m,hn,_⟩:=I.loc;refine .cons (by rw[I.ok.kind];decide) hf hn ?_ I.funs;exact Heap.get?_none_of_le (bo I.ok.bsz I.ok.above)
def Inv.stkSub (I:Inv X pins σ H s):∀b∈frs X.stack,b∈X.env.locals::X.fs:=λb hb=>by
 rcases I.ok.stk with e|⟨e,hf⟩
 ·rw[e] at hb;exact bq _ hb
 ·rw[e] at hb;unfold frs at hb;rw[la,hf] at hb;exact hb
def Inv.stkFree (I:Inv X pins σ H s):∀b∈frs X.stack,H b=none:=λb hb=>by
 rcases b8.mp (I.stkSub b hb) with e|hb
 ·rw[e];exact I.free
 ·obtain⟨_,o,ho,_⟩:=I.ok.funs.mem hb;exact I.base.free b o ho (I.ok.frf b hb) λz=>I.ok.exfs b z hb
def Inv.step {pins:List (ww×Obj)}{σ:List (Option V)}{H H':Hp}{s:wv}{h':jp}{g':Array GenState}{t':Nat}{d':Drawn}{ch:List ww}(I:Inv X pins σ H s)(hch:∀b∈ch,(b∈X.ex\/X.s₀.heap.objs.size<=b)/\b≠X.env.locals/\(∀x c,X.env.cells.lookup x=some c->c≠b)/\∀p∈X.pn++pins,p.1≠b)(keep:∀b o,b≠X.env.locals->b∉X.fs->b∉ch->s.heap.get? b=some o->H b=none->h'.get? b=some o)(slot:∀b o,b≠X.env.locals->b∈X.fs->b∉ch->s.heap.get? b=some o->H b=none->∃sl,h'.get? b=some {o with slots:=sl})(free:∀b o,b∉ch->s.heap.get? b=some o->H b=none->H' b=none)(there:∀b o,b∉ch->s.heap.get? b=some o->∃o',h'.get? b=some o')(tups:∀b xs,H b=some (.tup xs)->H' b=some (.tup xs))(frzs:∀b o u,H b=some (.frz o u)->H' b=some (.frz o u))(tbls:∀b ps,H b=some (.tbl ps)->∃more,H' b=some (.tbl (ps++more)))(ns:∀m,s.heap.Ns X.env.locals m->h'.Ns X.env.locals m)(hok:HOk X.prog X.w H' h')(hg:yh g'):
  Inv X pins σ H' {s with heap:=h',gens:=g',drawn:=d',toks:=t'}:=by
 have neL:∀b o,X.s₀.heap.get? b=some o->b≠X.env.locals:=λb o e=>di (av (bx e) I.ok.above);have neC:∀b o,X.s₀.heap.get? b=some o->b∉X.ex->b∉ch:=λb o e hx hb=>by
  rcases(hch b hb).1 with z|z
  ·exact hx z
  ·exact absurd (av (bx e) z) (kn _)
 have cellK:∀x c,X.env.cells.lookup x=some c->∀v,s.heap.IsCell c v->h'.IsCell c v:=λx c e v ⟨o,ho,hd⟩=>by
  have nch:c∉ch:=λz=>(hch c z).2.2.1 x c e rfl;by_cases hc:c∈X.fs
  ·obtain⟨sl,q⟩:=slot c o (I.cne x c e) hc nch ho (I.freeC x c e);exact⟨_,q,hd⟩
  ·exact⟨o,keep c o (I.cne x c e) hc nch ho (I.freeC x c e),hd⟩
 refine⟨I.ok,I.os,hg,⟨λb o e n hb hx=>?_,λb o e n hb hx=>?_,λb o e n hx=>?_,λb o e hx=>?_,λb xs e=>tups b xs (I.base.tups b xs e),λb o xs e=>frzs b o xs (I.base.frzs b o xs e),λb ps e=>?_⟩,?_,λx c e=>?_,?_,λx c e=>?_,λp hp=>?_,hok,I.len⟩
 ·exact keep b o (neL b o e) hb (neC b o e hx) (I.base.keep b o e n hb hx) (I.base.free b o e n hx)
 ·obtain⟨sl,e1⟩:=I.base.slot b o e n hb hx;obtain⟨sl',e2⟩:=slot b _ (neL b o e) hb (neC b o e hx) e1 (I.base.free b o e n hx);exact⟨sl',e2⟩
 ·obtain⟨o',e1⟩:=I.base.there b o e hx;exact free b o' (neC b o e hx) e1 (I.base.free b o e n hx)
 ·obtain⟨o',e1⟩:=I.base.there b o e hx;exact there b o' (neC b o e hx) e1
 ·obtain⟨m1,e1⟩:=I.base.tbls b ps e;obtain⟨m2,e2⟩:=tbls b _ e1;exact⟨m1++m2,by rw[e2,Array.append_assoc]⟩
 ·obtain⟨m,hn,hl⟩:=I.loc;refine⟨m,ns m hn,λi x v e1 e2 e3=>?_⟩;obtain⟨u,r,l⟩:=hl i x v e1 e2 e3;refine⟨u,r,?_⟩;rcases l with l|⟨k,c,e,z⟩
  ·exact .inl l
  ·exact .inr ⟨k,c,e,cellK x c e _ z⟩
 ·obtain⟨v,z⟩:=I.cell x c e;exact⟨v,cellK x c e v z⟩
 ·obtain⟨m,⟨o,_,_,ho,_⟩,_⟩:=I.loc;exact free _ o (λz=>(hch _ z).2.1 rfl) ho I.free
 ·obtain⟨v,o,ho,hd⟩:=I.cell x c e;exact free c o (λz=>(hch c z).2.2.1 x c e rfl) ho (I.freeC x c e)
 ·obtain⟨e,n,ne,nf,d⟩:=I.pin p hp;have nch:p.1∉ch:=λz=>(hch p.1 z).2.2.2 p hp rfl;exact⟨keep p.1 p.2 ne nf nch e n,free p.1 p.2 nch e n,ne,nf,d⟩
def Inv.un (I:Inv X pins σ H s)(u:Un X.fs [] H H' s.heap h')(hok:HOk X.prog X.w H' h'):Inv X pins σ H' {s with heap:=h',toks:=t'}:=by
 obtain⟨m,⟨o,es,ep,ho,r⟩,_⟩:=id I.loc;obtain⟨sl,hL⟩:=u.any ho I.free (by simp);exact I.step (g':=s.gens) (d':=s.drawn) (ch:=[]) (λ_ z=>nomatch z) (λb o _ hb _ e n=>u.keep b o e n hb (by simp)) (λb o _ hb _ e n=>u.slot b o e n hb (by simp)) (λb o _ e n=>u.free b o e n (by simp)) (λb o _ e=>u.there b o e (by simp)) u.tups u.frzs u.tbls (λm' hm=>by
  obtain⟨o',es',ep',ho',r'⟩:=hm;rw[ho] at ho';cases ho';exact⟨_,es',ep',hL,r'⟩) hok I.bare
def Inv.call (I:Inv X pins σ H s)(u:Un (frs X.stack) ch H H' s.heap h')(hok:HOk X.prog X.w H' h')(hg:yh g')(hch:∀b∈ch,(b∈X.ex\/X.s₀.heap.objs.size<=b)/\b≠X.env.locals/\(∀x c,X.env.cells.lookup x=some c->c≠b)/\∀p∈X.pn++pins,p.1≠b):
  Inv X pins σ H' {s with heap:=h',gens:=g',drawn:=d',toks:=t'}:=by
 obtain⟨m,⟨o,es,ep,ho,r⟩,_⟩:=id I.loc;obtain⟨sl,hL⟩:=u.any ho I.free λz=>(hch _ z).2.1 rfl;exact I.step (ch:=ch) hch (λb o hL hb hc e n=>u.keep b o e n (λz=>(b8.mp (I.stkSub b z)).elim hL hb) hc) (λb o _ _ hc e n=>u.any e n hc) (λb o hc e n=>u.free b o e n hc) (λb o hc e=>u.there b o e hc) u.tups u.frzs u.tbls (λm' hm=>by
  obtain⟨o',es',ep',ho',r'⟩:=hm;rw[ho] at ho';cases ho';exact⟨_,es',ep',hL,r'⟩) hok hg
def Inv.turned (I:Inv X pins σ H s)(k:∀b o,b≠it->s.heap.get? b=some o->h'.get? b=some o)(hn:H it=none)(hL:it≠X.env.locals)(h1:it∈X.ex\/X.s₀.heap.objs.size<=it)(h2:∀x c,X.env.cells.lookup x=some c->c≠it)(h3:∀p∈X.pn++pins,p.1≠it):Inv X pins σ H {s with heap:=h',toks:=t'}:=by
 have nit:∀b u,H b=some u->b≠it:=λb u e z=>by rw[z,hn] at e;cases e
 refine I.step (g':=s.gens) (d':=s.drawn) (ch:=[it]) (λb hb=>?_) (λb o _ _ hc e _=>k b o (λz=>hc (by simp[z])) e) (λb o _ _ hc e _=>⟨o.slots,k b o (λz=>hc (by simp[z])) e⟩) (λ_ _ _ _ n=>n)
  (λb o hc e=>⟨o,k b o (λz=>hc (by simp[z])) e⟩) (λ_ _ e=>e) (λ_ _ _ e=>e) (λb ps e=>⟨#[],by rw[e];simp⟩) (λm hm=>?_) (λb u e=>?_) I.bare
 ·have e:b=it:=by simpa using hb
  subst e;exact⟨h1,hL,h2,h3⟩
 ·obtain⟨o,es,ep,ho,r⟩:=hm;exact⟨o,es,ep,k _ o (gf hL) ho,r⟩
 ·refine(I.hok b u e).stay (λc v hc q=>k c v ?_ q) (λ_ q=>q) λ_ _ q=>q;rcases hc with z|z
  ·rw[z];exact nit b u e
  ·exact nit c _ z
def Inv.tok (I:Inv X pins σ H s)(t:Nat):Inv X pins σ H {s with toks:=t}:=I.un (h':=s.heap) (t':=t) Un.refl I.hok
def Inv.kept (I:Inv X pins σ H s)(k:∀b u,s.heap.get? b=some u->h'.get? b=some u):Inv X pins σ H {s with heap:=h',toks:=t'}:=I.un (Un.kept k) (I.hok.kept k)
def Inv.laid {pins:List (ww×Obj)}{σ:List (Option V)}{H:Hp}{s:wv}{h':jp}{a:ww}{o:HO}{t':Nat}(I:Inv X pins σ H s)(k:∀b u,s.heap.get? b=some u->h'.get? b=some u)(hp:s.heap.objs.size<=a)(new:ObjOk X.prog X.w (upd H a o) h' a o):
  Inv X pins σ (upd H a o) {s with heap:=h',toks:=t'}:=I.un (Un.laid k hp (I.hok.fresh hp)) (I.hok.laid k hp new)
def Inv.write (I:Inv X pins σ H s)(mu:Mut (H x))(he:e=x\/H e=some (.own x))(k:∀b u,b≠e->s.heap.get? b=some u->h'.get? b=some u)(heo:∃u,h'.get? e=some u)(new:ObjOk X.prog X.w (upd H x o) h' x o):Inv X pins σ (upd H x o) {s with heap:=h',toks:=t'}:=I.un (Un.write mu he k heo) (I.hok.write mu he k heo new)
def Inv.pins_of (I:Inv X pins σ H s)(h:∀p∈pins',s.heap.get? p.1=some p.2/\H p.1=none/\p.1≠X.env.locals/\p.1∉X.fs/\∀v,p.2.data≠.cell v):Inv X pins' σ H s:=
 ⟨I.ok,I.os,I.bare,I.base,I.loc,I.cell,I.free,I.freeC,λp hp=>(cg.mp hp).elim (λz=>I.pin p (j3 _ z)) (h p),I.hok,I.len⟩
def aDd {N:List u8}(hN:N.Nodup){i j:Nat}{x:u8}(a:N[i]?=some x)(b:N[j]?=some x):i=j:=by
 obtain⟨h1,e1⟩:=ai.mp a;obtain⟨h2,e2⟩:=ai.mp b;exact(qp hN).mp (e1.trans e2.symm)
def aAS (I:Inv X pins σ H s)(hN:X.N.Nodup)(hi:X.N[i]?=some x)(hx:Loc X.env.scope x)(r:RelV v u)(h:∀s',Inv X pins (σ.set i (some v)) H s'->(∃a,gp a s.heap s'.heap/\(a=X.env.locals\/X.env.cells.lookup x=some a))->Q () s')(hf:X.fn x=true\/X.env.scope.names.lookup x=some .local:=by first|exact .inl rfl|exact .inr rfl|assumption):v4 M A (storeName X.env x u) Q E s:=by
 obtain⟨m,hn,hl⟩:=id I.loc;have hcls:(X.env.scope.kind==.class||(X.env.scope.kind==.module&&X.env.locals != X.env.globals))=false:=by rw[I.ok.kind];rfl
 have hiσ:i<σ.length:=by rw[I.len];exact(ai.mp hi).1
 have cne:=I.cne;have tracked:∀{a:ww}{h':jp},(∃o,s.heap.get? a=some o/\H a=none)->gp a s.heap h'->HOk X.prog X.w H h':=λ{a h'} ha hs b ob e=>by
  obtain⟨_,_,hfree⟩:=ha;refine(I.hok b ob e).stay (λc w' hc q=>(hs.2 c ?_).trans q) (λ_ q=>q) λ_ _ q=>q;rintro rfl;rcases hc with rfl|hc
  ·rw[hfree] at e;cases e
  ·rw[hfree] at hc;cases hc
 rcases hx with hk|hk
 ·refine wpAny_storeName_local hk hn (λh' hn' hs=>?_) hcls;obtain⟨oL,_,_,hoL,_⟩:=id hn;refine h _ ⟨I.ok,I.os,I.bare,⟨λb o e n hb hx=>?_,λb o e n hb hx=>?_,I.base.free,λb o e hx=>?_,I.base.tups,I.base.frzs,I.base.tbls⟩,⟨_,hn',λj y v' e1 e2 e3=>?_⟩,λy c e=>?_,I.free,I.freeC,λp hp=>?_,tracked ⟨oL,hoL,I.free⟩ hs,by simpa using I.len⟩ ⟨_,hs,.inl rfl⟩
  ·exact(hs.2 b (di (av (bx e) I.ok.above))).trans (I.base.keep b o e n hb hx)
  ·obtain⟨sl,e1⟩:=I.base.slot b o e n hb hx;exact⟨sl,(hs.2 b (di (av (bx e) I.ok.above))).trans e1⟩
  ·obtain⟨o',e1⟩:=I.base.there b o e hx;exact⟨o',(hs.2 b (di (av (bx e) I.ok.above))).trans e1⟩
  ·by_cases hj:j=i
   ·subst hj;rw[hi] at e1;cases e1;rw[j9 hiσ] at e2;cases e2;exact⟨u,r,.inl ⟨hk,by simp⟩⟩
   ·rw[fk (gf hj)] at e2;obtain⟨u',r',q⟩:=hl j y v' e1 e2 e3;refine⟨u',r',?_⟩;rcases q with⟨k,e⟩|⟨k,c,e,z⟩
    ·refine .inl ⟨k,?_⟩;have:y≠x:=λe=>hj (aDd hN e1 (e▸hi));simp[this,e]
    ·exact .inr ⟨k,c,e,z.sameBut hs (cne y c e)⟩
  ·obtain⟨w',z⟩:=I.cell y c e;exact⟨w',z.sameBut hs (cne y c e)⟩
  ·obtain⟨e,n,ne,nf,d⟩:=I.pin p hp;exact⟨(hs.2 p.1 ne).trans e,n,ne,nf,d⟩
 ·have hfn:X.fn x=true:=by
   rcases hf with z|z
   ·exact z
   ·rw[z] at hk;cases hk
  obtain⟨c,hc⟩:=I.ok.has x (.inl hk);obtain⟨w',z⟩:=I.cell x c hc;refine wpAny_storeName_cell I.ok.kind hk hc z (λh' hc' hs=>?_);obtain⟨oc,hoc,hocd⟩:=id z;refine h {s with heap:=h'} ⟨I.ok,I.os,I.bare,⟨λb o e n hb hx=>?_,λb o e n hb hx=>?_,I.base.free,λb o e hx=>?_,I.base.tups,I.base.frzs,I.base.tbls⟩,⟨m,hn.sameBut hs (gf (cne x c hc)),λj y v' e1 e2 e3=>?_⟩,λy c' e=>?_,I.free,I.freeC,λp hp=>?_,tracked ⟨oc,hoc,I.freeC x c hc⟩ hs,by simpa using I.len⟩ ⟨c,hs,.inr hc⟩
  ·exact(hs.2 b (di (av (bx e) (I.ok.cab x c hfn hc)))).trans (I.base.keep b o e n hb hx)
  ·obtain⟨sl,e1⟩:=I.base.slot b o e n hb hx;exact⟨sl,(hs.2 b (di (av (bx e) (I.ok.cab x c hfn hc)))).trans e1⟩
  ·obtain⟨o',e1⟩:=I.base.there b o e hx;exact⟨o',(hs.2 b (di (av (bx e) (I.ok.cab x c hfn hc)))).trans e1⟩
  ·by_cases hj:j=i
   ·subst hj;rw[hi] at e1;cases e1;rw[j9 hiσ] at e2;cases e2;exact⟨u,r,.inr ⟨.inl hk,c,hc,hc'⟩⟩
   ·rw[fk (gf hj)] at e2;obtain⟨u',r',q⟩:=hl j y v' e1 e2 e3;refine⟨u',r',?_⟩;rcases q with q|⟨k,c',e,z'⟩
    ·exact .inl q
    ·refine .inr ⟨k,c',e,z'.sameBut hs ?_⟩;rintro rfl;exact hj (aDd hN e1 (I.ok.inj _ _ _ e hc▸hi))
  ·by_cases hcc:c'=c
   ·subst hcc;exact⟨_,hc'⟩
   ·obtain⟨w2,z2⟩:=I.cell y c' e;exact⟨w2,z2.sameBut hs hcc⟩
  ·obtain⟨e,n,ne,nf,d⟩:=I.pin p hp;refine⟨(hs.2 p.1 ?_).trans e,n,ne,nf,d⟩;intro q;rw[q,hoc] at e;have q':oc=p.2:=cf e;exact d w' (by rw[<- q'];exact hocd)
def rM (I:Inv X pins σ H s)(hN:X.N.Nodup)(hi:X.N[i]?=some x)(hx:Loc X.env.scope x)(r:RelV v u)(h:∀s',Inv X pins (σ.set i (some v)) H s'->Q () s')(hf:X.fn x=true\/X.env.scope.names.lookup x=some .local:=by first|exact .inl rfl|exact .inr rfl|assumption):v4 M A (storeName X.env x u) Q E s:=
 aAS I hN hi hx r (λs' I' _=>h s' I') hf
def Inv.call' (I:Inv X pins σ H s)(ho:s'.os=s.os)(u:Un (frs X.stack) ch H H' s.heap s'.heap)(hok:HOk X.prog X.w H' s'.heap)(hg:yh s'.gens)(hch:∀b∈ch,(b∈X.ex\/X.s₀.heap.objs.size<=b)/\b≠X.env.locals/\(∀x c,X.env.cells.lookup x=some c->c≠b)/\∀p∈X.pn++pins,p.1≠b):Inv X pins σ H' s':=by
 obtain⟨h',g',d',t',o'⟩:=s';have e:o'=s.os:=ho;subst e;exact I.call (g':=g') (t':=t') (d':=d') u hok hg hch
abbrev XK:=wn->Option ww->Hp->Prop
abbrev St:=List (Option V)
abbrev VK:=V->Hp->Prop
abbrev TE:=St->Hp->VK->Prop
abbrev TT:=St->Hp->(Bool->Hp->Prop)->Prop
abbrev TA:=St->Hp->(List V->Hp->Prop)->Prop
structure xX where
 nx:St->Hp->Prop
 rt:VK
 bk:St->Hp->Prop:=λ_ _=>False
 ct:St->Hp->Prop:=λ_ _=>False
abbrev TS:=xX->St->Hp->Prop
def EP (X:Cx)(pins:List (ww×Obj))(σ:St)(Q:VK)(u:wn)(s':wv):Prop:=∃v H',Inv X pins σ H' s'/\RelV v u/\Q v H'
def TP (X:Cx)(pins:List (ww×Obj))(σ:St)(Q:Bool->Hp->Prop)(b:Bool)(s':wv):Prop:=∃H',Inv X pins σ H' s'/\Q b H'
def AP (X:Cx)(pins:List (ww×Obj))(σ:St)(Q:List V->Hp->Prop)(us:List wn)(s':wv):Prop:=∃vs H',Inv X pins σ H' s'/\Vals vs us/\Q vs H'
def SP (X:Cx)(pins:List (ww×Obj))(D:xX)(f:Flow)(s':wv):Prop:=
 match f with
 |.next=>∃σ' H',Inv X pins σ' H' s'/\D.nx σ' H'
 |.brk=>∃σ' H',Inv X pins σ' H' s'/\D.bk σ' H'
 |.cont=>∃σ' H',Inv X pins σ' H' s'/\D.ct σ' H'
 |.ret u=>∃v σ' H',Inv X pins σ' H' s'/\RelV v u/\D.rt v H'
def PE (X:Cx)(e:ut)(t:TE):Prop:=
 ∀(pins:List (ww×Obj)) (s:wv) (σ:St) (H:Hp) (Q:VK),Inv X pins σ H s->t σ H Q->v4 (v6 X.prog X.w) X.A (eval e X.env) (EP X pins σ Q) X.xe s
def PT (X:Cx)(e:ut)(t:TT):Prop:=
 ∀(pins:List (ww×Obj)) (s:wv) (σ:St) (H:Hp) (Q:Bool->Hp->Prop),Inv X pins σ H s->t σ H Q->v4 (v6 X.prog X.w) X.A (isTrue e X.env (eval e X.env)) (TP X pins σ Q) X.xe s
def PW (X:Cx)(e:ut)(t:TT):Prop:=
 ∀(whole:Sem wn) (pins:List (ww×Obj)) (s:wv) (σ:St) (H:Hp) (Q:Bool->Hp->Prop),Inv X pins σ H s->t σ H Q->v4 (v6 X.prog X.w) X.A (isTrue e X.env whole) (TP X pins σ Q) X.xe s
def PW.pt (h:PW X e t):PT X e t:=h _
def PA (X:Cx)(es:List ut)(t:TA):Prop:=
 ∀(pos:Pos) (pins:List (ww×Obj)) (s:wv) (σ:St) (H:Hp) (Q:List V->Hp->Prop),Inv X pins σ H s->t σ H Q->v4 (v6 X.prog X.w) X.A (spliced (vc pos (fv es X.env))) (AP X pins σ Q) X.xe s
def PS (X:Cx)(st:Stmt)(t:TS):Prop:=
 ∀(pins:List (ww×Obj)) (s:wv) (σ:St) (H:Hp) (D:xX),Inv X pins σ H s->t D σ H->v4 (v6 X.prog X.w) X.A (exec st X.env) (SP X pins D) X.xe s
def PSs (X:Cx)(st:List Stmt)(t:TS):Prop:=
 ∀(pins:List (ww×Obj)) (s:wv) (σ:St) (H:Hp) (D:xX),Inv X pins σ H s->t D σ H->v4 (v6 X.prog X.w) X.A (execs st X.env) (SP X pins D) X.xe s
def thn (h:v4 M A t Q E s)(hQ:∀a s,Q a s->Q' a s):v4 M A t Q' E s:=jf h hQ λ_ _ x=>x
section
variable {X:Cx}
inductive aMJ (i:Nat) (σ:St) (H:Hp) (Q:VK):Prop
 |mk (v:V) (h:σ[i]?=some (some v)) (q:Q v H):aMJ i σ H Q
def aC (i:Nat):TE:=λσ H Q=>aMJ i σ H Q
def tC (v:V):TE:=λ_ H Q=>Q v H
abbrev AC (i:Int):TE:=tC (.int i)
def aMh {i:Nat}{x:u8}{pos:Pos}(hN:X.N[i]?=some x)(hv:Vis X.env.scope x)(hd:(x==("__debug__":u8))=false:=by decide)(hcd:(x==("__classdict__":u8))=false:=by decide):PE X (.Name x pos) (aC i):=by
 intro pins s σ H Q I h;obtain⟨v,e,h⟩:=h;obtain⟨m,hn,hl⟩:=I.loc;obtain⟨u,r,l⟩:=hl i x v hN e hv;have fin:EP X pins σ Q u s:=⟨v,H,I,r,h⟩;rcases l with⟨hk,hm⟩|⟨hk,c,hc,hcell⟩
 ·exact wpAny_Name (wpAny_loadName_local I.ok.kind hk hn hm fin) hd
 ·rcases hk with hk|hk
  ·exact wpAny_Name (wpAny_loadName_cell I.ok.kind hk hc hcell fin) hd
  ·exact wpAny_Name (wpAny_loadName_free I.ok.kind hk hc hcell fin hcd) hd
def eP:PE X (.Constant (.int i) j pos) (tC (.int i)):=λ_ _ _ H _ I h=>wpAny_Constant_int ⟨.int i,H,I.tok _,⟨_,rfl⟩,h⟩
def aLV:PE X (.Constant (.bool b) j pos) (tC (.bl b)):=λ_ _ _ H _ I h=>Constant_bool ⟨.bl b,H,I,rfl,h⟩
def aNy:PE X (.Constant .none j pos) (tC .non):=λ_ _ _ H _ I h=>Constant_none ⟨.non,H,I,rfl,h⟩
def aNj:PE X (.Constant (.str x) j pos) (tC (.str x)):=λ_ _ _ H _ I h=>Calls.Constant_str ⟨.str x,H,I.tok _,⟨_,rfl⟩,h⟩
def Gl (X:Cx)(x:u8):Prop:=X.env.kindOf x=some .globalImplicit
def aCd {pins:List (ww×Obj)}{s:wv}{σ:St}{H:Hp}{x:u8}{u:wn}{pos:Pos}(I:Inv X pins σ H s)(hg:Gl X x)(hm:X.mg x=some u)(h:Q u s)(hd:(x==("__debug__":u8))=false:=by decide):v4 (v6 X.prog X.w) X.A (eval (.Name x pos) X.env) Q E s:=
 v5 I.ok.kind hg (Calls.loadGlobal_global (by rw[I.ok.glob];exact I.mod.glob.keeps I.bk) hm h) hd
def tM {E:wn->wv->Prop}{pins:List (ww×Obj)}{s:wv}{σ:St}{H:Hp}{x:u8}{u:wn}{pos:Pos}{Q:wn->wv->Prop}(I:Inv X pins σ H s)(hg:Gl X x)(hm:X.mg x=none)(hv:fm x=some u)(h:Q u s)(hn:x≠"__name__":=by decide)(hd:(x==("__debug__":u8))=false:=by decide):v4 (v6 X.prog X.w) X.A (eval (.Name x pos) X.env) Q E s:=by
 obtain⟨mb,h1,h2⟩:=I.mod.blt;exact v5 I.ok.kind hg (Calls.loadGlobal_builtin (by rw[I.ok.glob];exact I.mod.glob.keeps I.bk) hm (by rw[I.ok.blt];exact h1.keeps I.bk) ((h2 x hn).trans hv) h) hd
def aBP (hg:Gl X x)(hm:X.mg x=some u)(r:RelV v u)(hd:(x==("__debug__":u8))=false:=by decide):PE X (.Name x pos) (tC v):=
 λ_ _ _ H _ I h=>aCd I hg hm ⟨v,H,I,r,h⟩ hd
def sQ {x:u8}{v:V}{u:wn}{pos:Pos}(hg:Gl X x)(hm:X.mg x=none)(hv:fm x=some u)(r:RelV v u)(hn:x≠"__name__":=by decide)(hd:(x==("__debug__":u8))=false:=by decide):PE X (.Name x pos) (tC v):=
 λ_ _ _ H _ I h=>tM I hg hm hv ⟨v,H,I,r,h⟩ hn hd
variable {a b:ut}{ta tb:TE}{pos:Pos}
def tB (t:TE):TT:=λσ H Q=>t σ H λx H1=>∃c,x=.bl c/\Q c H1
def aBr (h:PE X e t)(he:∀whole,isTrue e X.env whole=(do let v <- whole;BX e.pos;AX [v] (truthy v)):=by intro _;rfl):PT X e (tB t):=by
 intro pins s σ H Q I hw;refine isTrue_plain (thn (h pins s σ H _ I hw) λv s1 ⟨x,H1,I1,r1,q1⟩=>?_) (he _);obtain⟨d,rfl,q⟩:=q1;cases r1;exact jc ⟨H1,I1,q⟩
variable {tA tB':TT}{rest:List ut}
def aJW (t u:TT):TT:=λσ H Q=>t σ H λc H1=>if c=true then u σ H1 Q else Q false H1
def tOr (t u:TT):TT:=λσ H Q=>t σ H λc H1=>if c=true then Q true H1 else u σ H1 Q
def vV (t:TT):TT:=λσ H Q=>t σ H λc H1=>Q (!c) H1
def aKQ (ha:PT X a tA):PW X (.BoolOp .And [a] pos) tA:=by
 intro wh pins s σ H Q I h;refine isTrue_and (thn (ha pins s σ H Q I h) λc s1 e=>?_);cases c with
 |true=>exact isTrue_and_nil e
 |false=>exact e
def aKb (ha:PT X a tA):PW X (.BoolOp .Or [a] pos) tA:=by
 intro wh pins s σ H Q I h;refine isTrue_or (thn (ha pins s σ H Q I h) λc s1 e=>?_);cases c with
 |false=>exact isTrue_or_nil e
 |true=>exact e
def aNf (ha:PT X a tA)(hb:PW X (.BoolOp .And (b::rest) pos) tB'):PW X (.BoolOp .And (a::b::rest) pos) (aJW tA tB'):=by
 intro wh pins s σ H Q I h;refine isTrue_and (thn (ha pins s σ H _ I h) λc s1 ⟨H1,I1,q1⟩=>?_);cases c with
 |true=>exact hb wh pins s1 σ H1 Q I1 q1
 |false=>exact⟨H1,I1,q1⟩
def aNn (ha:PT X a tA)(hb:PW X (.BoolOp .Or (b::rest) pos) tB'):PW X (.BoolOp .Or (a::b::rest) pos) (tOr tA tB'):=by
 intro wh pins s σ H Q I h;refine isTrue_or (thn (ha pins s σ H _ I h) λc s1 ⟨H1,I1,q1⟩=>?_);cases c with
 |true=>exact⟨H1,I1,q1⟩
 |false=>exact hb wh pins s1 σ H1 Q I1 q1
def aHm (ha:PT X a tA):PT X (.UnaryOp .Not a pos) (vV tA):=by
 intro pins s σ H Q I h;exact isTrue_not (ha pins s σ H (λc H1=>Q (!c) H1) I h)
def aBs (ta tb:TE):TE:=λσ H Q=>ta σ H λx H1=>∃c,x=.bl c/\if c=true then tb σ H1 Q else Q (.bl false) H1
def aOK (ta tb:TE):TE:=λσ H Q=>ta σ H λx H1=>∃c,x=.bl c/\if c=true then Q (.bl true) H1 else tb σ H1 Q
def aIv (ta:TE):TE:=λσ H Q=>ta σ H λx H1=>∃c,x=.bl c/\Q (.bl (!c)) H1
def aNP (h:PE X a t):PE X (.BoolOp op [a] pos) t:=λpins s σ H Q I hw=>BoolOp_one (h pins s σ H Q I hw)
def aNK (ha:PE X a ta)(hb:PE X (.BoolOp .And (b::rest) pos) tb):PE X (.BoolOp .And (a::b::rest) pos) (aBs ta tb):=by
 intro pins s σ H Q I h;refine BoolOp_and (thn (ha pins s σ H _ I h) λv s1 ⟨x,H1,I1,r1,q1⟩=>?_);obtain⟨c,rfl,q1⟩:=q1;cases r1;refine jc ?_;cases c with
 |true=>exact hb pins s1 σ H1 Q I1 q1
 |false=>exact⟨.bl false,H1,I1,rfl,q1⟩
def aQh (ha:PE X a ta)(hb:PE X (.BoolOp .Or (b::rest) pos) tb):PE X (.BoolOp .Or (a::b::rest) pos) (aOK ta tb):=by
 intro pins s σ H Q I h;refine BoolOp_or (thn (ha pins s σ H _ I h) λv s1 ⟨x,H1,I1,r1,q1⟩=>?_);obtain⟨c,rfl,q1⟩:=q1;cases r1;refine jc ?_;cases c with
 |false=>exact hb pins s1 σ H1 Q I1 q1
 |true=>exact⟨.bl true,H1,I1,rfl,q1⟩
def aNE (ha:PE X a ta):PE X (.UnaryOp .Not a pos) (aIv ta):=by
 intro pins s σ H Q I h;refine UnaryOp_ (thn (ha pins s σ H _ I h) λv s1 ⟨x,H1,I1,r1,q1⟩=>?_);obtain⟨c,rfl,q1⟩:=q1;cases r1;exact not_of (jc ⟨.bl (!c),H1,I1,rfl,q1⟩)
def tIf (t:TT)(ta tb:TE):TE:=λσ H Q=>t σ H λc H1=>if c=true then ta σ H1 Q else tb σ H1 Q
def aIQ (hc:PT X c tA)(ha:PE X a ta)(hb:PE X b tb):PE X (.IfExp c a b pos) (tIf tA ta tb):=by
 intro pins s σ H Q I h;refine wpAny_IfExp (thn (hc pins s σ H _ I h) λd s1 ⟨H1,I1,q1⟩=>?_);cases d with
 |true=>exact ha pins s1 σ H1 Q I1 q1
 |false=>exact hb pins s1 σ H1 Q I1 q1
end
def SqL (K:aa)(H:Hp)(a:ww)(xs:List V):Prop:=
 Rd H a (.lst xs) \/
  ∃(o:Obj) (its:Array wn) (n:Nat),K.lookup a=some o/\o.cls=.type "list"/\o.dict=none/\o.data=.seq its n/\its.size<=cm/\Vals xs its.toList
def SqT (K:aa)(H:Hp)(a:ww)(xs:List V):Prop:=
 Rd H a (.tup xs) \/
  ∃(o:Obj) (its:Array wn) (n:Nat),K.lookup a=some o/\o.cls=.type "tuple"/\o.dict=none/\o.data=.seq its n/\its.size<=cm/\Vals xs its.toList
def aRF:wn->Option V
 |.none=>some .non
 |.bool b=>some (.bl b)
 |.int i _=>some (.int i)
 |.str x _=>some (.str x)
 |.bytes b _=>some (.byt b)
 |.float b _=>some (.flt b)
 |.ref a=>some (.ref a)
 |.type n=>some (.ty n)
 |_=>none
def RelV.abs (r:RelV x u):aRF u=some x:=by
 cases x with
 |non=>cases r;rfl
 |bl _=>cases r;rfl
 |int _=>obtain⟨t,rfl⟩:=r;rfl
 |str _=>obtain⟨t,rfl⟩:=r;rfl
 |byt _=>obtain⟨t,rfl⟩:=r;rfl
 |flt _=>obtain⟨t,rfl⟩:=r;rfl
 |ref _=>cases r;rfl
 |ty _=>cases r;rfl
def RelV.inj (r:RelV x u)(q:RelV y u):x=y:=cf (r.abs.symm.trans q.abs)
theorem Vals.inj:∀{xs ys:List V}{us:List wn},Vals xs us->Vals ys us->xs=ys
 |_,_,_,.nil,.nil=>rfl
 |_,_,_,.cons r t,.cons r' t'=>by rw[r.inj r',Vals.inj t t']
def SqL.of {H:Hp}{a:ww}{xs:List V}{K:aa}(h:H a=some (.lst xs)):SqL K H a xs:=.inl (.inl h)
def SqT.of {H:Hp}{a:ww}{xs:List V}{K:aa}(h:H a=some (.tup xs)):SqT K H a xs:=.inl (.inl h)
def Inv.list {pins:List (ww×Obj)}{σ:St}{H:Hp}{s:wv}{a:ww}{xs:List V}(I:Inv X pins σ H s)(h:SqL X.K H a xs):∃its:List wn,Vals xs its/\PlainL s.heap a its.toArray/\xs.length<=cm:=by
 rcases h with h|⟨o,its,n,hk,hc,hd,hs,hz,r⟩
 ·obtain⟨z,its,n,r,e⟩:=h.ok I.hok;exact⟨its,r,⟨_,n,e,rfl,rfl,rfl⟩,z⟩
 ·refine⟨its.toList,r,⟨o,n,I.kIn a o hk,hc,hd,by simpa using hs⟩,?_⟩;have e:=r.length;simp only[da] at e;lia
def Inv.tuple {pins:List (ww×Obj)}{σ:St}{H:Hp}{s:wv}{a:ww}{xs:List V}(I:Inv X pins σ H s)(h:SqT X.K H a xs):∃its:List wn,Vals xs its/\IsTup s.heap a its.toArray/\xs.length<=cm:=by
 rcases h with h|⟨o,its,n,hk,hc,_,hs,hz,r⟩
 ·obtain⟨z,its,r,p⟩:=h.ok I.hok;exact⟨its,r,p.tup,z⟩
 ·refine⟨its.toList,r,⟨o,I.kIn a o hk,hc,n,by simpa using hs⟩,?_⟩;have e:=r.length;simp only[da] at e;lia
def Inv.list_inj {pins:List (ww×Obj)}{σ:St}{H:Hp}{s:wv}{a:ww}{xs ys:List V}(I:Inv X pins σ H s)(h:SqL X.K H a xs)(h':SqL X.K H a ys):xs=ys:=by
 obtain⟨its,r,⟨o,n,e,_,_,d⟩,_⟩:=I.list h;obtain⟨its',r',⟨o',n',e',_,_,d'⟩,_⟩:=I.list h';rw[e] at e';cases e';rw[d] at d';injection d' with d1 _;have:its=its':=by simpa using congrArg Array.toList d1
 subst this;exact r.inj r'
def Inv.tuple_inj {pins:List (ww×Obj)}{σ:St}{H:Hp}{s:wv}{a:ww}{xs ys:List V}(I:Inv X pins σ H s)(h:SqT X.K H a xs)(h':SqT X.K H a ys):xs=ys:=by
 obtain⟨its,r,⟨o,e,_,n,d⟩,_⟩:=I.tuple h;obtain⟨its',r',⟨o',e',_,n',d'⟩,_⟩:=I.tuple h';rw[e] at e';cases e';rw[d] at d';injection d' with d1 _;have:its=its':=by simpa using congrArg Array.toList d1
 subst this;exact r.inj r'
abbrev Cx.wish (X:Cx)(E:wn->wv->Prop):Cx:={X with xe:=E}
abbrev Cx.nox (X:Cx):Cx:=X.wish λ_ _=>False
def Cx.Ok.wish {X:Cx}(ok:X.Ok)(E:wn->wv->Prop):(X.wish E).Ok:=
 ⟨ok.mod,ok.kind,ok.glob,ok.blt,ok.above,ok.inj,ok.has,ok.cab,ok.hd,ok.frames,ok.stk,ok.exf,ok.bs,ok.bsz,ok.noex,ok.exfs,ok.funs,ok.frf⟩
def Cx.Ok.unwish {X:Cx}{E:wn->wv->Prop}(ok:(X.wish E).Ok):X.Ok:=
 ⟨ok.mod,ok.kind,ok.glob,ok.blt,ok.above,ok.inj,ok.has,ok.cab,ok.hd,ok.frames,ok.stk,ok.exf,ok.bs,ok.bsz,ok.noex,ok.exfs,ok.funs,ok.frf⟩
def Inv.wish {pins:List (ww×Obj)}{σ:St}{H:Hp}{s:wv}(I:Inv X pins σ H s)(E:wn->wv->Prop):Inv (X.wish E) pins σ H s:=⟨I.ok.wish E,I.os,I.bare,I.base,I.loc,I.cell,I.free,I.freeC,I.pin,I.hok,I.len⟩
def Inv.unwish {pins:List (ww×Obj)}{σ:St}{H:Hp}{s:wv}(I:Inv (X.wish E) pins σ H s):Inv X pins σ H s:=⟨I.ok.unwish,I.os,I.bare,I.base,I.loc,I.cell,I.free,I.freeC,I.pin,I.hok,I.len⟩
def SP.unwish (h:SP (X.wish E) pins D f s'):SP X pins D f s':=by
 cases f with
 |next=>obtain⟨σ',H',I,q⟩:=h;exact⟨σ',H',I.unwish,q⟩
 |brk=>obtain⟨σ',H',I,q⟩:=h;exact⟨σ',H',I.unwish,q⟩
 |cont=>obtain⟨σ',H',I,q⟩:=h;exact⟨σ',H',I.unwish,q⟩
 |ret u=>obtain⟨v,σ',H',I,r,q⟩:=h;exact⟨v,σ',H',I.unwish,r,q⟩
def PT.nox (h:PT X.nox e t):PT X e t:=λpins s σ H Q I hw=>
 jf (h pins s σ H Q (I.wish _) hw) (λ_ _ ⟨H',I',q⟩=>⟨H',I'.unwish,q⟩) λ_ _ z=>mz z
def PSs.nox {st:List Stmt}{t:TS}(h:PSs X.nox st t):PSs X st t:=λpins s σ H D I hw=>
 jf (h pins s σ H D (I.wish _) hw) (λ_ _ q=>q.unwish) λ_ _ z=>mz z
def aG:TS:=λD σ H=>D.nx σ H
def aH (t u:TS):TS:=λD σ H=>t {D with nx:=u D} σ H
def cT:PSs X [] aG:=λ_ _ σ H _ I h=>Ad ⟨σ,H,I,h⟩
def aS {st:Stmt}{rest:List Stmt}{t u:TS}(h1:PS X st t)(h2:PSs X rest u):PSs X (st::rest) (aH t u):=by
 intro pins s σ H D I h;refine wpAny_execs_cons (thn (h1 pins s σ H {D with nx:=u D} I h) λf s1 q=>?_);cases f with
 |next=>
  obtain⟨σ',H',I',q⟩:=q;exact h2 pins s1 σ' H' D I' q
 |ret v=>exact q
 |brk=>exact q
 |cont=>exact q
def Inv.quiet {pins:List (ww×Obj)}{σ:St}{H:Hp}{s:wv}(I:Inv X pins σ H s):interactive X.env=false:=by simp[interactive,I.ok.kind]
def fF (te:TE):TS:=λD σ H=>te σ H λ_ H1=>D.nx σ H1
def tZ (he:PE X e te)(hs:BY e none pos.line X.env=pure false:=by rfl):PS X (.Expr e pos) (fF te):=by
 intro pins s σ H D I h;exact wpAny_Expr_any (thn (he pins s σ H _ I h) λv s1 ⟨x,H1,I1,r1,q1⟩=>⟨σ,H1,I1,q1⟩) I.quiet hs
def cK (te:TE):TS:=λD σ H=>te σ H D.rt
def aAP (he:PE X e te):PS X (.Return (some e) pos) (cK te):=by
 intro pins s σ H D I h;exact wpAny_Return_some (thn (he pins s σ H _ I h) λv s1 ⟨x,H1,I1,r1,q1⟩=>⟨x,σ,H1,I1,r1,q1⟩)
def eC (c:TT)(t u:TS):TS:=λD σ H=>c σ H λb H1=>if b=true then t D σ H1 else u D σ H1
def aEE (hc:PT X c tc)(ha:PSs X a t)(hb:PSs X b u):PS X (.If c a b pos) (eC tc t u):=by
 intro pins s σ H D I h;refine wpAny_If (thn (hc pins s σ H _ I h) λd s1 ⟨H1,I1,q1⟩=>?_);cases d with
 |true=>exact ha pins s1 σ H1 D I1 q1
 |false=>exact hb pins s1 σ H1 D I1 q1
abbrev TG:=V->St->Hp->(St->Hp->Prop)->Prop
abbrev TGs:=List V->St->Hp->(St->Hp->Prop)->Prop
def PG (X:Cx)(target:ut)(t:TG):Prop:=
 ∀(pins:List (ww×Obj)) (s:wv) (σ:St) (H:Hp) (v:V) (u:wn) (Q:St->Hp->Prop),Inv X pins σ H s->RelV v u->t v σ H Q ->
  v4 (v6 X.prog X.w) X.A (BF target X.env u) (λ_ s'=>∃σ' H',Inv X pins σ' H' s'/\Q σ' H') X.xe s
def PGs (X:Cx)(ts:List ut)(t:TGs):Prop:=
 ∀(pins:List (ww×Obj)) (s:wv) (σ:St) (H:Hp) (vs:List V) (us:List wn) (Q:St->Hp->Prop),Inv X pins σ H s->Vals vs us->t vs σ H Q ->
  v4 (v6 X.prog X.w) X.A (Be ((tu ts X.env).map (·.2)) us) (λ_ s'=>∃σ' H',Inv X pins σ' H' s'/\Q σ' H') X.xe s
abbrev aRo:=V->V->V->Hp->(Hp->Prop)->Prop
def aRp (X:Cx)(t:aRo):Prop:=
 ∀(pins:List (ww×Obj)) (s:wv) (σ:St) (H:Hp) (o i v:V) (ov iv u:wn) (Q:Hp->Prop),Inv X pins σ H s->RelV o ov->RelV i iv->RelV v u->t o i v H Q ->
  v4 (v6 X.prog X.w) X.A (setItem ov iv u) (λ_ s'=>∃H',Inv X pins σ H' s'/\Q H') X.xe s
def aE (i:Nat):TG:=λv σ H Q=>Q (σ.set i (some v)) H
def cH (hN:X.N.Nodup)(hi:X.N[i]?=some x)(hx:Loc X.env.scope x)(hf:X.fn x=true\/X.env.scope.names.lookup x=some .local:=by first|exact .inl rfl|exact .inr rfl|assumption):PG X (.Name x pos) (aE i):=by
 intro pins s σ H v u Q I r h;exact wpAny_assign_Name (rM I hN hi hx r (λs' I'=>⟨_,H,I',h⟩) hf)
def jU:TGs:=λvs σ H Q=>vs=[]/\Q σ H
def bE (t:TG)(u:TGs):TGs:=λvs σ H Q=>∃v r,vs=v::r/\t v σ H λσ' H'=>u r σ' H' Q
def oZ:PGs X [] jU:=by
 intro pins s σ H vs us Q I r h;obtain⟨e,h⟩:=h;subst e;cases r;exact assignInOrder_nil ⟨σ,H,I,h⟩
def dE (h1:PG X e t)(h2:PGs X es u)(hs:(tu (e::es) X.env).map (·.2)=BF e X.env::(tu es X.env).map (·.2):=by rfl):PGs X (e::es) (bE t u):=by
 intro pins s σ H vs us Q I r h;obtain⟨v,vr,e1,h⟩:=h;subst e1;cases r with
 |cons r rr=>
  rw[hs];refine v7 (thn (h1 pins s σ H _ _ _ I r h) λ_ s1 ⟨σ1,H1,I1,q1⟩=>?_);exact h2 pins s1 σ1 H1 _ _ Q I1 rr q1
def jG (K:aa)(n:Nat)(t:TGs):TG:=λv σ H Q=>∃a xs,v=.ref a/\SqT K H a xs/\xs.length=n/\t xs σ H Q
def aNg {pos:Pos}{es:List ut}{k:Nat}{t:TGs}{n:Nat}(hc:X.calm=true)(h:PGs X es t)(hn:(tu es X.env).length=n:=by rfl)(hst:(tu es X.env).findIdx? (·.1)=none:=by rfl):PG X (.Tuple es k pos) (jG X.K n t):=by
 intro pins s σ H v u Q I r hw;obtain⟨a,xs,e1,hq,hl,hw⟩:=hw;subst e1;cases r;obtain⟨its,rv,ht,hz⟩:=I.tuple hq;refine assign_Tuple_tuple (I.ok.hd hc) ht (by simp[hn,<- hl,rv.length]) hst λh' hx=>?_;have I1:Inv X pins σ H {s with heap:=h'}:=I.kept (t':=s.toks) λb o e=>hx b o (di (bx e)) e;exact h pins _ σ H xs _ Q I1 (by simpa using rv) hw
def nE (to ti:TE)(t:aRo):TG:=λv σ H Q=>to σ H λo H1=>ti σ H1 λi H2=>t o i v H2 λH3=>Q σ H3
def aJA (ho:PE X o to)(hi:PE X i ti)(hs:aRp X t)(ha:∀v,BF (.Subscript o i pos) X.env v=(do
   let ov <- AX [v] (eval o X.env)
   let iv <- AX [v,ov] (eval i X.env)
   BX pos
   AX [v,ov,iv] (setItem ov iv v)
   release [v,ov,iv] []):=by intro _;rfl):PG X (.Subscript o i pos) (nE to ti t):=by
 intro pins s σ H v u Q I r h;rw[ha];refine ae (f9 (thn (ho pins s σ H _ I h) λov s1 ⟨x,H1,I1,r1,q1⟩=>?_));refine ae (f9 (thn (hi pins s1 σ H1 _ I1 q1) λiv s2 ⟨y,H2,I2,r2,q2⟩=>?_));refine ae (rj (ae (f9 (thn (hs pins s2 σ H2 x y v ov iv u _ I2 r1 r2 r q2) λ_ s3 ⟨H3,I3,q3⟩=>?_))));exact wpAny_release ⟨σ,H3,I3,q3⟩
def aP (te:TE)(g:TG):TS:=λD σ H=>te σ H λx H1=>g x σ H1 D.nx
def aJL {pos:Pos}{tg e:ut}{te:TE}{g:TG}(he:PE X e te)(hg:PG X tg g)(hs:swapsWithSole [tg] e pos.line X.env=pure false:=by rfl)(hw:swappedStores [tg] e X.env=pure none:=by rfl)(h1:(tu [tg] X.env).map (·.2)=[BF tg X.env]:=by rfl):PS X (.Assign [tg] e pos) (aP te g):=by
 intro pins s σ H D I h;refine wpAny_Assign_stores (thn (he pins s σ H _ I h) λv s1 ⟨x,H1,I1,r1,q1⟩=>?_) hs hw;rw[h1];exact thn (hg pins s1 σ H1 x v _ I1 r1 q1) λ_ s2 q=>q
def iO {pos:Pos}{i:Nat}{x:u8}{e:ut}{te:TE}{pos':Pos}(hN:X.N.Nodup)(hi:X.N[i]?=some x)(hx:Loc X.env.scope x)(he:PE X e te)(hs:BY e (some (.Name x pos')) pos.line X.env=pure false:=by rfl)(hf:X.fn x=true\/X.env.scope.names.lookup x=some .local:=by first|exact .inl rfl|exact .inr rfl|assumption):
  PS X (.Assign [.Name x pos'] e pos) (aP te (aE i)):=by
 intro pins s σ H D I h;refine wpAny_Assign_Name (thn (he pins s σ H _ I h) λv s1 ⟨y,H1,I1,r1,q1⟩=>?_) hs;exact rM I1 hN hi hx r1 (λs2 I2=>⟨_,H1,I2,q1⟩) hf
def aOQ (i j:Nat)(ta:TA):TS:=λD σ H=>ta σ H λvs H1=>∃v w,vs=[v,w]/\D.nx ((σ.set i (some v)).set j (some w)) H1
def aOf (hc:X.calm=true)(hN:X.N.Nodup)(hi:X.N[i]?=some x)(hj:X.N[j]?=some y)(hij:i≠j)(hx:X.env.scope.names.lookup x=some .local)(hy:X.env.scope.names.lookup y=some .local)(ha:PA X [a,b] ta)(hw:swappedStores [.Tuple [.Name x px,.Name y py] kt pt] (.Tuple [a,b] k2 pt2) X.env=pure (some [x,y]))(hs:swapsWithSole [.Tuple [.Name x px,.Name y py] kt pt] (.Tuple [a,b] k2 pt2) pos.line X.env=pure false:=by rfl):
  PS X (.Assign [.Tuple [.Name x px,.Name y py] kt pt] (.Tuple [a,b] k2 pt2) pos) (aOQ i j ta):=by
 intro pins s σ H D I h;rw[exec_Assign_arm];refine ae (rj ?_);rw[hs];refine ae (ao ?_);rw[C4 (by decide)];refine ae (Tuple_ (thn (ha _ pins s σ H _ I h) λus s1 ⟨vs,H1,I1,r1,q1⟩=>?_));obtain⟨v,w,e1,q1⟩:=q1;subst e1;obtain⟨u1,u2,rfl,rv,rw'⟩:∃u1 u2,us=[u1,u2]/\RelV v u1/\RelV w u2:=by
  cases r1 with
  |cons p q=>
   cases q with
   |cons p' q'=>
    cases q';exact⟨_,_,rfl,p,p'⟩
 refine dz ?_ (by show 2<=cm;decide);have I2:Inv X pins σ H1 {s1 with heap:=s1.heap.push {cls:=.type "tuple",data:=.seq [u1,u2].toArray}}:=I1.kept (t':=s1.toks) λb o e=>aj _ e;rw[hw];refine ae (ao ?_);show v4 (v6 X.prog X.w) X.A (do rule "assign.swapped-stores";let items <- unpackItems (.ref s1.heap.objs.size) 2 none;Be [λv=>bindName X.env y v,λv=>bindName X.env x v] items.reverse;pure Flow.next) _ _ _;refine ae (tv (ae (unpackItems_tuple (items:=#[u1,u2]) (I.ok.hd hc) (IsTup.new s1.heap _) λh' hx'=>?_)));have I3:=I2.kept (h':=h') (t':=s1.toks) λb o e=>hx' b o (di (bx e)) e;show v4 _ _ (Be [λv=>bindName X.env y v,λv=>bindName X.env x v] [u2,u1] >>= λ_=>pure Flow.next) _ _ _;refine ae (v7 (wpAny_bindName (rM I3 hN hj (.inl hy) rw' (λs2 I4=>?_) (.inr hy))));refine v7 (wpAny_bindName (rM I4 hN hi (.inl hx) rv (λs3 I5=>assignInOrder_nil (ao ?_)) (.inr hx)));rw[List.set_comm _ _ (gf hij)] at I5;exact⟨_,H1,I5,q1⟩
def wW (c:TT)(tb:TS):TS:=λD σ H=>∃W:Nat->St->Hp->Prop,(∃m,W m σ H)/\∀m σ H,W m σ H ->
 c σ H λb H1=>if b=true then ∃N:St->Hp->Prop,(∀σ' H',N σ' H'->∃m',m'<m/\W m' σ' H')/\tb {D with nx:=N,ct:=N,bk:=D.nx} σ H1 else D.nx σ H1
def aJm (hp:PassesOwn (v6 X.prog X.w) X.A X.env X.xe)(hc:PT X c tc)(hb:PSs X body tb):PS X (.While c body [] pos) (wW tc tb):=by
 intro pins s σ H D I h;obtain⟨W,⟨m0,w0⟩,turn⟩:=h;refine wpAny_While (codeAny_whileLoop (λn s'=>∃σ' H',Inv X pins σ' H' s'/\W n σ' H') ?_ m0 ⟨σ,H,I,w0⟩);rintro n s1 ⟨σ1,H1,I1,w1⟩;refine m3 hp (thn (hc pins s1 σ1 H1 _ I1 (turn n σ1 H1 w1)) λb s2 ⟨H2,I2,q2⟩=>?_);cases b with
 |true=>
  obtain⟨N,hN,q2⟩:=q2;rw[C5 rfl];refine m3 hp (thn (hb pins s2 σ1 H2 _ I2 q2) λf s3 q3=>?_);cases f with
  |next=>
   obtain⟨σ3,H3,I3,n3⟩:=q3;obtain⟨m',hm,w3⟩:=hN σ3 H3 n3;exact⟨m',hm,σ3,H3,I3,w3⟩
  |cont=>
   obtain⟨σ3,H3,I3,n3⟩:=q3;obtain⟨m',hm,w3⟩:=hN σ3 H3 n3;exact⟨m',hm,σ3,H3,I3,w3⟩
  |brk=>exact q3
  |ret v=>exact q3
 |false=>
  rw[C4 cy];exact Ad ⟨σ1,H2,I2,q2⟩
structure It where
 go:Nat->Hp->Prop
 yld:Nat->Hp->V->Hp->Prop
 stop:Nat->Hp->Prop
def aBI (X:Cx)(pins:List (ww×Obj))(H:Hp)(b:ww):Prop:=
 H b=none/\b≠X.env.locals/\b∉X.fs/\(b∈X.ex\/X.s₀.heap.objs.size<=b)/\(∀x c,X.env.cells.lookup x=some c->c≠b)/\∀p∈X.pn++pins,p.1≠b
def Inv.fpOk {pins:List (ww×Obj)}{σ:St}{H H':Hp}{s:wv}{b:ww}(I:Inv X pins σ H s)(hb:s.heap.objs.size<=b)(hn:H' b=none):aBI X pins H' b:=by
 refine⟨hn,jo (av I.lt hb),I.nofs hb,.inr (bo I.sz hb),λx c e z=>?_,λp hp z=>?_⟩
 ·obtain⟨v,q⟩:=I.cell x c e;exact absurd (av q.lt (by rw[z];exact hb)) (kn _)
 ·exact absurd (av (bx (I.pin p hp).1) (by rw[z];exact hb)) (kn _)
structure aJB (P:zn)(w:xj)(K:aa)(tg:ut)(J:It)(fp:List ww)(it:ww)(tn:Nat->jp->Prop):Prop where
 mem:it∈fp
 obj:∀i h,tn i h->∀b∈fp,∃o,h.get? b=some o/\∀v,o.data≠.cell v
 keep:∀i h h',tn i h->(∀b∈fp,∀o,h.get? b=some o->h'.get? b=some o)->tn i h'
 item:∀(X:Cx),X.prog=P->X.w=w->X.K=K->X.calm=true->∀(i:Nat) (pins:List (ww×Obj)) (s:wv) (σ:St) (H:Hp) (E:wn->wv->Prop),Inv X pins σ H s->(∀b∈fp,aBI X pins H b)->tn i s.heap->J.go i H ->
  v4 (v6 P w) X.A (qf (.ref it)) (λr s1=>∃u,r=some u /\
   v4 (v6 P w) X.A (vd tg (.ref it) u) (λ_ s2=>∃x H',Inv X pins σ H' s2/\RelV x u/\J.yld i H x H'/\tn (i+1) s2.heap/\∀b∈fp,H' b=none) E s1) E s
 done:∀(X:Cx),X.prog=P->X.w=w->X.K=K->X.calm=true->∀(i:Nat) (pins:List (ww×Obj)) (s:wv) (σ:St) (H:Hp) (E:wn->wv->Prop),Inv X pins σ H s->(∀b∈fp,aBI X pins H b)->tn i s.heap->J.stop i H ->
  v4 (v6 P w) X.A (qf (.ref it)) (λr s1=>r=none/\Inv X pins σ H s1) E s
 self:∀(A:xz) (i:Nat) (s:wv) (Q:wn->wv->Prop) (E:wn->wv->Prop),tn i s.heap->Q (.ref it) s->v4 (v6 P w) A (AQ (.ref it)) Q E s
abbrev TI:=St->Hp->(It->Hp->Prop)->Prop
def PIE (X:Cx)(pins:List (ww×Obj))(σ:St)(tg:ut)(R:It->Hp->Prop)(itv:wn)(s2:wv):Prop:=
 ∃(it:ww) (fp:List ww) (tn:Nat->jp->Prop) (J:It) (H':Hp),itv=.ref it/\Inv X pins σ H' s2/\aJB X.prog X.w X.K tg J fp it tn/\tn 0 s2.heap/\(∀b∈fp,aBI X pins H' b)/\R J H'
def PI (X:Cx)(tg iter:ut)(wi:TI):Prop:=
 ∀(pins:List (ww×Obj)) (s:wv) (σ:St) (H:Hp) (R:It->Hp->Prop),Inv X pins σ H s->wi σ H R ->
  v4 (v6 X.prog X.w) X.A (eval iter X.env) (λv s1=>v4 (v6 X.prog X.w) X.A (AQ v) (PIE X pins σ tg R) X.xe s1) X.xe s
def aKx (ho:s.heap.get? it=some o)(hc:o.cls=.type n)(hd:o.data=.fields vs)(hn : ["enumerate", "zip", "dict_itemiterator", "dict_reverseitemiterator", "odict_iterator", "itertools.zip_longest", "itertools.pairwise"].contains n=false)(hQ:Q () s):v4 M A (vd tg (.ref it) u) Q E s:=by
  unfold vd;cases tg<;>first
    |exact ao hQ
    | (cases u <;> first
        |exact ao hQ
        | (refine ae (xk ho ?_)
           rw[hc,hd];show v4 M A (if(["enumerate", "zip", "dict_itemiterator", "dict_reverseitemiterator", "odict_iterator", "itertools.zip_longest", "itertools.pairwise"].contains n&&vs[0]?==some (jw _))=true then _ else _) Q E s;rw[C4 (by intro h;rw[hn,uf] at h;cases h)];exact ao hQ))
def Itl (K:aa)(a:ww):It:=
 ⟨λi H=>∃xs x,SqL K H a xs/\xs[i]?=some x,λi H x H'=>H'=H/\∀xs,SqL K H a xs->xs[i]?=some x,λi H=>∃xs,SqL K H a xs/\xs.length<=i⟩
def Itt (K:aa)(a:ww):It:=
 ⟨λi H=>∃xs x,SqT K H a xs/\xs[i]?=some x,λi H x H'=>H'=H/\∀xs,SqT K H a xs->xs[i]?=some x,λi H=>∃xs,SqT K H a xs/\xs.length<=i⟩
def Itr (lo:Int)(n:Nat):It:=⟨λi _=>i<n,λi H x H'=>H'=H/\x=.int (lo+i),λi _=>n<=i⟩
def aGR {K:aa}{tg:ut}(a it:ww):aJB P w K tg (Itl K a) [it] it (λi h=>h.IsListIter it a i) where
 mem:=by simp
 obj:=λi h st b hb=>by
  have e:b=it:=by simpa using hb
  subst e;obtain⟨o,e,c,d⟩:=st;exact⟨o,e,λv z=>by rw[d] at z;cases z⟩
 keep:=λi h h' st k=>st.at λo e=>k it (by simp) o e
 item:=by
  intro X hP hw hK hc i pins s σ H E I hf st hg;subst hP hw hK;obtain⟨xs,x,hq,hx⟩:=hg;obtain⟨its,rv,p,hz⟩:=I.list hq;obtain⟨u,hu,ru⟩:=rv.get hx;obtain⟨f0,f1,f2,f3,f4,f5⟩:=hf it (by simp);refine wpAny_pyNext_list_item st p.isList (x:=u) (by simpa using hu) λh' st' sb=>?_;have I1:Inv X pins σ H {s with heap:=h'}:=I.turned (t':=s.toks) (λb o hb e=>(sb.2 b hb).trans e) f0 f1 f3 f4 f5;obtain⟨o,e,c,d⟩:=id st';exact⟨u,rfl,aKx (s:={s with heap:=h'}) e c d (by decide) ⟨x,H,I1,ru,⟨rfl,λys hy=>by rw[I.list_inj hy hq];exact hx⟩,st',λb hb=>(hf b hb).1⟩⟩
 done:=by
  intro X hP hw hK hc i pins s σ H E I hf st hg;subst hP hw hK;obtain⟨xs,hq,hx⟩:=hg;obtain⟨its,rv,p,hz⟩:=I.list hq;obtain⟨f0,f1,f2,f3,f4,f5⟩:=hf it (by simp);have hl:=rv.length;exact wpAny_pyNext_list_end (I.ok.hd hc) st p.isList (by simp;lia) λh' eb=>⟨rfl,I.turned (t':=s.toks) (λb o hb e=>eb b o hb e) f0 f1 f3 f4 f5⟩
 self:=λ_ _ _ _ _ st h=>wpAny_pyIter_listiter st h
def aEI {K:aa}{tg:ut}(a it:ww):aJB P w K tg (Itt K a) [it] it (λi h=>h.IsTupleIter it a i) where
 mem:=by simp
 obj:=λi h st b hb=>by
  have e:b=it:=by simpa using hb
  subst e;obtain⟨o,e,c,d⟩:=st;exact⟨o,e,λv z=>by rw[d] at z;cases z⟩
 keep:=λi h h' st k=>st.at λo e=>k it (by simp) o e
 item:=by
  intro X hP hw hK hc i pins s σ H E I hf st hg;subst hP hw hK;obtain⟨xs,x,hq,hx⟩:=hg;obtain⟨its,rv,p,hz⟩:=I.tuple hq;obtain⟨u,hu,ru⟩:=rv.get hx;obtain⟨f0,f1,f2,f3,f4,f5⟩:=hf it (by simp);refine yi st (show s.heap.IsTuple a its.toArray from p) (x:=u) (by simpa using hu) λh' st' sb=>?_;have I1:Inv X pins σ H {s with heap:=h'}:=I.turned (t':=s.toks) (λb o hb e=>(sb.2 b hb).trans e) f0 f1 f3 f4 f5;obtain⟨o,e,c,d⟩:=id st';exact⟨u,rfl,aKx (s:={s with heap:=h'}) e c d (by decide) ⟨x,H,I1,ru,⟨rfl,λys hy=>by rw[I.tuple_inj hy hq];exact hx⟩,st',λb hb=>(hf b hb).1⟩⟩
 done:=by
  intro X hP hw hK hc i pins s σ H E I hf st hg;subst hP hw hK;obtain⟨xs,hq,hx⟩:=hg;obtain⟨its,rv,p,hz⟩:=I.tuple hq;obtain⟨f0,f1,f2,f3,f4,f5⟩:=hf it (by simp);have hl:=rv.length;exact zm (I.ok.hd hc) st (show s.heap.IsTuple a its.toArray from p) (by simp;lia) λh' eb=>⟨rfl,I.turned (t':=s.toks) (λb o hb e=>eb b o hb e) f0 f1 f3 f4 f5⟩
 self:=λ_ _ _ _ _ st h=>zp st h
def aEm {K:aa}{tg:ut}(it:ww)(lo:Int)(n:Nat):aJB P w K tg (Itr lo n) [it] it (λi h=>IsRangeIter h it (lo+(i:Nat)*1) ((n:Int)-(i:Nat)) 1) where
 mem:=by simp
 obj:=λi h st b hb=>by
  have e:b=it:=by simpa using hb
  subst e;exact⟨_,st,λv z=>by
   have z':Data.fields _=Data.cell v:=z;cases z'⟩
 keep:=λi h h' st k=>k it (by simp) _ st
 item:=by
  intro X hP hw hK hc i pins s σ H E I hf st hg;subst hP hw hK;obtain⟨f0,f1,f2,f3,f4,f5⟩:=hf it (by simp);have W:=Walks.range (prog:=X.prog) (w:=X.w) (I.ok.hd hc) it lo 1 n;refine W.item i s _ _ hg st λv h' tk hv st' kk=>?_;obtain⟨t,rfl⟩:=hv;have I1:Inv X pins σ H {s with heap:=h',toks:=tk}:=I.turned (λb o hb e=>kk b o (by simpa using hb) e) f0 f1 f3 f4 f5;refine⟨_,rfl,aKx (s:={s with heap:=h',toks:=tk}) (n:="range_iterator") st' rfl rfl (by decide) ⟨.int (lo+i),H,I1,⟨t,?_⟩,⟨rfl,rfl⟩,st',λb hb=>(hf b hb).1⟩⟩;rw[oo]
 done:=by
  intro X hP hw hK hc i pins s σ H E I hf st hg;subst hP hw hK;obtain⟨f0,f1,f2,f3,f4,f5⟩:=hf it (by simp);exact wpAny_pyNext_range_end (I.ok.hd hc) st (by have:n<=i:=hg;lia) λh' eb=>⟨rfl,I.turned (t':=s.toks) (λb o hb e=>eb b o hb e) f0 f1 f3 f4 f5⟩
 self:=λ_ _ _ _ _ st h=>wpAny_pyIter_rangeiter st h
def aDi {tg:ut}{pins:List (ww×Obj)}{σ:St}{H:Hp}{s:wv}{R:It->Hp->Prop}{lo hi:Int}{t u v:Tok}{tk:Nat}(I:Inv X pins σ H s)(h1:-(2^62)<=lo)(h2:lo<2^62)(h3:-(2^62)<=hi)(h4:hi<2^62)(q:R (Itr lo (hi-lo).toNat) H):v4 (v6 X.prog X.w) X.A (AQ (.ref s.heap.objs.size)) (PIE X pins σ tg R) E {s with heap:=s.heap.push {cls:=.type "range",data:=.fields #[.int lo t,.int hi u,.int 1 v]},toks:=tk}:=by
 refine wpAny_pyIter_range (IsRange.new ..) (small_one h1 h2 h3 h4) ?_;have I1:Inv X pins σ H {s with heap:=s.heap.push {cls:=.type "range",data:=.fields #[.int lo t,.int hi u,.int 1 v]},toks:=tk}:=I.kept λb o e=>aj _ e;refine⟨(s.heap.push {cls:=.type "range",data:=.fields #[.int lo t,.int hi u,.int 1 v]}).objs.size,[(s.heap.push {cls:=.type "range",data:=.fields #[.int lo t,.int hi u,.int 1 v]}).objs.size],_,_,H,rfl,
  I1.kept (t':=tk) λb o e=>aj _ e,aEm _ lo (hi-lo).toNat,?_,λb hb=>?_,q⟩
 ·have e1:lo+((0:Nat):Int)*1=lo:=by simp
  have e2:(((hi-lo).toNat:Nat):Int)-((0:Nat):Int)=rk lo hi 1:=by rw[Bf];split<;>lia
  show IsRangeIter _ _ (lo+((0:Nat):Int)*1) ((((hi-lo).toNat:Nat):Int)-((0:Nat):Int)) 1;rw[e1,e2];exact bg _ rfl
 ·have e:b=(s.heap.push {cls:=.type "range",data:=.fields #[.int lo t,.int hi u,.int 1 v]}).objs.size:=by simpa using hb
  subst e;exact I1.fpOk (ar _) (I1.hok.fresh (ar _))
def gJ (ta:TA):TI:=λσ H R=>ta σ H λvs H1=>∃j:Int,vs=[.int j]/\-(2^62)<=j/\j<2^62/\R (Itr 0 j.toNat) H1
def aIr (ta:TA):TI:=λσ H R=>ta σ H λvs H1=>∃i j:Int,vs=[.int i,.int j]/\(-(2^62)<=i/\i<2^62/\-(2^62)<=j/\j<2^62)/\R (Itr i (j-i).toNat) H1
def iS (hg:Gl X "range")(hm:X.mg "range"=none)(ha:PA X [a] ta)(hs:fv [a] X.env=[(false,eval a X.env)]:=by rfl):PI X tg (.Call (.Name "range" p) [a] [] pos) (gJ ta):=by
 intro pins s σ H R I h;refine Call_ (tM I hg hm boot_range (jx (thn (ha pos pins s σ H _ I h) λus s1 ⟨vs,H1,I1,r1,q1⟩=>?_) hs rfl));obtain⟨j,e,q1,q2,q⟩:=q1;subst e;cases r1 with
 |cons r rr=>
  cases rr;obtain⟨t,rfl⟩:=r;exact call_range_1 (aDi I1 (by lia) (by lia) q1 q2 (by simpa using q))
def aGO {tg:ut}{a b:ut}{ta:TA}{p pos:Pos}(hg:Gl X "range")(hm:X.mg "range"=none)(ha:PA X [a,b] ta)(hs:fv [a,b] X.env=[(false,eval a X.env),(false,eval b X.env)]:=by rfl)(hs2:fv [b] X.env=[(false,eval b X.env)]:=by rfl):
  PI X tg (.Call (.Name "range" p) [a,b] [] pos) (aIr ta):=by
 intro pins s σ H R I h;refine Call_ (tM I hg hm boot_range (jx (thn (ha pos pins s σ H _ I h) λus s1 ⟨vs,H1,I1,r1,q1⟩=>?_) (by rw[hs,hs2]) (by rw[hs2];rfl)));obtain⟨i,j,e,⟨q1,q2,q3,q4⟩,q⟩:=q1;subst e;cases r1 with
 |cons r rr=>
  cases rr with
  |cons r' rr=>
   cases rr;obtain⟨t,rfl⟩:=r;obtain⟨t',rfl⟩:=r';exact call_range_2 (aDi I1 q1 q2 q3 q4 q)
def iJ (wi:TI)(g:TG)(tb:TS):TS:=λD σ H=>wi σ H λJ H1=>∃W:Nat->Nat->St->Hp->Prop,(∃m,W 0 m σ H1)/\∀i m σ H,W i m σ H ->
 (J.stop i H/\D.nx σ H)\/(J.go i H/\∃N:St->Hp->Prop,(∀σ' H',N σ' H'->∃m',m'<m/\W (i+1) m' σ' H')/\∀x H',J.yld i H x H'->g x σ H' λσ2 H2=>tb {D with nx:=N,ct:=N,bk:=D.nx} σ2 H2)
def aBv (fp:List ww)(h:jp):List (ww×Obj):=fp.filterMap λb=>(h.get? b).map λo=>(b,o)
def jM (hb:b∈fp)(e:h.get? b=some o):(b,o)∈aBv fp h:=rq.mpr ⟨b,hb,by rw[e];rfl⟩
def aFK (hp:p∈aBv fp h):p.1∈fp/\h.get? p.1=some p.2:=by
 obtain⟨b,hb,e⟩:=rq.mp hp;cases q:h.get? b with
 |none=>rw[q] at e;cases e
 |some o=>
  rw[q] at e;have e':(b,o)=p:=cf e;subst e';exact⟨hb,q⟩
def Inv.pinned {pins:List (ww×Obj)}{σ:St}{H:Hp}{s:wv}{fp:List ww}(I:Inv X pins σ H s)(hf:∀b∈fp,aBI X pins H b)(ho:∀b∈fp,∃o,s.heap.get? b=some o/\∀v,o.data≠.cell v):Inv X (pins++aBv fp s.heap) σ H s:=
 I.pins_of λp hp=>(cg.mp hp).elim (λz=>I.pin p (du _ z)) λz=>by
  obtain⟨hb,e⟩:=aFK z;obtain⟨f0,f1,f2,_⟩:=hf p.1 hb;obtain⟨o,e',d⟩:=ho p.1 hb;rw[e] at e';cases e';exact⟨e,f0,f1,f2,d⟩
def Inv.unpinned {pins pl:List (ww×Obj)}{σ:St}{H:Hp}{s:wv}(I:Inv X (pins++pl) σ H s):Inv X pins σ H s:=I.pins_of λp hp=>I.pin p (du _ (j3 _ hp))
def aDA {X:Cx}{tg:ut}{iter:ut}{body:List Stmt}{wi:TI}{g:TG}{tb:TS}{pos:Pos}(hp:PassesOwn (v6 X.prog X.w) X.A X.env X.xe)(hc:X.calm=true)(hi:PI X tg iter wi)(hg:PG X tg g)(hb:PSs X body tb)(hs:∀x,k9 iter X.env x=pure x:=by intro _;rfl):PS X (.For tg iter body [] pos) (iJ wi g tb):=by
 intro pins s σ H D I h;refine wpAny_For (thn (hi pins s σ H _ I h) λv s1 h1=>thn h1 λitv s2 h2=>?_) hs;obtain⟨it,fp,tn,J,H2,e,I2,T,st2,f2,W,⟨m0,w0⟩,turn⟩:=h2;subst e;have stat:∀{H':Hp},(∀b∈fp,H' b=none)->∀b∈fp,aBI X pins H' b:=λhn b hb=>⟨hn b hb,(f2 b hb).2⟩;refine codeAny_forLoop_any (λn s'=>∃i σ' H',Inv X pins σ' H' s'/\tn i s'.heap/\(∀b∈fp,H' b=none)/\W i n σ' H') ?_ m0 ⟨0,σ,H2,I2,st2,λb hb=>(f2 b hb).1,w0⟩;rintro n s3 ⟨i,σ3,H3,I3,st3,fr3,w3⟩;rcases turn i n σ3 H3 w3 with⟨stop,qn⟩|⟨go,N,hN,step⟩
 ·refine m3 hp (thn (T.done X rfl rfl rfl hc i pins s3 σ3 H3 X.xe I3 (stat fr3) st3 stop) λr s4 ⟨hr,I4⟩=>?_);subst hr;exact Ad ⟨σ3,H3,I4,qn⟩
 ·refine m3 hp (thn (T.item X rfl rfl rfl hc i pins s3 σ3 H3 X.xe I3 (stat fr3) st3 go) λr s4 ⟨u,hr,h4⟩=>?_);subst hr;refine m3 hp (thn h4 λ_ s5 ⟨x,H5,I5,r5,y5,st5,fr5⟩=>?_);have I5':=I5.pinned (stat fr5) (T.obj _ _ st5);refine m3 hp (thn (hg _ s5 σ3 H5 x u _ I5' r5 (step x H5 y5)) λ_ s6 ⟨σ6,H6,I6,q6⟩=>?_);refine m3 hp (thn (hb _ s6 σ6 H6 _ I6 q6) λf s7 q7=>?_);have again:∀{σ7:St}{H7:Hp},Inv X (pins++aBv fp s5.heap) σ7 H7 s7->N σ7 H7->∃m,m<n/\∃i σ' H',Inv X pins σ' H' s7/\tn i s7.heap/\(∀b∈fp,H' b=none)/\W i m σ' H':=λ{σ7 H7} I7 n7=>by
   obtain⟨m',hm,w7⟩:=hN σ7 H7 n7;refine⟨m',hm,i+1,σ7,H7,I7.unpinned,T.keep _ _ _ st5 λb hb o e=>(I7.pin (b,o) (du _ (du _ (jM hb e)))).1,λb hb=>?_,w7⟩;obtain⟨o,e,d⟩:=T.obj _ _ st5 b hb;exact(I7.pin (b,o) (du _ (du _ (jM hb e)))).2.1
  cases f with
  |next=>obtain⟨σ7,H7,I7,n7⟩:=q7;exact again I7 n7
  |cont=>obtain⟨σ7,H7,I7,n7⟩:=q7;exact again I7 n7
  |brk=>obtain⟨σ7,H7,I7,q7⟩:=q7;exact⟨σ7,H7,I7.unpinned,q7⟩
  |ret v=>obtain⟨x7,σ7,H7,I7,r7,q7⟩:=q7;exact⟨x7,σ7,H7,I7.unpinned,r7,q7⟩
def aX {K:aa}{a:ww}{xs:List V}{g:TG}{tb:TS}{D:xX}{σ:St}{H:Hp}(Pv:Nat->St->Hp->Prop)(h0:Pv 0 σ H)(hl:∀i σ H,i<=xs.length->Pv i σ H->SqL K H a xs)(hs:∀i x σ H,xs[i]?=some x->Pv i σ H->g x σ H λσ2 H2=>tb {D with nx:=Pv (i+1),ct:=Pv (i+1),bk:=D.nx} σ2 H2)(hd:∀σ H,Pv xs.length σ H->D.nx σ H):
  ∃W:Nat->Nat->St->Hp->Prop,(∃m,W 0 m σ H)/\∀i m σ H,W i m σ H ->
   ((Itl K a).stop i H/\D.nx σ H)\/((Itl K a).go i H/\∃N:St->Hp->Prop,(∀σ' H',N σ' H'->∃m',m'<m/\W (i+1) m' σ' H')/\∀x H',(Itl K a).yld i H x H'->g x σ H' λσ2 H2=>tb {D with nx:=N,ct:=N,bk:=D.nx} σ2 H2):=by
 refine⟨λi m σ H=>m=xs.length-i/\i<=xs.length/\Pv i σ H,⟨xs.length,by simp,bh _,h0⟩,?_⟩;rintro i m σ H ⟨rfl,hi,p⟩;have q:=hl i σ H hi p;by_cases hlt:i<xs.length
 ·refine .inr ⟨⟨xs,xs[i],q,by simp[hlt]⟩,Pv (i+1),λσ' H' p'=>⟨xs.length-(i+1),by lia,rfl,hlt,p'⟩,λx H' y=>?_⟩;obtain⟨e,y⟩:=y;subst e;exact hs i x σ _ (y xs q) p
 ·have e:i=xs.length:=by lia
  subst e;exact .inl ⟨⟨xs,q,ar _⟩,hd σ H p⟩
def yX {K:aa}{a:ww}{xs:List V}{g:TG}{tb:TS}{D:xX}{σ:St}{H:Hp}(Pv:Nat->St->Hp->Prop)(h0:Pv 0 σ H)(hl:∀i σ H,i<=xs.length->Pv i σ H->SqT K H a xs)(hs:∀i x σ H,xs[i]?=some x->Pv i σ H->g x σ H λσ2 H2=>tb {D with nx:=Pv (i+1),ct:=Pv (i+1),bk:=D.nx} σ2 H2)(hd:∀σ H,Pv xs.length σ H->D.nx σ H):
  ∃W:Nat->Nat->St->Hp->Prop,(∃m,W 0 m σ H)/\∀i m σ H,W i m σ H ->
   ((Itt K a).stop i H/\D.nx σ H)\/((Itt K a).go i H/\∃N:St->Hp->Prop,(∀σ' H',N σ' H'->∃m',m'<m/\W (i+1) m' σ' H')/\∀x H',(Itt K a).yld i H x H'->g x σ H' λσ2 H2=>tb {D with nx:=N,ct:=N,bk:=D.nx} σ2 H2):=by
 refine⟨λi m σ H=>m=xs.length-i/\i<=xs.length/\Pv i σ H,⟨xs.length,by simp,bh _,h0⟩,?_⟩;rintro i m σ H ⟨rfl,hi,p⟩;have q:=hl i σ H hi p;by_cases hlt:i<xs.length
 ·refine .inr ⟨⟨xs,xs[i],q,by simp[hlt]⟩,Pv (i+1),λσ' H' p'=>⟨xs.length-(i+1),by lia,rfl,hlt,p'⟩,λx H' y=>?_⟩;obtain⟨e,y⟩:=y;subst e;exact hs i x σ _ (y xs q) p
 ·have e:i=xs.length:=by lia
  subst e;exact .inl ⟨⟨xs,q,ar _⟩,hd σ H p⟩
def bR {lo:Int}{n:Nat}{g:TG}{tb:TS}{D:xX}{σ:St}{H:Hp}(Pv:Nat->St->Hp->Prop)(h0:Pv 0 σ H)(hs:∀i σ H,i<n->Pv i σ H->g (.int (lo+i)) σ H λσ2 H2=>tb {D with nx:=Pv (i+1),ct:=Pv (i+1),bk:=D.nx} σ2 H2)(hd:∀σ H,Pv n σ H->D.nx σ H):
  ∃W:Nat->Nat->St->Hp->Prop,(∃m,W 0 m σ H)/\∀i m σ H,W i m σ H ->
   ((Itr lo n).stop i H/\D.nx σ H)\/((Itr lo n).go i H/\∃N:St->Hp->Prop,(∀σ' H',N σ' H'->∃m',m'<m/\W (i+1) m' σ' H')/\∀x H',(Itr lo n).yld i H x H'->g x σ H' λσ2 H2=>tb {D with nx:=N,ct:=N,bk:=D.nx} σ2 H2):=by
 refine⟨λi m σ H=>m=n-i/\i<=n/\Pv i σ H,⟨n,by simp,bh _,h0⟩,?_⟩;rintro i m σ H ⟨rfl,hi,p⟩;by_cases hlt:i<n
 ·refine .inr ⟨hlt,Pv (i+1),λσ' H' p'=>⟨n-(i+1),by lia,rfl,hlt,p'⟩,λx H' y=>?_⟩;obtain⟨e,y⟩:=y;subst e y;exact hs i σ _ hlt p
 ·have e:i=n:=by lia
  subst e;exact .inl ⟨ar _,hd σ H p⟩
abbrev R2:=V->V->Hp->VK->Prop
def OpR (X:Cx)(f:wn->wn->Sem wn)(r:R2):Prop:=
 ∀(pins:List (ww×Obj)) (s:wv) (σ:St) (H:Hp) (x y:V) (v u:wn) (Q:VK),Inv X pins σ H s->RelV x v->RelV y u->r x y H Q ->
  v4 (v6 X.prog X.w) X.A (f v u) (EP X pins σ Q) X.xe s
def UnR (X:Cx)(f:wn->Sem wn)(r:V->Hp->VK->Prop):Prop:=
 ∀(pins:List (ww×Obj)) (s:wv) (σ:St) (H:Hp) (x:V) (v:wn) (Q:VK),Inv X pins σ H s->RelV x v->r x H Q ->
  v4 (v6 X.prog X.w) X.A (f v) (EP X pins σ Q) X.xe s
def CallR (X:Cx)(f:wn)(r:List V->Hp->VK->Prop):Prop:=
 ∀(pins:List (ww×Obj)) (s:wv) (σ:St) (H:Hp) (xs:List V) (us:List wn) (Q:VK),Inv X pins σ H s->Vals xs us->r xs H Q ->
  v4 (v6 X.prog X.w) X.A (call f us) (EP X pins σ Q) X.xe s
def tOp (r:R2)(ta tb:TE):TE:=λσ H Q=>ta σ H λx H1=>tb σ H1 λy H2=>r x y H2 Q
def tUn (r:V->Hp->VK->Prop)(ta:TE):TE:=λσ H Q=>ta σ H λx H1=>r x H1 Q
def rI (C:Int->Int->Prop)(g:Int->Int->V):R2:=λx y H Q=>∃i j,x=.int i/\y=.int j/\C i j/\Q (g i j) H
inductive aQQ (g:Int->Int->V) (x y:V) (H:Hp) (Q:VK):Prop
 |mk (i j:Int) (hx:x=.int i) (hy:y=.int j) (q:Q (g i j) H):aQQ g x y H Q
def rI0 (g:Int->Int->V):R2:=λx y H Q=>aQQ g x y H Q
def rU (g:Int->V):V->Hp->VK->Prop:=λx H Q=>∃i,x=.int i/\Q (g i) H
def aPZ {a b:ut}{ta tb:TE}(ha:PE X a ta)(hb:PE X b tb){pins:List (ww×Obj)}{s:wv}{σ:St}{H:Hp}{R:V->V->Hp->Prop}(I:Inv X pins σ H s)(h:ta σ H λx H1=>tb σ H1 λy H2=>R x y H2){f:wn->wn->Sem wn}(hf:∀v u s2 x y H2,Inv X pins σ H2 s2->RelV x v->RelV y u->R x y H2->v4 (v6 X.prog X.w) X.A (f v u) Q X.xe s2):
  v4 (v6 X.prog X.w) X.A (eval a X.env) (λv s₁=>v4 (v6 X.prog X.w) X.A (eval b X.env) (λu s₂=>v4 (v6 X.prog X.w) X.A (f v u) Q X.xe s₂) X.xe s₁) X.xe s:=by
 refine thn (ha pins s σ H _ I h) λv s1 ⟨x,H1,I1,r1,q1⟩=>?_;refine thn (hb pins s1 σ H1 _ I1 q1) λu s2 ⟨y,H2,I2,r2,q2⟩=>?_;exact hf v u s2 x y H2 I2 r1 r2 q2
def wJ (ho:OpR X (mh op) r)(ha:PE X a ta)(hb:PE X b tb):PE X (.BinOp a op b pos) (tOp r ta tb):=by
 intro pins s σ H Q I h;exact wpAny_BinOp (aPZ ha hb I h λv u s2 x y H2 I2 rx ry q=>ho pins s2 σ H2 x y v u Q I2 rx ry q)
def aLW (ho:UnR X (unaryOp op) r)(ha:PE X a ta):PE X (.UnaryOp op a pos) (tUn r ta):=by
 intro pins s σ H Q I h;exact UnaryOp_ (thn (ha pins s σ H _ I h) λv s1 ⟨x,H1,I1,r1,q1⟩=>ho pins s1 σ H1 x v Q I1 r1 q1)
def opI {f:wn->wn->Sem wn}{C:Int->Int->Prop}{g:Int->Int->Int}(rule:∀(i j:Int) (t u:Tok) (s:wv) (Q:wn->wv->Prop) (E:wn->wv->Prop),C i j->Q (.int (g i j) s.toks) {s with toks:=s.toks+1}->v4 (v6 X.prog X.w) X.A (f (.int i t) (.int j u)) Q E s):
  OpR X f (rI C λi j=>.int (g i j)):=by
 intro pins s σ H x y v u Q I rx ry h;obtain⟨i,j,rfl,rfl,hc,q⟩:=h;obtain⟨t,rfl⟩:=rx;obtain⟨t',rfl⟩:=ry;exact rule i j t t' s _ _ hc ⟨.int (g i j),H,I.tok _,⟨_,rfl⟩,q⟩
def aQZ {f:wn->wn->Sem wn}{g:Int->Int->Int}(rule:∀(i j:Int) (t u:Tok) (s:wv) (Q:wn->wv->Prop) (E:wn->wv->Prop),Q (.int (g i j) s.toks) {s with toks:=s.toks+1}->v4 (v6 X.prog X.w) X.A (f (.int i t) (.int j u)) Q E s):
  OpR X f (rI0 λi j=>.int (g i j)):=by
 intro pins s σ H x y v u Q I rx ry h;obtain⟨i,j,rfl,rfl,q⟩:=h;obtain⟨t,rfl⟩:=rx;obtain⟨t',rfl⟩:=ry;exact rule i j t t' s _ _ ⟨.int (g i j),H,I.tok _,⟨_,rfl⟩,q⟩
def aON {f:wn->wn->Sem wn}{g:Int->Int->Bool}(rule:∀(i j:Int) (t u:Tok) (s:wv) (Q:wn->wv->Prop) (E:wn->wv->Prop),Q (.bool (g i j)) s->v4 (v6 X.prog X.w) X.A (f (.int i t) (.int j u)) Q E s):
  OpR X f (rI0 λi j=>.bl (g i j)):=by
 intro pins s σ H x y v u Q I rx ry h;obtain⟨i,j,rfl,rfl,q⟩:=h;obtain⟨t,rfl⟩:=rx;obtain⟨t',rfl⟩:=ry;exact rule i j t t' s _ _ ⟨.bl (g i j),H,I,rfl,q⟩
def aRs (i j:Int):Prop:=0<=j/\j<=1000000/\i.natAbs<2^64
def CMul (i j:Int):Prop:=(-(2^64)<i/\i<2^64)\/(-(2^64)<j/\j<2^64)
def CMul.ok (h:CMul i j):IntMulOk i j:=by
 rcases h with⟨h1,h2⟩|⟨h1,h2⟩
 ·exact .of_left (intBits_le_64 h1 h2)
 ·exact .of_right (intBits_le_64 h1 h2)
def aMq:OpR X (mh .Add) (rI0 λi j=>.int (i+j)):=aQZ λ_ _ _ _ _ _ _ q=>add_int q
def aBC:OpR X (mh .Sub) (rI0 λi j=>.int (i-j)):=aQZ λ_ _ _ _ _ _ _ q=>sub_int q
def aJN:OpR X (mh .Mult) (rI CMul λi j=>.int (i*j)):=opI λ_ _ _ _ _ _ _ hc q=>mul_int q hc.ok
def aOC:OpR X (mh .Mod) (rI (λ_ j=>0<j) λi j=>.int (i % j)):=opI λi j _ _ _ _ _ hc q=>by
 have h1:(0:Int)<j:=hc;exact mod_int' (by lia) (by rw[Int.fmod_eq_emod_of_nonneg i (by lia)];exact q)
def aMT:OpR X (mh .Pow) (rI aRs λi j=>.int (i^j.toNat)):=opI λ_ _ _ _ _ _ _ hc q=>pow_int_small hc.1 hc.2.1 hc.2.2 q
def unI {f:wn->Sem wn}{g:Int->Int}(rule:∀(i:Int) (t:Tok) (s:wv) (Q:wn->wv->Prop) (E:wn->wv->Prop),Q (.int (g i) s.toks) {s with toks:=s.toks+1}->v4 (v6 X.prog X.w) X.A (f (.int i t)) Q E s):
  UnR X f (rU λi=>.int (g i)):=by
 intro pins s σ H x v Q I rx h;obtain⟨i,rfl,q⟩:=h;obtain⟨t,rfl⟩:=rx;exact rule i t s _ _ ⟨.int (g i),H,I.tok _,⟨_,rfl⟩,q⟩
def aGz:UnR X (unaryOp .USub) (rU λi=>.int (-i)):=unI λ_ _ _ _ _ q=>neg_int q
section
variable {X:Cx}{a b c:ut}{ta tb tc:TE}{pos:Pos}
def aDR {pins:List (ww×Obj)}{σ:St}{H:Hp}{s:wv}{k k':Bool}(I:Inv X pins σ H s)(q:Q (.bl k) H)(e:k=k'):EP X pins σ Q (.bool k') s:=by
 subst e;exact⟨.bl k,H,I,rfl,q⟩
def aPC:OpR X (iw .Lt) (rI0 λi j=>.bl (decide (i<j))):=aON λ_ _ _ _ _ _ _ q=>lt_int q
def aPb:OpR X (iw .LtE) (rI0 λi j=>.bl (decide (i<=j))):=aON λ_ _ _ _ _ _ _ q=>le_int q
def aMt:OpR X (iw .Gt) (rI0 λi j=>.bl (decide (j<i))):=aON λ_ _ _ _ _ _ _ q=>gt_int q
def aPa:OpR X (iw .GtE) (rI0 λi j=>.bl (decide (j<=i))):=aON λ_ _ _ _ _ _ _ q=>ge_int q
def aNX:OpR X (iw .Is) (λx y H Q=>y=.non/\Q (.bl (decide (x=.non))) H):=by
 intro pins s σ H x y v u Q I rx ry h;obtain⟨rfl,q⟩:=h;cases ry;refine is_none_gen (aDR I q ?_);cases x<;>first
  |(cases rx;rfl)
  |(obtain⟨t,rfl⟩:=rx;rfl)
def aKr:OpR X (iw .IsNot) (λx y H Q=>y=.non/\Q (.bl (!decide (x=.non))) H):=by
 intro pins s σ H x y v u Q I rx ry h;obtain⟨rfl,q⟩:=h;cases ry;refine isnot_none_gen (aDR I q ?_);cases x<;>first
  |(cases rx;rfl)
  |(obtain⟨t,rfl⟩:=rx;rfl)
def OpR.or (h:OpR X f r)(h':OpR X f r'):OpR X f (λx y H Q=>r x y H Q\/r' x y H Q):=by
 intro pins s σ H x y v u Q I rx ry q;rcases q with q|q
 ·exact h pins s σ H x y v u Q I rx ry q
 ·exact h' pins s σ H x y v u Q I rx ry q
def wV (b:ut)(h:op≠.In:=by decide)(h2:op≠.NotIn:=by decide):yj op b=false:=by
 have e1:(op==CmpOp.In)=false:=by cases op<;>first|rfl|exact absurd rfl h
 have e2:(op==CmpOp.NotIn)=false:=by cases op<;>first|rfl|exact absurd rfl h2
 cases b<;>simp[yj,e1,e2]
def aGx (ho:OpR X (iw op) r)(ha:PE X a ta)(hb:PE X b tb)(hm:yj op b=false):PE X (.Compare a [op] [b] pos) (tOp r ta tb):=by
 intro pins s σ H Q I h;exact wpAny_Compare1 (aPZ ha hb I h λv u s2 x y H2 I2 rx ry q=>ho pins s2 σ H2 x y v u Q I2 rx ry q) hm
inductive TBP (x:V) (H:Hp) (Q:Bool->Hp->Prop):Prop
 |mk (k:Bool) (e:x=.bl k) (q:Q k H):TBP x H Q
def aT (t:TE):TT:=λσ H Q=>t σ H λx H'=>TBP x H' Q
def vF (ho:OpR X (iw op) r)(ha:PE X a ta)(hb:PE X b tb)(hm:yj op b=false):PT X (.Compare a [op] [b] pos) (aT (tOp r ta tb)):=by
 intro pins s σ H Q I h;refine wpAny_isTrue_Compare1 (thn (ha pins s σ H _ I h) λv s1 ⟨x,H1,I1,r1,q1⟩=>thn (hb pins s1 σ H1 _ I1 q1) λu s2 ⟨y,H2,I2,r2,q2⟩=>
  thn (ho pins s2 σ H2 x y v u _ I2 r1 r2 q2) λc s3 ⟨z,H3,I3,r3,k,e,q3⟩=>?_) hm
 subst e;cases r3;exact jc ⟨H3,I3,q3⟩
def aBj (r r':R2)(ta tb tc:TE):TE:=λσ H Q=>ta σ H λx H1=>tb σ H1 λy H2=>r x y H2 λz H3=>∃k,z=.bl k /\
 (if k=true then tc σ H3 λw' H4=>r' y w' H4 Q else Q (.bl false) H3)
def aHP (ho:OpR X (iw op) r)(ho':OpR X (iw op') r')(ha:PE X a ta)(hb:PE X b tb)(hc:PE X c tc)(hm:lastMarks [op,op'] [b,c]=false:=by with_unfolding_all rfl):PT X (.Compare a [op,op'] [b,c] pos) (aT (aBj r r' ta tb tc)):=by
 intro pins s σ H Q I h;refine isTrue_chain (thn (ha pins s σ H _ I h) λv s1 ⟨x,H1,I1,r1,q1⟩=>test_link (thn (hb pins s1 σ H1 _ I1 q1) λu s2 ⟨y,H2,I2,r2,q2⟩=>
  thn (ho pins s2 σ H2 x y v u _ I2 r1 r2 q2) λd s3 ⟨z,H3,I3,r3,k,e,q3⟩=>?_)) hm
 subst e;cases r3;refine jc ?_;cases k with
 |false=>
  obtain⟨k',e',q'⟩:=q3;cases e';exact ite_ff ⟨H3,I3,q'⟩
 |true=>
  refine ite_tt (test_last (thn (hc pins s3 σ H3 _ I3 q3) λw' s4 ⟨z',H4,I4,r4,q4⟩=>thn (ho' pins s4 σ H4 y z' u w' _ I4 r2 r4 q4) λd' s5 ⟨z2,H5,I5,r5,k2,e2,q5⟩=>?_));subst e2;cases r5;exact jc ⟨H5,I5,q5⟩
def aDa:(cm:Nat)<2^63:=by rw[ka];decide
def aEC:OpR X (mh .Add) (λx y H Q=>∃i j,x=.str i/\y=.str j/\i.length+j.length<=cm/\Q (.str (i++j)) H):=by
 intro pins s σ H x y v u Q I rx ry h;obtain⟨i,j,rfl,rfl,hz,q⟩:=h;obtain⟨t,rfl⟩:=rx;obtain⟨t',rfl⟩:=ry;exact add_str (λt' tk=>⟨.str (i++j),H,I.tok _,⟨_,rfl⟩,q⟩) hz
def aAv (r:Vals [x] us):∃u,us=[u]/\RelV x u:=by
 cases r with
 |cons r1 r2=>cases r2;exact⟨_,rfl,r1⟩
def aMX (r:Vals [x,y] us):∃u w',us=[u,w']/\RelV x u/\RelV y w':=by
 cases r with
 |cons r1 r2=>
  cases r2 with
  |cons r3 r4=>cases r4;exact⟨_,_,rfl,r1,r3⟩
def aIZ:CallR X (.builtin "abs") (λxs H Q=>∃i,xs=[.int i]/\Q (.int (if i<0 then -i else i)) H):=by
 intro pins s σ H xs us Q I r h;obtain⟨i,rfl,q⟩:=h;obtain⟨u,rfl,t,rfl⟩:=aAv r;exact call_abs_int λu tk=>⟨.int (if i<0 then -i else i),H,I.tok _,⟨_,rfl⟩,q⟩
def aGq (hc:X.calm=true):CallR X (.builtin "min") (λxs H Q=>∃i j,xs=[.int i,.int j]/\Q (.int (if j<i then j else i)) H):=by
 intro pins s σ H xs us Q I r h;obtain⟨i,j,rfl,q⟩:=h;obtain⟨u,w',rfl,⟨t,rfl⟩,⟨t',rfl⟩⟩:=aMX r;refine min_two_ints (I.ok.hd hc) λh' tk k=>⟨_,H,I.kept k,?_,q⟩;by_cases hj:j<i
 ·rw[C5 hj,C5 hj];exact⟨_,rfl⟩
 ·rw[C4 hj,C4 hj];exact⟨_,rfl⟩
end
structure Room (k:Nat)(A:xz):Prop where
 hd:A.handled=none
 dp:A.depth+3*k+5<recursionLimit
 un:A.units+16*k+200<cLine
 gd:A.guards=some []
def Room.mono (r:Room k A)(h:j<=k):Room j A:=⟨r.hd,by have:=r.dp;lia,by have:=r.un;lia,r.gd⟩
def Room.deeper (r:Room (k+1) A)(env:Env):Room k (A.deeper env):=
 ⟨r.hd,by have:=r.dp;show A.depth+1+3*k+5<_;lia,by have:=r.un;show A.units+3+16*k+200<_;lia,r.gd⟩
def Room.depth (r:Room k A):A.depth<recursionLimit:=by have:=r.dp;lia
def aF:TA:=λ_ H Q=>Q [] H
def aA (ta:TE)(tr:TA):TA:=λσ H Q=>ta σ H λx H1=>tr σ H1 λxs H2=>Q (x::xs) H2
abbrev AR (i:Nat):TA:=aA (aC i) aF
def aY:PA X [] aF:=λ_ _ _ _ H Q I h=>Calls.spliced_nil ⟨[],H,I,.nil,h⟩
def dB (ha:PE X e te)(hr:PA X es t)(hs:fv (e::es) X.env=(false,eval e X.env)::fv es X.env:=by rfl):PA X (e::es) (aA te t):=by
 intro pos pins s σ H Q I h;rw[hs];show v4 _ _ (spliced ((false,eval e X.env)::vc pos (fv es X.env))) _ _ s;refine Calls.spliced_cons (thn (ha pins s σ H _ I h) λu s1 ⟨x,H1,I1,r1,q1⟩=>?_);exact thn (hr pos pins s1 σ H1 _ I1 q1) λus s2 ⟨xs,H2,I2,r2,q2⟩=>⟨x::xs,H2,I2,.cons r1 r2,q2⟩
def bH (t:TA):TE:=λσ H Q=>t σ H λxs H1=>xs.length<=cm/\∀p,H1 p=none->Q (.ref p) (upd H1 p (.tup xs))
def dC (t:TA):TE:=λσ H Q=>t σ H λxs H1=>xs.length<=cm/\∀p,H1 p=none->Q (.ref p) (upd H1 p (.lst xs))
def uI (h:PA X es t):PE X (.Tuple es x1 pos) (bH t):=by
 intro pins s σ H Q I hq;refine wpAny_Tuple_spliced (thn (h pos pins s σ H _ I hq) λus s1 ⟨xs,H1,I1,r,z,q⟩=>⟨by rw[<- r.length];exact z,?_⟩);have hf:H1 s1.heap.objs.size=none:=I1.hok.fresh (ar _);refine⟨.ref s1.heap.objs.size,upd H1 s1.heap.objs.size (.tup xs),I1.laid (t':=s1.toks) (λb u e=>aj _ e) (ar _) ?_,rfl,q _ hf⟩;exact⟨z,us,r,TupN.new _ _⟩
def aDD (h:PA X es t):PE X (.List es pos) (dC t):=by
 intro pins s σ H Q I hq;refine wpAny_List_spliced (thn (h pos pins s σ H _ I hq) λus s1 ⟨xs,H1,I1,r,z,q⟩=>⟨by rw[<- r.length];exact z,?_⟩);have hf:H1 s1.heap.objs.size=none:=I1.hok.fresh (ar _);refine⟨.ref s1.heap.objs.size,upd H1 s1.heap.objs.size (.lst xs),I1.laid (t':=s1.toks) (λb u e=>aj _ e) (ar _) ?_,rfl,q _ hf⟩;exact⟨z,us,0,r,bg _ rfl⟩
abbrev Sp:=List V->Hp->VK->XK->Prop
abbrev CXT:=List Env->Hp->wv->XK->wn->wv->Prop
structure aOP (P:zn)(w:xj)(K:aa)(mg:u8->Option wn)(base:jp)(A:xz)(outer:List Env)(s:wv)(H:Hp):Prop where
 frames:A.frames=some outer
 mod:Mod K mg base
 bs:∀b o,base.get? b=some o->s.heap.get? b=some o/\H b=none
 bsz:base.objs.size<=s.heap.objs.size
 funs:s.heap.FunFrames base outer
 frf:∀b∈frs outer,H b=none
 hok:HOk P w H s.heap
 bare:yh s.gens
def CE (outer:List Env)(P:zn)(w:xj)(H:Hp)(s:wv)(Q:VK)(u:wn)(s':wv):Prop:=
 ∃v H',s'.os=s.os/\yh s'.gens/\Un (frs outer) [] H H' s.heap s'.heap/\HOk P w H' s'.heap/\RelV v u/\Q v H'
def CR (CX:CXT)(outer:List Env)(P:zn)(w:xj)(H:Hp)(s:wv)(Q:VK)(E:XK)(r:BG)(s':wv):Prop:=
 match r with
 |.ok (.ret u)=>CE outer P w H s Q u s'
 |.ok _=>False
 |.error e=>CX outer H s E e s'
structure FnOk (P:zn)(w:xj)(K:aa)(mg:u8->Option wn)(base:jp)(CX:CXT)(k:Nat)(f:ww)(fd:FuncData)(ps:List u8)(sp:Sp):Prop where
 len:∀vs H Q E,sp vs H Q E->vs.length=ps.length
 run:∀(A:xz) (outer:List Env) (s:wv) (H:Hp) (args:Args) (us:List wn) (vs:List V) (Q:VK) (E:XK),Room k A->aOP P w K mg base A outer s H->By s fd args (ps.zip us)->Vals vs us->sp vs H Q E ->
  ve (v6 P w) A (.call (.ref f) args) (CR CX outer P w H s Q E) s
def FnOk.mono {K:aa}{CX:CXT}{j k:Nat}{f:ww}{fd:FuncData}{ps:List u8}{sp:Sp}(F:FnOk P w K mg base CX j f fd ps sp)(h:j<=k):
  FnOk P w K mg base CX k f fd ps sp:=⟨F.len,λA outer s H args us vs Q E hr=>F.run A outer s H args us vs Q E (hr.mono h)⟩
def Inv.env0 {pins:List (ww×Obj)}{σ:St}{H:Hp}{s:wv}(I:Inv X pins σ H s):aOP X.prog X.w X.K X.mg X.base X.A X.stack s H:=
 ⟨I.ok.frames,I.ok.mod,I.bs,bo I.ok.bsz I.sz,I.stack,I.stkFree,I.hok,I.bare⟩
def Inv.after {pins:List (ww×Obj)}{σ:St}{H:Hp}{s s':wv}{u:wn}(I:Inv X pins σ H s)(h:CE X.stack X.prog X.w H s Q u s'):EP X pins σ Q u s':=by
 obtain⟨v,H',os,bare,un,hok,r,q⟩:=h;obtain⟨hh,g,d,t,os'⟩:=s';obtain rfl:os'=s.os:=os;exact⟨v,H',I.call (h':=hh) (g':=g) (d':=d) (t':=t) (ch:=[]) un hok bare (λb z=>absurd z (by simp)),r,q⟩
def aL (sp:Sp)(dvs:List V)(E:XK)(t:TA):TE:=λσ H Q=>t σ H λvs H1=>sp (vs++dvs) H1 Q E
def Binds (K:aa)(fd:FuncData)(ps:List u8)(ds:List wn):Prop:=
 ∀(s:wv) (us:List wn),K.In s.heap->(us++ds).length=ps.length->By s fd ⟨us,[]⟩ (ps.zip (us++ds))
def Binds.all {K:aa}{fd:FuncData}{ps:List u8}(h:∀us:List wn,us.length=ps.length->Bg fd ⟨us,[]⟩=pure (ps.zip us)):Binds K fd ps []:=λs us _ hl=>by
 rw[ia] at hl ⊢;exact .of_eq (h us hl)
def uE (CX:CXT)(X:Cx)(E:XK):Prop:=∀(pins:List (ww×Obj)) (σ:St) (H:Hp) (s:wv) (e:wn) (s':wv),Inv X pins σ H s->CX X.stack H s E e s'->X.xe e s'
def aMx {CX:CXT}{k:Nat}{f:ww}{fd:FuncData}{ps:List u8}{sp:Sp}{dvs:List V}{ds:List wn}{pins:List (ww×Obj)}{σ:St}{H:Hp}{s:wv}{us:List wn}{vs:List V}(F:FnOk X.prog X.w X.K X.mg X.base CX k f fd ps sp)(hr:Room k X.A)(hb:Binds X.K fd ps ds)(hd:Vals dvs ds)(hx:uE CX X E)(I:Inv X pins σ H s)(r:Vals vs us)(h:sp (vs++dvs) H Q E):v4 (v6 X.prog X.w) X.A (call (.ref f) us) (EP X pins σ Q) X.xe s:=by
 have r2:Vals (vs++dvs) (us++ds):=r.append hd;have hl:(us++ds).length=ps.length:=by rw[<- r2.length];exact F.len _ _ _ _ h
 refine wpAny_call (jq (F.run X.A X.stack s H ⟨us,[]⟩ (us++ds) (vs++dvs) Q E hr I.env0 (hb s us I.kIn hl) r2 h) λr s' hq=>?_);cases r with
 |error e=>exact hx pins σ H s e s' I hq
 |ok fl=>
  cases fl with
  |ret u=>exact I.after hq
  |next=>exact mz hq
  |brk=>exact mz hq
  |cont=>exact mz hq
def aGV {CX:CXT}{k:Nat}{f:ww}{fd:FuncData}{ps:List u8}{sp:Sp}{dvs:List V}{ds:List wn}{x:u8}{p pos:Pos}{e:ut}{es:List ut}{t:TA}(F:FnOk X.prog X.w X.K X.mg X.base CX k f fd ps sp)(hr:Room k X.A)(hg:Gl X x)(hm:X.mg x=some (.ref f))(hk:qg X.K (.ref f)=true)(hb:Binds X.K fd ps ds)(hd:Vals dvs ds)(hx:uE CX X E)(ha:PA X (e::es) t)(hdb:(x==("__debug__":u8))=false:=by decide)(he:fv (e::es) X.env=(false,eval e X.env)::fv es X.env:=by rfl)(hpl:(vc pos (fv es X.env)).any (·.1)=false:=by rfl):
  PE X (.Call (.Name x p) (e::es) [] pos) (aL sp dvs E t):=by
 intro pins s σ H Q I h;refine v8 (aCd I hg hm ?_ hdb);refine PySem.W.callWith_K (h₀:=X.base) I.ok.mod.kin hk (thn (ha pos pins s σ H _ I h) λus s1 ⟨vs,H1,I1,r,q⟩=>⟨I1.kIn,?_⟩) he hpl;exact aMx F hr hb hd hx I1 r q
structure oX (N P:List u8)(sc:Scope):Prop where
 kind:sc.kind=.function
 co:sc.isCoroutine=false
 gen:sc.isGenerator=false
 nd:N.Nodup
 pre:N.take P.length=P
 par:∀x∈P,sc.names.lookup x=some .local\/sc.names.lookup x=some .cell
 nofree:∀y∈sc.names,y.2≠.free
theorem aAW {kindOf:u8->Option NameKind}{x:u8}:∀{binds:List (u8×wn)}{m:u8->Option wn},(∀v,(x,v)∉binds)->bindL kindOf binds m x=m x
 |[],_,_=>rfl
 |(n,v)::r,m,h=>by
  unfold bindL;rw[aAW λw hw=>h w (bq _ hw)];split
  ·have:x≠n:=by rintro rfl;exact h v c7
   simp[this]
  ·rfl
theorem aAG {kindOf:u8->Option NameKind}{x:u8}:∀{binds:List (u8×wn)}{m:u8->Option wn},(∀v,(x,v)∉binds)->bindC kindOf binds m x=m x
 |[],_,_=>rfl
 |(n,v)::r,m,h=>by
  unfold bindC;rw[aAG λw hw=>h w (bq _ hw)];split
  ·rfl
  ·have:x≠n:=by rintro rfl;exact h v c7
   simp[this]
theorem aBA {kindOf:u8->Option NameKind}{x:u8}{v:wn}:∀{P:List u8}{vs:List wn}{i:Nat}{m:u8->Option wn},P.Nodup->P[i]?=some x->vs[i]?=some v->kindOf x=some .local ->
  bindL kindOf (P.zip vs) m x=some v
 |[],_,_,_,_,h,_,_=>by simp at h
 |_::_,[],_,_,_,_,h,_=>by simp at h
 |p::P,w::vs,0,m,nd,h1,h2,hk=>by
  simp at h1 h2;subst h1;subst h2;show bindL kindOf ((p,w)::P.zip vs) m p=_;unfold bindL;rw[aAW λv hv=>(jg.mp nd).1 (Ae hv).1,C5 hk];simp
 |p::P,w::vs,i+1,m,nd,h1,h2,hk=>by
  show bindL kindOf ((p,w)::P.zip vs) m x=_;unfold bindL;exact aBA (i:=i) (jg.mp nd).2 (by simpa using h1) (by simpa using h2) hk
theorem aBt {kindOf:u8->Option NameKind}{x:u8}{v:wn}:∀{P:List u8}{vs:List wn}{i:Nat}{m:u8->Option wn},P.Nodup->P[i]?=some x->vs[i]?=some v->kindOf x≠some .local ->
  bindC kindOf (P.zip vs) m x=some v
 |[],_,_,_,_,h,_,_=>by simp at h
 |_::_,[],_,_,_,_,h,_=>by simp at h
 |p::P,w::vs,0,m,nd,h1,h2,hk=>by
  simp at h1 h2;subst h1;subst h2;show bindC kindOf ((p,w)::P.zip vs) m p=_;unfold bindC;rw[aAG λv hv=>(jg.mp nd).1 (Ae hv).1,C4 hk];simp
 |p::P,w::vs,i+1,m,nd,h1,h2,hk=>by
  show bindC kindOf ((p,w)::P.zip vs) m x=_;unfold bindC;exact aBt (i:=i) (jg.mp nd).2 (by simpa using h1) (by simpa using h2) hk
def bC (N:List u8)(vs:List V):St:=vs.map some++dr (N.length-vs.length) none
def qQ1 (sp:Sp)(T:TS)(N:List u8):Prop:=∀vs H Q E,sp vs H Q E->T {nx:=λ_ H'=>Q .non H',rt:=Q} (bC N vs) H
def aBK (CX:CXT)(P:zn)(w:xj)(K:aa)(mg:u8->Option wn)(base:jp)(N:List u8)(qual:u8)(scope:Scope)(f:ww)(cd:wn)(A:xz)(outer:List Env)(s:wv)(H:Hp)(E:XK):Cx where
 prog:=P
 w:=w
 K:=K
 mg:=mg
 base:=base
 A:=A.deeper (Af qual scope s.heap.objs.size f cd)
 N:=N
 s₀:=s
 H₀:=H
 env:=Af qual scope s.heap.objs.size f cd
 outer:=outer
 stack:=Af qual scope s.heap.objs.size f cd::outer
 ex:=[]
 calm:=true
 fn:=λ_=>true
 pn:=[]
 xe:=λe s'=>v4 (v6 P w) (A.deeper (Af qual scope s.heap.objs.size f cd)) (leaving (Af qual scope s.heap.objs.size f cd) e) (λ_ s''=>CX outer H s E e s'') (λe' s''=>CX outer H s E e' s'') s'
def aDP {sc:Scope}{n:Nat}{x:u8}(h:sc.names.lookup x=some .cell):∃c,(kl n sc.names []).lookup x=some c:=by
 have q:=tm sc.names n [] (.inl h);exact jr.mp q
def aFR {CX:CXT}{K:aa}{N ps:List u8}{qual:u8}{scope:Scope}{f:ww}{cd:wn}{outer:List Env}{s s1:wv}{H:Hp}{us:List wn}{vs:List V}(S:oX N ps scope)(hd:A.handled=none)(e0:aOP P w K mg base A outer s H)(hl:vs.length=ps.length)(r:Vals vs us)(x:InCallC s s.heap.objs.size (bindL (Af qual scope s.heap.objs.size f cd).kindOf (ps.zip us) λ_=>none) (kl (s.heap.objs.size+1) scope.names []) (bindC (Af qual scope s.heap.objs.size f cd).kindOf (ps.zip us) λ_=>none) s1):
  Inv (aBK CX P w K mg base N qual scope f cd A outer s H E) [] (bC N vs) H s1:=by
 have hpl:ps.length<=N.length:=by have:=congrArg AY S.pre;rw[dj] at this;lia
 obtain⟨h1,tk,rfl,hk⟩:=x.done;have noA:∀b:ww,b∉(aBK CX P w K mg base N qual scope f cd A outer s H E).ex:=λb z=>absurd (show b∈([]:List ww) from z) (by simp);refine⟨⟨e0.mod,S.kind,rfl,rfl,ar _,λy z c h1 h2=>?_,λy hy=>?_,λy c _ h=>?_,λ_=>hd,Around.frames_deeper e0.frames,.inr ⟨rfl,rfl⟩,λb z=>absurd z (noA b),e0.bs,e0.bsz,λb _ _=>noA b,λb z=>absurd z (noA b),e0.funs,e0.frf⟩,
  rfl,e0.bare,Un.kept hk,⟨_,x.toInCall.ns,λi y v h1 h2 h3=>?_⟩,λy c h=>⟨_,x.cell y c h⟩,e0.hok.fresh (ar _),λy c h=>?_,λp hp=>absurd (show p∈([]:List (ww×Obj)) from hp) (by simp),e0.hok.kept hk,?_⟩
 ·exact name_of_addr x.apart (ic h1) (ic h2)
 ·have hy:scope.names.lookup y=some .cell\/scope.names.lookup y=some .free:=hy;rcases hy with hy|hy
  ·exact aDP hy
  ·exact absurd rfl (S.nofree _ (ic hy))
 ·exact i6 (x.above y c (ic h))
 ·have hi:i<vs.length:=by
   unfold bC at h2;by_cases hi:i<vs.length
   ·exact hi
   ·rw[c9 (by simpa using hi)] at h2;rw[nj] at h2;split at h2<;>cases h2
  have ha:vs[i]?=some v:=by
   unfold bC at h2;rw[dg (by simpa using hi),bp] at h2;cases e:vs[i]? with
   |none=>rw[e] at h2;cases h2
   |some a=>rw[e] at h2;cases h2;rfl
  obtain⟨u,hu,rv⟩:=r.get ha;have hp:ps[i]?=some y:=by
   rw[<- S.pre,m7 (by lia)];exact h1
  have ndP:ps.Nodup:=by rw[<- S.pre];exact S.nd.sublist (List.take_sublist _ _)
  refine⟨u,rv,?_⟩;rcases S.par y (au hp) with k|k
  ·exact .inl ⟨k,aBA ndP hp hu k⟩
  ·obtain⟨c,e⟩:=aDP (n:=s.heap.objs.size+1) k;refine .inr ⟨.inl k,c,e,?_⟩;have q:=x.cell y c e;rw[aBt ndP hp hu (by show scope.names.lookup y≠_;rw[k];decide)] at q;exact q
 ·exact e0.hok.fresh (i6 (x.above y c (ic h)))
 ·unfold bC;show _=N.length;rw[aq,af,oq];lia
def aOb {CX: CXT}{K: aa}{k: Nat}{f: ww}{name qual: u8}{params: Arguments}{body: List Stmt}{scope: Scope}{dV kV doc pm cdv ct oc: wn}{an od: Option ww}{osl: Array (Option wn)}{N ps: List u8}{sp: Sp}(lk:K.lookup f=some ⟨oc,od, .func (ky name qual params body scope dV kV doc pm an cdv ct),osl⟩)(hcd:wx K cdv qual=true)(S:oX N ps scope)(len:∀vs H Q E,sp vs H Q E->vs.length=ps.length)(hbody:∀(A:xz) (outer:List Env) (s:wv) (H:Hp) (vs:List V) (Q:VK) (E:XK),Room k (A.deeper (Af qual scope s.heap.objs.size f cdv))->sp vs H Q E ->
   ∃t,PSs (aBK CX P w K mg base N qual scope f cdv A outer s H E) body t/\t {nx:=λ_ H'=>Q .non H',rt:=Q} (bC N vs) H):
  FnOk P w K mg base CX (k+1) f (ky name qual params body scope dV kV doc pm an cdv ct) ps sp:=by
 refine⟨len,λA outer s H args us vs Q E hr e0 hb r hsp=>?_⟩;have hl:=len _ _ _ _ hsp;have KX:K.In s.heap:=e0.mod.kin.keeps λb o e=>(e0.bs b o e).1;have lim:s.heap.NoLimit:=e0.mod.nolimit.keeps λb o e=>(e0.bs b o e).1;have hkind:∀y∈ps.zip us,scope.names.lookup y.1=some .local\/(scope.names.lookup y.1=some .cell/\((kl (s.heap.objs.size+1) scope.names []).lookup y.1).isSome=true):=λ⟨n,v⟩ hy=>by
  rcases S.par n (Ae hy).1 with q|q
  ·exact .inl q
  ·exact .inr ⟨q,tm _ _ _ (.inl q)⟩
 refine codeAny_call_function hr.depth (KX _ _ lk) rfl S.co S.gen rfl (PySem.W.codeRec_of KX hcd) (hb _ _ _ _ ?_);refine wpAny_newFunctionEnv_cells S.kind hkind λenv he s1 x=>?_;subst he;refine⟨lim.keeps x.toInCall.keep,codeAny_func ?_⟩;obtain⟨t,ht,hq⟩:=hbody A outer s H vs Q E (hr.deeper _) hsp;have I:Inv (aBK CX P w K mg base N qual scope f cdv A outer s H E) [] (bC N vs) H s1:=aFR S hr.hd e0 hl r x;refine jf (ht [] s1 (bC N vs) H _ I hq) (λfl s' hs=>?_) λe s' hs=>hs;have fin:∀{σ':St}{H':Hp}{v:V}{u:wn},Inv (aBK CX P w K mg base N qual scope f cdv A outer s H E) [] σ' H' s'->RelV v u->Q v H'->CE outer P w H s Q u s':=
  λ{σ' H' v u} J rv q=>⟨v,H',J.os,J.bare,J.base,J.hok,rv,q⟩
 cases fl with
 |ret u=>
  obtain⟨v,σ',H',J,rv,q⟩:=hs;exact fin J rv q
 |next=>
  obtain⟨σ',H',J,q⟩:=hs;exact fin (v:=V.non) (u:=Value.none) J rfl q
 |brk=>
  obtain⟨_,_,_,q⟩:=hs;exact mz q
 |cont=>
  obtain⟨_,_,_,q⟩:=hs;exact mz q
def tCB (r:List V->Hp->VK->Prop)(t:TA):TE:=λσ H Q=>t σ H λvs H1=>r vs H1 Q
def bF {x:u8}{p pos:Pos}{e:ut}{es:List ut}{t:TA}{id:String}{r:List V->Hp->VK->Prop}(hc:CallR X (.builtin id) r)(hg:Gl X x)(hm:X.mg x=none)(hv:fm x=some (.builtin id))(ha:PA X (e::es) t)(hn:x≠"__name__":=by decide)(hdb:(x==("__debug__":u8))=false:=by decide)(he:fv (e::es) X.env=(false,eval e X.env)::fv es X.env:=by rfl)(hpl:(vc pos (fv es X.env)).any (·.1)=false:=by rfl):PE X (.Call (.Name x p) (e::es) [] pos) (tCB r t):=by
 intro pins s σ H Q I h;refine v8 (tM I hg hm hv ?_ hn hdb);exact PyProof.Rows.callWith_builtin1 (thn (ha pos pins s σ H _ I h) λus s1 ⟨vs,H1,I1,r1,q1⟩=>hc pins s1 σ H1 vs us Q I1 r1 q1) he hpl
def eY {x:u8}{p pos:Pos}{e:ut}{es:List ut}{t:TA}{T:String}{r:List V->Hp->VK->Prop}(hc:CallR X (.type T) r)(hg:Gl X x)(hm:X.mg x=none)(hv:fm x=some (.type T))(ha:PA X (e::es) t)(hn:x≠"__name__":=by decide)(hdb:(x==("__debug__":u8))=false:=by decide)(he:fv (e::es) X.env=(false,eval e X.env)::fv es X.env:=by rfl)(hpl:(vc pos (fv es X.env)).any (·.1)=false:=by rfl):PE X (.Call (.Name x p) (e::es) [] pos) (tCB r t):=by
 intro pins s σ H Q I h;refine v8 (tM I hg hm hv ?_ hn hdb);exact jx (thn (ha pos pins s σ H _ I h) λus s1 ⟨vs,H1,I1,r1,q1⟩=>hc pins s1 σ H1 vs us Q I1 r1 q1) he hpl
end L2
namespace HT
open PySem PyProof.Rows
def lexLt:List Int->List Int->Bool
 |[],[]=>false
 |[],_::_=>true
 |_::_,[]=>false
 |x::xs,y::ys=>if x=y then lexLt xs ys else decide (x<y)
def lexLt_cons (x y:Int)(xs ys:List Int):lexLt (x::xs) (y::ys)=if x=y then lexLt xs ys else decide (x<y):=rfl
def yY:lexLt [] []=false:=rfl
def lexLt_nil_cons (y:Int)(ys:List Int):lexLt [] (y::ys)=true:=rfl
def lexLt_cons_nil (x:Int)(xs:List Int):lexLt (x::xs) []=false:=rfl
def aHU (A:xz)(s:wv)(a:Int)(t:Tok)(c:Int)(u:Tok):∃e,ig A s (.int a t) (.int c u) e/\(e=true↔a=c):=
 ⟨(a==c),v9 a t c u,by simp⟩
def aIy (A:xz)(s:wv)(a:Int)(t:Tok)(c:Int)(u:Tok)(prog:zn)(w:xj)(E Q:wn->wv->Prop)(h:Q (.bool (decide (a<c))) s):
  v4 (v6 prog w) A (yk .Lt (.int a t) (.int c u)) Q E s:=
 (PyProof.Rows.lt_int h:v4 (v6 prog w) A (iw .Lt (.int a t) (.int c u)) Q E s)
section
open PySem.SeqAt
open PySem.AutoSeq1 (wpAny_loadPart')
open PySem.MeetsSeq PySem.MeetsSeq2 PySem.MeetsSeq3
def zO (l b:ww)(items items2:Array wn)(n n2:Nat)(dd dd2:Option ww)(sl sl2:Array (Option wn))(ns ms:List Int)(hi:IntsAre items.toList ns)(hj:IntsAre items2.toList ms):
  Meets (Builtin.«tuple.__lt__» ⟨[.ref l,.ref b],[]⟩)
   (λ_ R s=>s.heap.get? l=some {cls:=.type "tuple",dict:=dd,data:=.seq items n,slots:=sl}/\s.heap.get? b=some {cls:=.type "tuple",dict:=dd2,data:=.seq items2 n2,slots:=sl2} /\
    R (.ok (.ret (.bool (lexLt ns ms)))) s):=
 .of_wp λprog w A R s h=>by
  obtain⟨hp,g,d,tk,os⟩:=s;obtain⟨hl,hb,h⟩:=h;have f2:=xl;have z1:items.size=ns.length:=by rw[<- hi.length];simp
  have z2:items2.size=ms.length:=by rw[<- hj.length];simp
  wp_walk using vf hl,vf hb,qq _ (λrest b s'=>b.1=none/\s'=⟨hp,g,d,tk,os⟩/\∃(vs ws:List wn) (ns' ms':List Int),rest=vs.zip ws /\
   IntsAre vs ns'/\IntsAre ws ms'/\ns'.length+items2.size=ms'.length+items.size/\R (.ok (.ret (.bool (lexLt ns' ms')))) ⟨hp,g,d,tk,os⟩) _
  case turn=>
   rintro⟨y,x⟩ rest b s' ⟨hb',rfl,vs,ws,ns',ms',hz,hvi,hwi,hlen,hR⟩;cases hvi with
   |nil=>rw[List.zip_nil_left] at hz;cases hz
   |cons a t hvi'=>
    cases hwi with
    |nil=>rw[List.zip_nil_right] at hz;cases hz
    |cons c u hwi'=>
     rw[oa] at hz;injection hz with hyx hrest;injection hyx with hy hx;subst hy hx;rw[lexLt_cons] at hR;simp only[c5] at hlen;obtain⟨e,he,hiff⟩:=aHU A.in1 ⟨hp,g,d,tk,os⟩ a t c u;refine ae (he prog w _ _ ?_);cases e with
     |true=>
      rw[C5 (hiff.mp rfl)] at hR
      wp_walk
      exact⟨rfl,rfl,_,_,_,_,hrest,hvi',hwi',by lia,hR⟩
     |false=>
      rw[C4 (λq=>absurd (hiff.mpr q) cy)] at hR;have hri:=aIy A.in1 ⟨hp,g,d,tk,os⟩ a t c u prog w
      wp_walk using hri
      exact⟨_,rfl,by simpa using hR⟩
  case fin=>
   rintro⟨b1,b2⟩ s' ⟨hb',rfl,vs,ws,ns',ms',hz,hvi,hwi,hlen,hR⟩;simp only at hb';subst hb';have hv:lexLt ns' ms'=decide (items.size<items2.size):=by
    cases hvi with
    |nil=>
     cases hwi with
     |nil=>
      simp only[lg] at hlen;rw[yY];exact(Au (by lia)).symm
     |cons c u hw=>
      simp only[lg,c5] at hlen;rw[lexLt_nil_cons];exact(At (by lia)).symm
    |cons a t hv=>
     cases hwi with
     |nil=>
      simp only[lg,c5] at hlen;rw[lexLt_cons_nil];exact(Au (by lia)).symm
     |cons c u hw=>
      rw[oa] at hz;cases hz
   rw[hv] at hR
   wp_walk
   exact⟨_,rfl,by simpa[Builtin.Tuple.tupleCompareSizes] using hR⟩
  case h=>
   exact⟨rfl,rfl,items.toList,items2.toList,ns,ms,rfl,hi,hj,by lia,h⟩
end
def lt_tupInts (hl:IsTup s.heap l items)(hb:IsTup s.heap b items2)(hi:IntsAre items.toList ns)(hj:IntsAre items2.toList ms)(hu:A.units<cLine)(h:Q (.bool (lexLt ns ms)) s):v4 (v6 prog w) A (iw .Lt (.ref l) (.ref b)) Q E s:=by
 obtain⟨⟨cls,dd,data,sl⟩,ho,hc,n,hd⟩:=id hl;obtain⟨⟨cls2,dd2,data2,sl2⟩,ho2,hc2,n2,hd2⟩:=id hb;simp only at hc hd hc2 hd2;subst hc hd hc2 hd2;exact zq (op:=.Lt) ⟨_,ho,rfl⟩ ⟨_,ho2,rfl⟩ PySem.F.slot_tuple_lt PySem.F.entry_tuple_lt (PySem.F.args_tuple_lt_2 _ _) (zO l b items items2 n n2 dd dd2 sl sl2 ns ms hi hj)
  ⟨ho,ho2,show Value.bool (lexLt ns ms)≠Value.notImplemented/\Q (.bool (lexLt ns ms)) s from⟨(λx=>nomatch x),h⟩⟩ hu
def cat_tup (ht:IsTup s.heap t vs.toArray)(hb:IsTup s.heap b ws.toArray)(hv:vs≠[])(h1:ws=[]->Q (.ref t) s)(h2:ws≠[]->Q (.ref s.heap.objs.size) {s with heap:=s.heap.push {cls:=.type "tuple",data:=.seq (vs++ws).toArray}})(hsz:vs.length+ws.length<=cm):v4 (v6 prog w) A (mh .Add (.ref t) (.ref b)) Q E s:=by
 obtain⟨⟨cls,dd,data,sl⟩,ho,hc,n,hd⟩:=id ht;obtain⟨⟨cls2,dd2,data2,sl2⟩,ho2,hc2,n2,hd2⟩:=id hb;simp only at hc hd hc2 hd2;subst hc hd hc2 hd2;have e:vs.toArray++ws.toArray=(vs++ws).toArray:=by simp
 by_cases hw:ws=[]
 ·exact BH ⟨_,ho,rfl⟩ ⟨_,ho2,rfl⟩ zg Bh tq sa (qz _ _)
   (tuple_addW1 t b vs.toArray ws.toArray n n2 dd dd2 sl sl2 (by simpa using hv) (by simp[hw])) ⟨ho,ho2,h1 hw⟩
 ·refine BH ⟨_,ho,rfl⟩ ⟨_,ho2,rfl⟩ zg Bh tq sa (qz _ _)
   (tuple_addW2 t b vs.toArray ws.toArray n n2 dd dd2 sl sl2 (by simpa using hv) (by simpa using hw) (by rw[ay,ay];exact hsz)) ⟨ho,ho2,?_⟩
  rw[e];exact h2 hw
def sIx (n d:Nat):Option Int->Nat
 |none=>d
 |some v=>if v<0 then(v+(n:Int)).toNat else min v.toNat n
def sIx_none (n d:Nat):sIx n d none=d:=rfl
def sIx_nat (n d k:Nat):sIx n d (some (k:Int))=min k n:=by
 show(if(k:Int)<0 then((k:Int)+(n:Int)).toNat else min (k:Int).toNat n)=min k n;rw[C4 (by lia),cv]
def aMm (n d:Nat)(hd:d<=n)(o:Option Int):sIx n d o<=n:=by
 cases o with
 |none=>exact hd
 |some v=>
  show(if v<0 then(v+(n:Int)).toNat else min v.toNat n)<=n;by_cases hv:v<0
  ·rw[C5 hv];lia
  ·rw[C4 hv];exact Nat.min_le_right _ _
def aGe (v:Int)(n d:Nat):(if v<0 then max (v+(n:Int)) 0 else min v (n:Int))=((sIx n d (some v):Nat):Int):=by
 show(if v<0 then max (v+(n:Int)) 0 else min v (n:Int))=(((if v<0 then(v+(n:Int)).toNat else min v.toNat n):Nat):Int);by_cases hv:v<0
 ·simp only[C5 hv];lia
 ·simp only[C4 hv];lia
def aED (lo hi:Option Int)(n:Nat):jh lo hi 1 (n:Int)=(((sIx n 0 lo:Nat):Int),((sIx n n hi:Nat):Int)):=by
 have h1:¬((1:Int)<0):=by lia
 unfold jh;simp only[h1,if_false];refine Prod.ext ?_ ?_
 ·cases lo with
  |none=>rfl
  |some v=>exact aGe v n 0
 ·cases hi with
  |none=>rfl
  |some v=>exact aGe v n n
def aEu (i j:Nat):ie (i:Int) (j:Int) 1=j-i:=by
 unfold ie;have h1:(1:Int) > 0:=by lia
 simp only[h1,if_true,BI];split<;>lia
def slicePart_ (p:IsPart v o)(h:Q o s):v4 (v6 prog w) A (Builtin.Slice.slicePartIndex v) Q E s:=by
 cases p with
 |none=>exact slicePart_none h
 |int i t=>exact slicePart_int h
def sliceApplied_gen {s:wv}{sl:ww}{vl vu:wn}{lo hi:Option Int}{n:Nat}(hs:s.heap.IsSliceOf sl vl vu .none)(pl:IsPart vl lo)(pu:IsPart vu hi)(h:Q (((sIx n 0 lo:Nat):Int),1,sIx n n hi-sIx n 0 lo) s):v4 (v6 prog w) A (ma (.ref sl) (pure (n:Int))) Q E s:=by
 obtain⟨os,hos,hcs,hds⟩:=id hs;unfold ma wz;refine ae (ae (gs hos hds (x:=vl) rfl (ae (gs hos hds (x:=vu) rfl (ae (gs hos hds (x:=.none) rfl (ao ?_)))))));refine ae (slicePart_none ?_);show v4 _ _ (if((1:Int)==0)=true then _ else _) _ _ s;rw[C4 (by decide)];refine ae (slicePart_ pl (ae (slicePart_ pu (ae (ao ?_)))));show v4 _ _ (match jh lo hi 1 (n:Int) with|(lo,hi)=>pure (lo,(1:Int),ie lo hi 1)) _ _ s
 rw[aED lo hi n];show v4 _ _ (pure (((sIx n 0 lo:Nat):Int),(1:Int),ie ((sIx n 0 lo:Nat):Int) ((sIx n n hi:Nat):Int) 1)) _ _ s;rw[aEu];exact ao h
def aIc (xs:Array wn)(i k:Nat):((bc k).filterMap λ(m:Nat)=>xs[((i:Int)+(m:Int)*1).toNat]?).toArray=((xs.toList.drop i).take k).toArray:=by
 have e:(λ(m:Nat)=>xs[((i:Int)+(m:Int)*1).toNat]?)=λm=>xs[i+m]?:=by
  funext m;have:((i:Int)+(m:Int)*1).toNat=i+m:=by lia
  rw[this]
 rw[e];have:=pick_run xs i k;rw[wa] at this;have e2:((λx=>xs[x]?)∘λx=>i+x)=λm=>xs[i+m]?:=rfl;rw[e2] at this;rw[this]
def getItem_tuple_cut {s:wv}{t sl:ww}{items:Array wn}{vl vu:wn}{lo hi:Option Int}(ht:IsTup s.heap t items)(hs:s.heap.IsSliceOf sl vl vu .none)(pl:IsPart vl lo)(pu:IsPart vu hi)(hw:¬(sIx items.size 0 lo=0/\sIx items.size items.size hi=items.size))(h:Q (.ref s.heap.objs.size) {s with heap:=s.heap.push {cls:=.type "tuple",data:=.seq ((items.toList.drop (sIx items.size 0 lo)).take (sIx items.size items.size hi-sIx items.size 0 lo)).toArray}})(hsz:items.size<=cm):v4 (v6 prog w) A (Ag (.ref t) (.ref sl)) Q E s:=by
 have htake:sizeOk (.seq ((items.toList.drop (sIx items.size 0 lo)).take (sIx items.size items.size hi-sIx items.size 0 lo)).toArray):=by
  show((items.toList.drop (sIx items.size 0 lo)).take (sIx items.size items.size hi-sIx items.size 0 lo)).toArray.size<=cm;rw[ay,dj,ip,da];lia
 have hj:sIx items.size items.size hi<=items.size:=aMm _ _ (ar _) hi;obtain⟨os,hos,hcs,hds⟩:=id hs;have hTs:s.TypeIs (.ref sl) "slice":=⟨os,hos,hcs⟩;unfold Ag
 try with_reducible refine f9 ?_
 first|refine ae (ao ?_)|skip
 refine ae (xm ht.typeIs (by decide) ?_);refine ae (fh (name:=i7 "__getitem__") ht.typeIs fq
  (fi fq ht.typeIs vg ?_ (we _ _)))
 show v4 _ _ (qb (.ref t) >>= _) _ _ s;refine ae (Bi ht ?_);refine ae (ot hTs ?_);rw[C5 (by decide)];refine ae (sliceApplied_gen hs pl pu ?_);have hno:¬((((sIx items.size 0 lo:Nat):Int)==0&&(1:Int)==1&&(sIx items.size items.size hi-sIx items.size 0 lo)==items.size)=true):=by
  intro q;rw[cz,cz] at q;have q1:((sIx items.size 0 lo:Nat):Int)=0:=xn q.1.1;have q2:sIx items.size items.size hi-sIx items.size 0 lo=items.size:=xn q.2;exact hw ⟨by lia,by lia⟩
 show v4 _ _ (if(((sIx items.size 0 lo:Nat):Int)==0&&(1:Int)==1&&(sIx items.size items.size hi-sIx items.size 0 lo)==items.size)=true then _ else _) _ _ s;rw[C4 hno,aIc]
 first
  |exact ae (m:=gj _) (dz (ao ⟨_,rfl,ao h⟩) htake)
  |exact ae (m:=gj _) (dz (ae (ao (ao ⟨_,rfl,ao h⟩))) htake)
  |exact ae (ae (m:=gj _) (dz (ao (ao ⟨_,rfl,ao h⟩)) htake))
  |exact ae (ae (m:=gj _) (dz (ao ⟨_,rfl,ao h⟩) htake))
end HT
namespace L2
open PySem PySem.Spec PyProof.Rows
abbrev TO:=St->Hp->(Option Int->Hp->Prop)->Prop
def PO (X:Cx)(e:Option ut)(t:TO):Prop:=
 ∀(pins:List (ww×Obj)) (s:wv) (σ:St) (H:Hp) (Q:Option Int->Hp->Prop),Inv X pins σ H s->t σ H Q ->
  v4 (v6 X.prog X.w) X.A (evalPart e X.env) (λu s'=>∃o H',Inv X pins σ H' s'/\IsPart u o/\Q o H') X.xe s
def bN:TO:=λ_ H Q=>Q none H
def dQ (t:TE):TO:=λσ H Q=>t σ H λx H1=>∃i,x=.int i/\Q (some i) H1
def dD:∀{us:List wn},Vals (ns.map V.int) us->IntsAre us ns:=by
 induction ns with
 |nil=>intro us r;rw[Ah] at r;cases r;exact .nil
 |cons n ns ih=>
  intro us r;rw[de] at r;cases r with
  |cons r1 r2=>
   obtain⟨t,e⟩:=r1;subst e;exact .cons n t (ih r2)
def aLF:PO X none bN:=by
 intro pins s σ H Q I h;rw[ym];exact ao ⟨none,H,I,.none,h⟩
def aKV (h:PE X e te):PO X (some e) (dQ te):=by
 intro pins s σ H Q I hw;rw[Bj];refine thn (h pins s σ H _ I hw) λu s1 ⟨x,H1,I1,r1,q1⟩=>?_;obtain⟨i,rfl,q⟩:=q1;obtain⟨t,rfl⟩:=r1;exact⟨some i,H1,I1,.int i t,q⟩
def SlR (X:Cx)(r:V->Option Int->Option Int->Hp->VK->Prop):Prop:=
 ∀(pins:List (ww×Obj)) (s:wv) (σ:St) (H:Hp) (x:V) (v vl vu:wn) (lo hi:Option Int) (sl:ww) (Q:VK),Inv X pins σ H s->RelV x v->s.heap.IsSliceOf sl vl vu .none->IsPart vl lo->IsPart vu hi->r x lo hi H Q ->
  ∃T id,typeLookup (.type T) "__getitem__"=pure (some (.builtin id))/\s.TypeIs v T/\v4 (v6 X.prog X.w) X.A (Ag v (.ref sl)) (EP X pins σ Q) X.xe s
def SlR.or (h:SlR X r)(h':SlR X r'):SlR X (λx lo hi H Q=>r x lo hi H Q\/r' x lo hi H Q):=by
 intro pins s σ H x v vl vu lo hi sl Q I rx hs pl pu q;rcases q with q|q
 ·exact h pins s σ H x v vl vu lo hi sl Q I rx hs pl pu q
 ·exact h' pins s σ H x v vl vu lo hi sl Q I rx hs pl pu q
def tSl (r:V->Option Int->Option Int->Hp->VK->Prop)(te:TE)(tl th:TO):TE:=λσ H Q=>te σ H λx H1=>tl σ H1 λl H2=>th σ H2 λu H3=>r x l u H3 Q
def aHH {e:ut}{te:TE}{lo hi:Option ut}{tl th:TO}{pos p2:Pos}{r:V->Option Int->Option Int->Hp->VK->Prop}(hr:SlR X r)(he:PE X e te)(hl:PO X lo tl)(hu:PO X hi th):PE X (.Subscript e (.Slice lo hi none p2) pos) (tSl r te tl th):=by
 intro pins s σ H Q I h;refine Bz (thn (he pins s σ H _ I h) λv s1 ⟨x,H1,I1,r1,q1⟩=>?_);refine BZ (thn (hl pins s1 σ H1 _ I1 q1) λvl s2 ⟨l,H2,I2,pl,q2⟩=>thn (hu pins s2 σ H2 _ I2 q2) λvu s3 ⟨u,H3,I3,pu,q3⟩=>?_);rw[ym];refine ao ?_;have I4:Inv X pins σ H3 {s3 with heap:=s3.heap.push {cls:=.type "slice",data:=.fields #[vl,vu,.none]}}:=I3.kept (t':=s3.toks) λb ob q=>aj _ q;obtain⟨T,id,hT,ht,hg⟩:=hr pins {s3 with heap:=s3.heap.push {cls:=.type "slice",data:=.fields #[vl,vu,.none]}} σ H3 x v vl vu l u s3.heap.objs.size Q I4 r1 (wg ..) pl pu q3;show v4 (v6 X.prog X.w) X.A (yn e (.Slice lo hi none p2) v (.ref s3.heap.objs.size)) (EP X pins σ Q) X.xe {s3 with heap:=s3.heap.push {cls:=.type "slice",data:=.fields #[vl,vu,.none]}};exact tail_any (ops:=[.ref s3.heap.objs.size,v]) ht hT hg (by with_unfolding_all rfl)
def eK (xs:List V)(lo hi:Option Int):List V:=(xs.drop (HT.sIx xs.length 0 lo)).take (HT.sIx xs.length xs.length hi-HT.sIx xs.length 0 lo)
def kR (xs:List V)(lo hi:Option Int):(eK xs lo hi).length<=xs.length:=by
 unfold eK;rw[dj,ip];lia
def aRS (K:aa):V->Option Int->Option Int->Hp->VK->Prop:=λx lo hi H Q=>∃a xs,x=.ref a/\SqT K H a xs /\
 ¬(HT.sIx xs.length 0 lo=0/\HT.sIx xs.length xs.length hi=xs.length)/\∀p,H p=none->Q (.ref p) (upd H p (.tup (eK xs lo hi)))
def aNS:SlR X (aRS X.K):=by
 intro pins s σ H x v vl vu lo hi sl Q I rx hs pl pu h;obtain⟨a,xs,rfl,hx,hw,q⟩:=h;cases rx;obtain⟨its,r,ht,hz⟩:=I.tuple hx;have hlen:its.toArray.size=xs.length:=by rw[ay];exact r.length.symm
 refine⟨"tuple",_,fq.lookup,ht.typeIs,?_⟩;refine HT.getItem_tuple_cut ht hs pl pu (by rw[hlen];exact hw) ?_ (by rw[hlen];exact hz);rw[hlen];refine⟨.ref s.heap.objs.size,_,I.laid (t':=s.toks) (o:=.tup (eK xs lo hi)) (λb ob q=>aj _ q) (ar _) ?_,rfl,q _ (I.hok.fresh (ar _))⟩;exact⟨bo (kR xs lo hi) hz,_,(r.drop (HT.sIx xs.length 0 lo)).take (HT.sIx xs.length xs.length hi-HT.sIx xs.length 0 lo),TupN.new _ _⟩
def aOI (K:aa):R2:=λx y H Q=>∃a b ns ms,x=.ref a/\y=.ref b/\SqT K H a (ns.map V.int)/\SqT K H b (ms.map V.int)/\Q (.bl (HT.lexLt ns ms)) H
def aMQ (hu:X.A.units<cLine):OpR X (iw .Lt) (aOI X.K):=by
 intro pins s σ H x y v u Q I rx ry h;obtain⟨a,b,ns,ms,rfl,rfl,ha,hb,q⟩:=h;cases rx;cases ry;obtain⟨its,r1,p1,_⟩:=I.tuple ha;obtain⟨its2,r2,p2,_⟩:=I.tuple hb;have i1:IntsAre its.toArray.toList ns:=dD r1;have i2:IntsAre its2.toArray.toList ms:=dD r2;exact HT.lt_tupInts p1 p2 i1 i2 hu ⟨.bl (HT.lexLt ns ms),H,I,rfl,q⟩
def aQz (K:aa):R2:=λx y H Q=>∃a b xs ys,x=.ref a/\y=.ref b/\SqT K H a xs/\SqT K H b ys/\xs≠[]/\xs.length+ys.length<=cm /\
 (ys=[]->Q (.ref a) H)/\(ys≠[]->∀p,H p=none->Q (.ref p) (upd H p (.tup (xs++ys))))
def Vals.nil_iff (r:Vals xs us):us=[]↔xs=[]:=by
 cases r with
 |nil=>simp
 |cons _ _=>simp
def aLj:OpR X (mh .Add) (aQz X.K):=by
 intro pins s σ H x y v u Q I rx ry h;obtain⟨a,b,xs,ys,rfl,rfl,ha,hb,hx,hz,q1,q2⟩:=h;cases rx;cases ry;obtain⟨its,r1,p1,_⟩:=I.tuple ha;obtain⟨its2,r2,p2,_⟩:=I.tuple hb;refine HT.cat_tup p1 p2 (λz=>hx (r1.nil_iff.mp z)) (λz=>⟨.ref a,H,I,rfl,q1 (r2.nil_iff.mp z)⟩) (λz=>?_) (by rw[<- r1.length,<- r2.length];exact hz);refine⟨.ref s.heap.objs.size,_,I.laid (t':=s.toks) (o:=.tup (xs++ys)) (λb ob q=>aj _ q) (ar _) ?_,rfl,q2 (λw=>z (r2.nil_iff.mpr w)) _ (I.hok.fresh (ar _))⟩;exact⟨by rw[aq];exact hz,_,r1.append r2,TupN.new _ _⟩
def ixN (n:Nat)(i:Int):Option Nat:=if 0<=i then(if i<n then some i.toNat else none) else if -(n:Int)<=i then some (i+n).toNat else none
def atI {α:Type}(xs:List α)(i:Int):Option α:=(ixN xs.length i).bind λj=>xs[j]?
def aHk (h:ixN n i=some j):Bk i n=some j/\j<n/\-(n:Int)<=i/\i<n:=by
 unfold ixN at h;by_cases h0:0<=i
 ·rw[C5 h0] at h;by_cases h1:i<n
  ·rw[C5 h1] at h;have e:i.toNat=j:=cf h;exact⟨by rw[B1 h0 h1,e],by lia,by lia,h1⟩
  ·rw[C4 h1] at h;cases h
 ·rw[C4 h0] at h;by_cases h1:-(n:Int)<=i
  ·rw[C5 h1] at h;have e:(i+n).toNat=j:=cf h;exact⟨by rw[BJ (by lia) h1,e],by lia,h1,by lia⟩
  ·rw[C4 h1] at h;cases h
def aGn (h:atI xs i=some v):∃j,Bk i xs.length=some j/\xs[j]?=some v/\j<xs.length/\-(xs.length:Int)<=i/\i<xs.length:=by
 unfold atI at h;cases e:ixN xs.length i with
 |none=>rw[e] at h;cases h
 |some j=>
  rw[e] at h;obtain⟨h1,h2,h3,h4⟩:=aHk e;exact⟨j,h1,h,h2,h3,h4⟩
def aGk {α:Type}{xs:List α}{j:Nat}{v:α}(h:xs[j]?=some v):atI xs (j:Int)=some v:=by
 have hj:j<xs.length:=(ai.mp h).1;have e:ixN xs.length (j:Int)=some j:=by
  unfold ixN;rw[C5 (by lia),C5 (by lia)];simp
 unfold atI;rw[e];exact h
def aKY (b:ut):Prop:=∀o i,subscripted b false o i=operate [o,i] (Ag o i)
def IxR (X:Cx)(r:R2):Prop:=
 ∀(value slice:ut) (pins:List (ww×Obj)) (s:wv) (σ:St) (H:Hp) (x y:V) (v u:wn) (Q:VK),Inv X pins σ H s->RelV x v->RelV y u->r x y H Q ->
  subscripted slice false v u=operate [v,u] (Ag v u)->v4 (v6 X.prog X.w) X.A (yn value slice v u) (EP X pins σ Q) X.xe s
def MtR (X:Cx)(id:String)(r:V->List V->Hp->VK->Prop):Prop:=
 ∀(pins:List (ww×Obj)) (s:wv) (σ:St) (H:Hp) (x:V) (xs:List V) (v:wn) (us:List wn) (Q:VK),Inv X pins σ H s->RelV x v->Vals xs us->r x xs H Q ->
  v4 (v6 X.prog X.w) X.A (call (.builtin id) (v::us)) (EP X pins σ Q) X.xe s
def IxR.or (h:IxR X r)(h':IxR X r'):IxR X (λx y H Q=>r x y H Q\/r' x y H Q):=by
 intro value slice pins s σ H x y v u Q I rx ry q hs;rcases q with q|q
 ·exact h value slice pins s σ H x y v u Q I rx ry q hs
 ·exact h' value slice pins s σ H x y v u Q I rx ry q hs
def gU (hr:IxR X r)(ha:PE X a ta)(hb:PE X b tb)(hs:aKY b):PE X (.Subscript a b pos) (tOp r ta tb):=by
 intro pins s σ H Q I h;exact Bz (aPZ ha hb I h λv u s2 x y H2 I2 rx ry q=>hr a b pins s2 σ H2 x y v u Q I2 rx ry q (hs _ _))
def aOM (K:aa):R2:=λx y H Q=>∃p xs i v,x=.ref p/\y=.int i/\SqL K H p xs/\atI xs i=some v/\Q v H
def aOL (K:aa):R2:=λx y H Q=>∃p xs i v,x=.ref p/\y=.int i/\SqT K H p xs/\atI xs i=some v/\Q v H
def aLq:IxR X (aOM X.K):=by
 intro value slice pins s σ H x y v u Q I rx ry h hs;obtain⟨p,xs,i,z,rfl,rfl,hq,he,q⟩:=h;cases rx;obtain⟨t,rfl⟩:=ry;obtain⟨its,r,pl,hz⟩:=I.list hq;obtain⟨j,h1,h2,h3,h4,h5⟩:=aGn he;obtain⟨w,ew,rw'⟩:=r.get h2;have hl:=r.length;have hn:=aDa;have fin:EP X pins σ Q w s:=⟨z,H,I,rw',q⟩;by_cases h0:0<=i
 ·have hj:i.toNat=j:=by
   rw[B1 h0 h5] at h1;exact cf h1
  exact item_listR pl.isList h0 (by lia) (by rw[hj];simpa using ew) fin hs
 ·have hj:(i+(its.toArray.size:Int)).toNat=j:=by
   rw[BJ (by lia) h4] at h1;rw[ay,<- hl];exact cf h1
  exact zu (x:=w) pl.isList.typeIs slot_list_getitem.lookup
   (wpAny_getItem_list_neg (Q:=λr s'=>r=w/\EP X pins σ Q r s') pl.isList (by lia) (by rw[ay]<;>lia) (by lia) (by rw[hj];simpa using ew) ⟨rfl,fin⟩) hs
def aOs:IxR X (aOL X.K):=by
 intro value slice pins s σ H x y v u Q I rx ry h hs;obtain⟨p,xs,i,z,rfl,rfl,hq,he,q⟩:=h;cases rx;obtain⟨t,rfl⟩:=ry;obtain⟨its,r,pl,hz⟩:=I.tuple hq;obtain⟨j,h1,h2,h3,h4,h5⟩:=aGn he;obtain⟨w,ew,rw'⟩:=r.get h2;have hl:=r.length;have hn:=aDa;have fin:EP X pins σ Q w s:=⟨z,H,I,rw',q⟩;exact zu (x:=w) pl.typeIs slot_tuple_getitem.lookup
  (getItem_tuple (j:=j) (Q:=λr s'=>r=w/\EP X pins σ Q r s') pl (by lia) (by lia) (by rw[ay,<- hl];exact h1) (by simpa using ew) ⟨rfl,fin⟩) hs
def aEn (its:List wn)(n j:Nat)(u:wn):j4 (·.setIfInBounds j u) {cls:=.type "list",data:=.seq its.toArray n}={cls:=.type "list",data:=.seq (its.set j u).toArray n}:=by
 simp[j4]
def Inv.lst {pins:List (ww×Obj)}{σ:St}{H:Hp}{s:wv}{p:ww}{xs:List V}(I:Inv X pins σ H s)(h:H p=some (.lst xs)):
  ∃(its:List wn) (n:Nat),Vals xs its/\s.heap.get? p=some {cls:=.type "list",data:=.seq its.toArray n}/\xs.length<=cm:=by
 obtain⟨z,its,n,r,e⟩:=I.hok p _ h;exact⟨its,n,r,e,z⟩
def Inv.lstUpd {pins:List (ww×Obj)}{σ:St}{H:Hp}{s:wv}{p:ww}{xs ys:List V}{its its':List wn}{n n':Nat}{f:Obj->Obj}(I:Inv X pins σ H s)(h:H p=some (.lst xs))(ho:s.heap.get? p=some {cls:=.type "list",data:=.seq its.toArray n})(hf:f {cls:=.type "list",data:=.seq its.toArray n}={cls:=.type "list",data:=.seq its'.toArray n'})(r:Vals ys its')(hz:ys.length<=cm)(t:Nat):
  Inv X pins σ (upd H p (.lst ys)) {s with heap:=s.heap.update p f,toks:=t}:=by
 have e:(s.heap.update p f).get? p=some {cls:=.type "list",data:=.seq its'.toArray n'}:=by
  rw[iy f ho (by rw[hf]<;>rfl),hf]
 refine I.write (x:=p) (e:=p) (by rw[h];trivial) (.inl rfl) (λb u hb q=>(lx _ _ (gf hb)).trans q) ⟨_,e⟩ ?_;exact⟨hz,its',n',r,e⟩
def dO:V->V->V->Hp->(Hp->Prop)->Prop:=λo i v H Q=>∃p xs k j,o=.ref p/\i=.int k/\H p=some (.lst xs)/\ixN xs.length k=some j/\Q (upd H p (.lst (xs.set j v)))
def aDB:aRp X dO:=by
 intro pins s σ H o i v ov iv u Q I ro ri rv h;obtain⟨p,xs,k,j,rfl,rfl,hp,hj,q⟩:=h;cases ro;obtain⟨t,rfl⟩:=ri;obtain⟨its,n,r,ho,hz⟩:=I.lst hp;obtain⟨h1,h2,h3,h4⟩:=aHk hj;have hl:=r.length;have hn:=aDa;have I':Inv X pins σ (upd H p (.lst (xs.set j v))) {s with heap:=s.heap.update p (j4 (·.setIfInBounds j u))}:=
  I.lstUpd hp ho (aEn its n j u) (r.set rv j) (by rw[dw];exact hz) s.toks
 by_cases h0:0<=k
 ·have hk:k.toNat=j:=by
   rw[B1 h0 h4] at h1;exact cf h1
  exact PySem.W.ki_setAt ho h0 (by lia) (by rw[ay,<- hl];exact h4) (by rw[hk];exact⟨_,I',q⟩)
 ·have hk:(k+(its.toArray.size:Int)).toNat=j:=by
   rw[BJ (by lia) h3] at h1;rw[ay,<- hl];exact cf h1
  exact PySem.W.ki_setBack ho (by lia) (by rw[ay,<- hl];exact h3) (by lia) (by rw[hk];exact⟨_,I',q⟩)
def aAF (lo hi:Option Int)(n:Nat):(tw lo hi none n).1=((HT.sIx n 0 lo:Nat):Int)/\(tw lo hi none n).2.1=((HT.sIx n n hi:Nat):Int)/\(tw lo hi none n).2.2=1:=by
 refine⟨?_,?_,rfl⟩
 ·cases lo with
  |none=>simp[tw,HT.sIx]
  |some i=>
   simp only[tw,HT.sIx,Option.getD_none,show(1:Int) > 0 by decide,if_true];by_cases h:i<0
   ·simp only[h,if_true]<;>lia
   ·simp only[h,if_false]<;>lia
 ·cases hi with
  |none=>simp[tw,HT.sIx]
  |some i=>
   simp only[tw,HT.sIx,Option.getD_none,show(1:Int) > 0 by decide,if_true];by_cases h:i<0
   ·simp only[h,if_true]<;>lia
   ·simp only[h,if_false]<;>lia
def yO (its:List wn)(lo hi:Option Int):slicePick its.toArray lo hi none=((its.drop (HT.sIx its.length 0 lo)).take (HT.sIx its.length its.length hi-HT.sIx its.length 0 lo)).toArray:=by
 obtain⟨h1,h2,h3⟩:=aAF lo hi its.toArray.size;unfold slicePick;rw[h1,h2,h3];simp only[sliceRange_one,pick_run,ay]<;>rfl
def aQT (K:aa):V->Option Int->Option Int->Hp->VK->Prop:=λx lo hi H Q=>∃a xs,x=.ref a/\SqL K H a xs/\∀p,H p=none->Q (.ref p) (upd H p (.lst (eK xs lo hi)))
def aLK:SlR X (aQT X.K):=by
 intro pins s σ H x v vl vu lo hi sl Q I rx hs pl pu h;obtain⟨a,xs,rfl,hx,q⟩:=h;cases rx;obtain⟨its,r,ht,hz⟩:=I.list hx;have hlen:=r.length;refine⟨"list",_,slot_list_getitem.lookup,ht.isList.typeIs,?_⟩;refine xo ht.isList hs pl pu .none (by simp) ?_ (by rw[ay]<;>lia);rw[yO,<- hlen];refine⟨.ref s.heap.objs.size,_,I.laid (t':=s.toks) (o:=.lst (eK xs lo hi)) (λb ob q=>aj _ q) (ar _) ?_,rfl,q _ (I.hok.fresh (ar _))⟩;exact⟨bo (kR xs lo hi) hz,_,0,(r.drop (HT.sIx xs.length 0 lo)).take (HT.sIx xs.length xs.length hi-HT.sIx xs.length 0 lo),bg _ rfl⟩
def yT:V->Bool
 |.non=>true
 |.bl _=>true
 |.int _=>true
 |.str _=>true
 |_=>false
def eqV:V->V->Bool
 |.non,.non=>true
 |.bl a,.bl b=>a==b
 |.bl a,.int b=>(if a then 1 else 0)==b
 |.int a,.bl b=>a==(if b then 1 else 0)
 |.int a,.int b=>a==b
 |.str a,.str b=>a==b
 |_,_=>false
def aOr (ry:RelV y u)(rx:RelV x v)(fy:yT y=true)(fx:yT x=true):ig A s u v (eqV y x):=by
 cases y with
 |non=>
  cases ry;cases x with
  |non=>cases rx;exact SeqAt.EqAt.same _
  |bl b=>cases rx;exact SeqAt.EqAt.none_bool b
  |int b=>obtain⟨t,rfl⟩:=rx;exact SeqAt.EqAt.none_int b t
  |str b=>obtain⟨t,rfl⟩:=rx;exact SeqAt.EqAt.none_str b t
  |_=>exact absurd (show false=true from fx) cy
 |bl a=>
  cases ry;cases x with
  |non=>cases rx;exact SeqAt.EqAt.bool_none a
  |bl b=>cases rx;exact SeqAt.EqAt.bool_bool a b
  |int b=>obtain⟨t,rfl⟩:=rx;exact SeqAt.EqAt.bool_int a b t
  |str b=>obtain⟨t,rfl⟩:=rx;exact SeqAt.EqAt.bool_str a b t
  |_=>exact absurd (show false=true from fx) cy
 |int a=>
  obtain⟨t',rfl⟩:=ry;cases x with
  |non=>cases rx;exact SeqAt.EqAt.int_none a t'
  |bl b=>cases rx;exact SeqAt.EqAt.int_bool a t' b
  |int b=>obtain⟨t,rfl⟩:=rx;exact v9 a t' b t
  |str b=>obtain⟨t,rfl⟩:=rx;exact SeqAt.EqAt.int_str a t' b t
  |_=>exact absurd (show false=true from fx) cy
 |str a=>
  obtain⟨t',rfl⟩:=ry;cases x with
  |non=>cases rx;exact SeqAt.EqAt.str_none a t'
  |bl b=>cases rx;exact SeqAt.EqAt.str_bool a t' b
  |int b=>obtain⟨t,rfl⟩:=rx;exact SeqAt.EqAt.str_int a t' b t
  |str b=>obtain⟨t,rfl⟩:=rx;exact SeqAt.EqAt.str_str a t' b t
  |_=>exact absurd (show false=true from fx) cy
 |_=>exact absurd (show false=true from fy) cy
def eqU (x:V)(u:wn):Bool:=match u with
 |.none=>eqV .non x
 |.bool b=>eqV (.bl b) x
 |.int i _=>eqV (.int i) x
 |.str z _=>eqV (.str z) x
 |_=>false
def aJu (r:RelV y u)(f:yT y=true):eqU x u=eqV y x:=by
 cases y with
 |non=>cases r;rfl
 |bl b=>cases r;rfl
 |int i=>obtain⟨t,rfl⟩:=r;rfl
 |str z=>obtain⟨t,rfl⟩:=r;rfl
 |_=>exact absurd (show false=true from f) cy
theorem sP:∀{xs:List V}{us:List wn},Vals xs us->xs.all yT=true->us.any (eqU x)=xs.any λy=>eqV y x
 |_,_,.nil,_=>rfl
 |y::xs,u::us,.cons r t,f=>by
  rw[pf,cz] at f;rw[yo,yo,aJu r f.1,sP t f.2]
theorem lN (rx:RelV x v)(fx:yT x=true):∀{xs:List V}{us:List wn},Vals xs us->xs.all yT=true->∀u∈us,ig A s u v (eqU x u)
 |_,_,.nil,_=>λu hu=>by cases hu
 |y::xs,u::us,.cons r t,f=>λu' hu=>by
  rw[pf,cz] at f;rcases b8.mp hu with rfl|hu
  ·rw[aJu r f.1];exact aOr r rx f.1 fx
  ·exact lN rx fx t f.2 u' hu
def inV (x:V)(xs:List V):Bool:=xs.any λy=>eqV y x
def rIn (K:aa)(neg:Bool):R2:=λx y H Q=>∃p xs,y=.ref p/\(SqL K H p xs\/SqT K H p xs)/\yT x=true/\xs.all yT=true/\Q (.bl (if neg then !inV x xs else inV x xs)) H
def aFF:OpR X (iw .In) (rIn X.K false):=by
 intro pins s σ H x y v u Q I rx ry h;obtain⟨p,xs,rfl,hq,fx,fs,q⟩:=h;cases ry;rcases hq with hq|hq
 ·obtain⟨its,r,pl,hz⟩:=I.list hq;refine SeqAt.in_listAt (eqU x) pl.isList (λw hw=>lN rx fx r fs w (by simpa using hw)) ⟨.bl _,H,I,rfl,?_⟩;rw[show its.toArray.any (eqU x)=its.any (eqU x) by simp,sP r fs];exact q
 ·obtain⟨its,r,pl,hz⟩:=I.tuple hq;refine SeqAt.in_tupleAt (eqU x) pl (λw hw=>lN rx fx r fs w (by simpa using hw)) ⟨.bl _,H,I,rfl,?_⟩;rw[show its.toArray.any (eqU x)=its.any (eqU x) by simp,sP r fs];exact q
def pQ:OpR X (iw .NotIn) (rIn X.K true):=by
 intro pins s σ H x y v u Q I rx ry h;obtain⟨p,xs,rfl,hq,fx,fs,q⟩:=h;cases ry;rcases hq with hq|hq
 ·obtain⟨its,r,pl,hz⟩:=I.list hq;refine SeqAt.notIn_listAt (eqU x) pl.isList (λw hw=>lN rx fx r fs w (by simpa using hw)) ⟨.bl _,H,I,rfl,?_⟩;rw[show its.toArray.any (eqU x)=its.any (eqU x) by simp,sP r fs];exact q
 ·obtain⟨its,r,pl,hz⟩:=I.tuple hq;refine AZ (eqU x) pl (λw hw=>lN rx fx r fs w (by simpa using hw)) ⟨.bl _,H,I,rfl,?_⟩;rw[show its.toArray.any (eqU x)=its.any (eqU x) by simp,sP r fs];exact q
def aAL:CallR X (.builtin "len") (λxs H Q=>∃p ys,xs=[.ref p]/\(SqL X.K H p ys\/SqT X.K H p ys)/\Q (.int ys.length) H):=by
 intro pins s σ H xs us Q I r h;obtain⟨p,ys,rfl,hq,q⟩:=h;obtain⟨u,rfl,rx⟩:=aAv r;cases rx;have hn:=aDa;rcases hq with hq|hq
 ·obtain⟨its,r',pl,hz⟩:=I.list hq;have hlen:=r'.length;exact Calls.call_len_list pl.isList (by simp only[ay]<;>lia) ⟨.int ys.length,H,I.tok _,⟨s.toks+1,by rw[ay,hlen]⟩,q⟩
 ·obtain⟨its,r',pl,hz⟩:=I.tuple hq;have hlen:=r'.length;exact len_tuple pl (by simp only[ay]<;>lia) ⟨.int ys.length,H,I.tok _,⟨s.toks+1,by rw[ay,hlen]⟩,q⟩
def CallR.or (h:CallR X f r)(h':CallR X f r'):CallR X f (λxs H Q=>r xs H Q\/r' xs H Q):=by
 intro pins s σ H xs us Q I rs q;rcases q with q|q
 ·exact h pins s σ H xs us Q I rs q
 ·exact h' pins s σ H xs us Q I rs q
def aAM:CallR X (.type "list") (λxs H Q=>∃p ys,xs=[.ref p]/\(SqL X.K H p ys\/SqT X.K H p ys)/\∀l,H l=none->Q (.ref l) (upd H l (.lst ys))):=by
 intro pins s σ H xs us Q I r h;obtain⟨p,ys,rfl,hq,q⟩:=h;obtain⟨u,rfl,rx⟩:=aAv r;cases rx;have fin:∀(its:List wn),Vals ys its->ys.length<=cm->∀(h':jp) (c':Nat),(∀b o',s.heap.get? b=some o'->h'.get? b=some o') ->
   h'.get? s.heap.objs.size=some {cls:=.type "list",dict:=none,data:=.seq its.toArray c',slots:=#[]}->EP X pins σ Q (.ref s.heap.objs.size) {s with heap:=h'}:=λits r' hz h' c' kp e=>
  ⟨.ref s.heap.objs.size,_,I.laid (t':=s.toks) kp (ar _) (show ObjOk X.prog X.w _ h' _ (.lst ys) from⟨hz,its,c',r',e⟩),rfl,q _ (I.hok.fresh (ar _))⟩
 rcases hq with hq|hq
 ·obtain⟨its,r',pl,hz⟩:=I.list hq;have hlen:=r'.length;obtain⟨o,ho,hc,n,hd⟩:=pl.isList;exact call_list_seq p (.inl rfl) ho hc hd (λh' c' kp e=>fin its r' hz h' c' kp e) (by simp only[ay]<;>lia)
 ·obtain⟨its,r',pl,hz⟩:=I.tuple hq;have hlen:=r'.length;obtain⟨o,ho,hc,n,hd⟩:=pl;exact call_list_seq p (.inr rfl) ho hc hd (λh' c' kp e=>fin its r' hz h' c' kp e) (by simp only[ay]<;>lia)
def zH:CallR X (.type "tuple") (λxs H Q=>∃p ys,xs=[.ref p]/\((SqL X.K H p ys/\∀l,H l=none->Q (.ref l) (upd H l (.tup ys)))\/(SqT X.K H p ys/\Q (.ref p) H))):=by
 intro pins s σ H xs us Q I r h;obtain⟨p,ys,rfl,h⟩:=h;obtain⟨u,rfl,rx⟩:=aAv r;cases rx;rcases h with⟨hq,q⟩|⟨hq,q⟩
 ·obtain⟨its,r',pl,hz⟩:=I.list hq;have hlen:=r'.length;refine call_tuple_list pl.isList (λh' kp=>?_) (by simp only[ay]<;>lia);have I1:Inv X pins σ H {s with heap:=h'}:=I.kept (t':=s.toks) kp;have I2:Inv X pins σ (upd H h'.objs.size (.tup ys)) {s with heap:=h'.push {cls:=.type "tuple",data:=.seq its.toArray}}:=
   I1.laid (t':=s.toks) (λb o e=>aj _ e) (ar _) (show ObjOk X.prog X.w _ _ _ (.tup ys) from⟨hz,its,r',TupN.new _ _⟩)
  exact⟨.ref h'.objs.size,_,I2,rfl,q _ (I1.hok.fresh (ar _))⟩
 ·obtain⟨its,r',pl,hz⟩:=I.tuple hq;exact call_tuple_same pl ⟨.ref p,H,I,rfl,q⟩
def tyV (K:aa)(T:String)(x:V)(H:Hp):Prop:=match x with
 |.str _=>T="str"
 |.int _=>T="int"
 |.ref p=>(T="list"/\∃xs,SqL K H p xs)\/(T="tuple"/\∃o,K.lookup p=some o/\o.cls=.type "tuple"/\o.dict=none) \/
   (T="dict"/\((∃kvs,H p=some (.dK kvs))\/∃kvs,H p=some (.dT kvs)))\/(T="set"/\∃S n,H p=some (.set S n))
 |_=>False
def aMS {pins:List (ww×Obj)}{σ:St}{H:Hp}{s:wv}{T:String}{x:V}{v:wn}(I:Inv X pins σ H s)(r:RelV x v)(ty:tyV X.K T x H):
  s.TypeIs v T/\∀a,v=.ref a->∃ob,s.heap.get? a=some ob/\ob.dict=none:=by
 cases x with
 |str z=>
  obtain⟨t,rfl⟩:=r;cases (show T="str" from ty);exact⟨typeIs_str s z t,λ_ e=>nomatch e⟩
 |int i=>
  obtain⟨t,rfl⟩:=r;cases (show T="int" from ty);exact⟨typeIs_int s i t,λ_ e=>nomatch e⟩
 |ref p=>
  cases r;rcases ty with⟨rfl,xs,hq⟩|⟨rfl,o,hk,hc,hd⟩|⟨rfl,hk⟩|⟨rfl,S,n,hk⟩
  ·obtain⟨its,_,pl,_⟩:=I.list hq;refine⟨pl.isList.typeIs,λa e=>?_⟩;cases e;obtain⟨o,n,e,c,hd,_⟩:=pl;exact⟨o,e,hd⟩
  ·refine⟨⟨o,I.kIn p o hk,hc⟩,λa e=>?_⟩;cases e;exact⟨o,I.kIn _ o hk,hd⟩
  ·have z:∃o,s.heap.get? p=some o/\o.ExactDict:=by
    rcases hk with⟨kvs,hk⟩|⟨kvs,hk⟩
    ·obtain⟨_,_,_,_,o,_,_,e,ex,_⟩:=I.hok p _ hk;exact⟨o,e,ex⟩
    ·obtain⟨_,_,_,_,o,_,_,e,ex,_⟩:=I.hok p _ hk;exact⟨o,e,ex⟩
   obtain⟨o,e,ex⟩:=z;refine⟨⟨o,e,ex.1⟩,λa e2=>?_⟩;cases e2;exact⟨o,e,ex.2.1⟩
  ·obtain⟨o,_,_,_,e,ex,_⟩:=I.hok p _ hk;refine⟨⟨o,e,ex.1⟩,λa e2=>?_⟩;cases e2;exact⟨o,e,ex.2.1⟩
 |_=>exact mz ty
def tBM (K:aa)(T:String)(r:V->List V->Hp->VK->Prop)(to:TE)(t:TA):TE:=λσ H Q=>to σ H λx H1=>tyV K T x H1/\t σ H1 λxs H2=>r x xs H2 Q
def aPG {o e: ut}{es: List ut}{to: TE}{t: TA}{name: u8}{apos cpos: Pos}{T id: String}{r: V->List V->Hp->VK->Prop}(pa:PlainAttrs T)(slot:Slot T name id)(hty:typeOf (.builtin id)=pure (.type "method_descriptor"))(hm:MtR X id r)(ho:PE X o to)(ha:PA X (e :: es) t)(hbase:attributeBase o name X.env (eval o X.env)=eval o X.env:=by rfl)(hfew:((vc cpos (fv (e :: es) X.env)).all (λx=>!x.1) && (backToKw cpos (keywordEach [] X.env)).all (λx=>x.1.isSome)
   && decide ((e::es).length+([]:List Keyword).length+(if([]:List Keyword).isEmpty then 0 else 1)<30))=true:=by rfl)(hline:(apos.endLine==cpos.line)=true:=by rfl)(hs:fv (e::es) X.env=(false,eval e X.env)::fv es X.env:=by rfl)(hplain:(vc cpos (fv es X.env)).any (·.1)=false:=by rfl):
  PE X (.Call (.Attribute o name apos) (e::es) [] cpos) (tBM X.K T r to t):=by
 intro pins s σ H Q I h;refine wpAny_Call_method_late hbase hfew hline rfl (thn (ho pins s σ H _ I h) λv s1 ⟨x,H1,I1,r1,ty,q1⟩=>?_);obtain⟨h1,h2⟩:=aMS I1 r1 ty;refine⟨T,id,pa,slot,hty,h1,h2,?_⟩;have hA:=ha cpos pins s1 σ H1 _ I1 q1;rw[hs] at hA ⊢;refine Calls.callWith_builtin (by show(false||(vc cpos (fv es X.env)).any (·.1))=false;rw[hplain]<;>rfl) (AH ?_)
 exact thn hA λus s2 ⟨vs,H2,I2,r2,q2⟩=>hm pins s2 σ H2 x vs v us Q I2 r1 r2 q2
def MtM (X:Cx)(id:String)(r:V->List V->Hp->VK->Prop):Prop:=
 ∀(pins:List (ww×Obj)) (s:wv) (σ:St) (H:Hp) (x:V) (xs:List V) (v:wn) (us:List wn) (Q:VK),Inv X pins σ H s->RelV x v->Vals xs us->r x xs H Q ->
  v4 (v6 X.prog X.w) X.A (call (.builtin id) (v::us)) (EP X pins σ Q) X.xe s
def Vals.one:∀{x:V}{us:List wn},Vals [x] us->∃u,us=[u]/\RelV x u:=by intro x us h;cases h with|cons r t=>cases t;exact⟨_,rfl,r⟩
def Vals.two:∀{x y:V}{us:List wn},Vals [x,y] us->∃u v,us=[u,v]/\RelV x u/\RelV y v:=by intro x y us h;cases h with|cons r t=>cases t with|cons q t=>cases t;exact⟨_,_,rfl,r,q⟩
theorem Vals.eraseIdx:∀{xs:List V}{us:List wn} (i:Nat),Vals xs us->Vals (xs.eraseIdx i) (us.eraseIdx i)
 |_,_,_,.nil=>.nil
 |_,_,0,.cons _ t=>t
 |_,_,i+1,.cons r t=>.cons r (Vals.eraseIdx i t)
theorem Vals.rep (h:Vals xs us):∀k:Nat,Vals (dr k xs).flatten (dr k us).flatten
 |0=>.nil
 |k+1=>by
  rw[nk,nk,tx,tx];exact Vals.append h (Vals.rep h k)
theorem aAC {α:Type}:∀(l:List α) (i:Nat),(l.eraseIdx i).length<=l.length
 |[],_=>ar _
 |_::_,0=>vh _
 |_::r,i+1=>Nat.succ_le_succ (aAC r i)
theorem aAJ (its:List wn):∀(k:Nat) (acc:List wn),
  List.foldl (λx1 x2=>x1++x2) acc.toArray (dr k its.toArray)=(acc++(dr k its).flatten).toArray
 |0,acc=>by simp
 |k+1,acc=>by
  have e:acc.toArray++its.toArray=(acc++its).toArray:=by simp
  have e2:(acc++its)++(dr k its).flatten=acc++(dr (k+1) its).flatten:=by
   rw[nk,tx,gx]
  rw[<- e2,<- aAJ its k (acc++its),<- e,nk,List.foldl_cons]
def Inv.lset {pins:List (ww×Obj)}{σ:St}{H:Hp}{s:wv}{l:ww}{xs ys:List V}{its its':List wn}{n:Nat}{f:Array wn->Array wn}{t':Nat}(I:Inv X pins σ H s)(hH:H l=some (.lst xs))(e:s.heap.get? l=some {cls:=.type "list",data:=.seq its.toArray n})(hf:f its.toArray=its'.toArray)(hv:Vals ys its')(hz:ys.length<=cm):
  Inv X pins σ (upd H l (.lst ys)) {s with heap:=s.heap.update l (j4 f),toks:=t'}:=by
 have q:=PySem.IsL.update e f;rw[hf] at q;refine I.write (x:=l) (e:=l) (by rw[hH];exact trivial) (.inl rfl) (λb' u hb hu=>(lx s.heap (j4 f) (gf hb)).trans hu) ⟨_,q⟩ ?_;exact⟨hz,its',_,hv,q⟩
def Inv.lnew {pins:List (ww×Obj)}{σ:St}{H:Hp}{s:wv}{ys:List V}{its:List wn}{t':Nat}(I:Inv X pins σ H s)(hv:Vals ys its)(hz:ys.length<=cm):
  Inv X pins σ (upd H s.heap.objs.size (.lst ys)) {s with heap:=s.heap.push {cls:=.type "list",data:=.seq its.toArray},toks:=t'}:=
 I.laid (λ_ _ q=>aj _ q) (ar _) ⟨hz,its,0,hv,bg _ rfl⟩
def Inv.fresh {pins:List (ww×Obj)}{σ:St}{H:Hp}{s:wv}(I:Inv X pins σ H s):H s.heap.objs.size=none:=I.hok.fresh (ar _)
def Inv.lstM {pins:List (ww×Obj)}{σ:St}{H:Hp}{s:wv}{l:ww}{xs:List V}(I:Inv X pins σ H s)(hH:H l=some (.lst xs)):xs.length<=cm/\∃(its:List wn) (n:Nat),Vals xs its/\xs.length=its.length/\s.heap.get? l=some {cls:=.type "list",data:=.seq its.toArray n}:=by
 obtain⟨z,its,n,r,e⟩:=I.hok l _ hH;exact⟨z,its,n,r,r.length,e⟩
def aHK (h:n<=cm):q9 n=false:=by
 unfold q9;exact Au (by lia)
def bY:V->List V->Hp->VK->Prop:=λx vs H Q=>∃l xs y,x=.ref l/\vs=[y]/\H l=some (.lst xs)/\xs.length<cm/\Q .non (upd H l (.lst (xs++[y])))
def iM:MtM X "list.append" bY:=by
 intro pins s σ H x vs v us Q I rx rv h;obtain⟨l,xs,y,rfl,rfl,hH,hz,q⟩:=h;cases rx;obtain⟨u,rfl,ru⟩:=rv.one;obtain⟨z,its,n,r,hl,e⟩:=I.lstM hH;refine BA F.slot_list_append ⟨_,e,rfl⟩ F.entry_list_append (F.args_list_append_2 _ _) (PySem.list_append l its.toArray n u (by rw[ay];lia)) ⟨e,?_⟩;refine⟨.non,_,I.lset (its':=its++[u]) hH e (by simp) (r.append (.cons ru .nil)) ?_,rfl,q⟩;rw[aq,gg];lia
def aFN:V->List V->Hp->VK->Prop:=λx vs H Q=>∃l xs i k y,x=.ref l/\vs=[.int i]/\H l=some (.lst xs)/\-(2^63)<=i/\i<2^63/\Bk i xs.length=some k/\xs[k]?=some y/\Q y (upd H l (.lst (xs.eraseIdx k)))
def aIe:MtM X "list.pop" aFN:=by
 intro pins s σ H x vs v us Q I rx rv h;obtain⟨l,xs,i,k,y,rfl,rfl,hH,h1,h2,hk,hy,q⟩:=h;cases rx;obtain⟨u,rfl,ru⟩:=rv.one;obtain⟨t,rfl⟩:=ru;obtain⟨z,its,n,r,hl,e⟩:=I.lstM hH;obtain⟨w,hw,rw'⟩:=r.get hy;refine BA F.slot_list_pop ⟨_,e,rfl⟩ F.entry_list_pop (F.args_list_pop_2 _ _)
  (MeetsSeq.list_pop_at l its.toArray n i t k w (fitsIndex_both h1 h2) (by rw[ay,<- hl];exact hk) (by rw[<- ke];exact hw) (by rw[ay];lia)) ⟨e,?_⟩
 refine⟨y,_,I.lset (its':=its.eraseIdx k) hH e ?_ (r.eraseIdx k) ?_,rw',q⟩
 ·show its.toArray.eraseIdxIfInBounds k=(its.eraseIdx k).toArray;rw[List.eraseIdxIfInBounds_toArray]
 ·have:=aAC xs k;lia
def aRk:R2:=λx y H Q=>∃l b xs zs,x=.ref l/\y=.ref b/\H l=some (.lst xs)/\H b=some (.lst zs)/\xs.length+zs.length<=cm/\∀p,H p=none->Q (.ref p) (upd H p (.lst (xs++zs)))
def aMH:OpR X (mh .Add) aRk:=by
 intro pins s σ H x y v u Q I rx ry h;obtain⟨l,b,xs,zs,rfl,rfl,hH,hB,hz,q⟩:=h;cases rx;cases ry;obtain⟨z,its,n,r,hl,e⟩:=I.lstM hH;obtain⟨z2,its2,n2,r2,hl2,e2⟩:=I.lstM hB;refine PySem.P.add_list e e2 ?_ (by rw[ay,ay];lia);have ea:its.toArray++its2.toArray=(its++its2).toArray:=by simp
 rw[ea];exact⟨.ref _,_,I.lnew (t':=s.toks) (r.append r2) (by rw[aq];lia),rfl,q _ I.fresh⟩
def aPd:R2:=λx y H Q=>∃l k xs,x=.ref l/\y=.int k/\H l=some (.lst xs)/\-(2^63)<=k/\k<2^63/\xs.length*k.toNat<=cm /\
 ∀p,H p=none->Q (.ref p) (upd H p (.lst (dr k.toNat xs).flatten))
def aLB {α:Type}(xs:List α)(k:Nat):(dr k xs).flatten.length=k*xs.length:=by
 induction k with
 |zero=>simp
 |succ k ih=>rw[nk,tx,aq,ih,Nat.succ_mul,Nat.add_comm]
def aJt:OpR X (mh .Mult) aPd:=by
 intro pins s σ H x y v u Q I rx ry h;obtain⟨l,k,xs,rfl,rfl,hH,h1,h2,hz,q⟩:=h;cases rx;obtain⟨t,rfl⟩:=ry;obtain⟨z,its,n,r,hl,e⟩:=I.lstM hH;have hlen:its.toArray.size*k.toNat<=cm:=by rw[ay,<- hl];exact hz
 have hcap:¬its.toArray.size*k.toNat > (2^63-1) / 8:=by
  have:(cm:Nat)<=(2^63-1) / 8:=by decide
  lia
 have hfit:¬(!Builtin.List.listFitsIndex k)=true:=by
  rw[fitsIndex_both h1 h2];exact cy
 have hlong:¬q9 (its.toArray.size*k.toNat)=true:=by
  rw[aHK hlen];exact cy
 have hnew:List.foldl (λx1 x2=>x1++x2) #[] (dr (if its.toArray.isEmpty=true then 0 else k.toNat) its.toArray)=(dr k.toNat its).flatten.toArray:=by
  have f0:∀m:Nat,List.foldl (λx1 x2=>x1++x2) #[] (dr m its.toArray)=(dr m its).flatten.toArray:=λm=>by
   have:=aAJ its m [];rw[List.nil_append] at this;exact this
  rw[f0];cases its with
  |nil=>simp
  |cons a r'=>rw[C4 (by simp)]
 refine wpAny_binaryOp_repeat_ref (T:="list") (U:="int") (by decide) ⟨_,e,rfl⟩ (λs'=>typeIs_int s' k t) noFill_list_mul F.fills_int_mul F.slot_int_rmul repeat_list F.slot_int_index.lookup
  (BA F.slot_int_rmul (typeIs_int s k t) F.entry_int_rmul (F.args_int_rmul_2 _ _) (int___rmul___int_list k t l its.toArray n)
   ⟨e,rfl,⟨_,e,rfl⟩,BA F.slot_list_mul ⟨_,e,rfl⟩ F.entry_list_mul (F.args_list_mul_2 _ _) (AutoListH.list___mul___list_int_3 l its.toArray n k t hfit hcap hlong) ⟨e,?_⟩⟩)
 rw[hnew];exact⟨.ref _,_,I.lnew (t':=s.toks) (r.rep k.toNat) (by rw[aLB,Nat.mul_comm];exact hz),rfl,q _ I.fresh⟩
end L2
namespace Att
open PySem PySem.W PySem.Calls PyProof.Rows
def uF:∀(ns:List Int) (vs:List wn),WellAll P h vs (ns.map WData.int)->IntsAre vs ns:=by
 intro ns
 induction ns with
 |nil=>
  intro vs w;rw[Ah] at w;cases w;exact .nil
 |cons n ns ih=>
  intro vs w;rw[de] at w;cases w with
  |cons a b=>
   cases a;exact .cons _ _ (ih _ b)
def aFL {l:OpenLaw}{n:Nat}(hn:l.most=some n){h:jp}{args:List WData}{vals:List wn}(hpre:l.row.toRowW.claim.pre args=true)(hwl:WellAll P h vals args):
  ∃a vs ns,vals=[Value.ref a]/\args=[WData.list (ns.map WData.int)]/\h.get? a=some {cls:=.type "list",data:=.seq vs.toArray}/\IntsAre vs ns/\ns.length<=n:=by
 have hsh:WShape.hasAll [] args [.list .int]=true:=(pre_splitW hpre).1;have hc:l.pre.holds [] {args:=args}=true:=(pre_splitW hpre).2;obtain⟨d,r,rfl,h1,h2⟩:=hasAllW_cons hsh;obtain rfl:=hasAllW_nil h2;obtain⟨xs,rfl,h3⟩:=hasW_list h1;obtain⟨ns,rfl⟩:=items_int h3;have hlen:ns.length<=n:=by
  unfold OpenLaw.pre at hc;have h4:(WTm.not (.lt (.lit (.int (n:Int))) (.len (.arg 0)))).holds [] {args:=[.list (ns.map .int)]}=true:=by
   have h4:=(holds_andW hc).1;rw[hn] at h4;exact h4
  have h5:=condW_of h4 (w_not (w_lt w_lit (w_len_list (w_arg rfl))));rw[af] at h5;refine Nat.le_of_not_lt λq=>?_;have q':(n:Int)<((ns.length:Nat):Int):=by lia
  first
   |(rw[At q'] at h5;exact absurd h5 (by decide))
   |(simp at h5;lia)
 cases hwl with
 |cons w1 w2=>
  cases w2;cases w1 with
  |list ho hall=>exact⟨_,_,ns,rfl,rfl,ho,uF ns _ hall,hlen⟩
def aHo (l:OpenLaw)(args:List WData):l.row.toRowW.claim.post args (.bool true) args=true:=
 postW_of (r:=l.row.toRowW) (X:=(true==true))
  (show WShape.has [] (.bool true) .bool=true by first|rfl|decide|simp[WShape.has,WShape.arms,WShape.armsAll])
  (show(WTm.eq .res (.lit (.bool true))).value [] {args:=args,res:=some (.bool true),after:=args}=some (.bool (true==true)) from w_eq_bool (w_res rfl) w_lit) rfl
def attach_call {l: OpenLaw}{n: Nat}{q: zn}{loose: List u8}{XP: (u8->Option wn)->jp->Prop}{YP: xj->jp->Prop}{d: DefRec}(hn:l.most=some n)(hdf:d.params.defaults=[])(call:∀(w:xj) (s₀ s₁:wv) (mg mb:u8->Option wn) (fa:ww) (o:Obj) (pm cd doc:wn) (a:ww) (vs:List wn) (ns:List Int),
   Ground q loose [] XP w s₀ mg mb s₁.heap->YP w s₁.heap ->
   s₁.heap.get? fa=some o->o.data=.func (docDef d.name d.params d.body d.scope pm cd doc)->s₁.heap.CodeRec cd d.name->mg d.name=some (.ref fa) ->
   s₁.heap.get? a=some {cls:=.type "list",data:=.seq vs.toArray}->IntsAre vs ns->ns.length<=n->s₁.gens=#[] ->
   ve (v6 l.prog w) BB (.call (.ref fa) ⟨[.ref a],[]⟩) (λr s'=>r=.ok (.ret (.bool true))/\OldK s₁.heap s'.heap/\s'.os=s₁.os/\yh s'.gens) s₁):
  WalkO q loose XP YP l.row.toRowW d [] (λf vs=>PySem.call f vs):=by
 intro w s₀ s₁ mg mb G Y fa o pm cd doc dV kV ho hd hcd hD hmg hg args vals as hpre hlay hrd hwl hlo;obtain rfl:dV=.none:=Dflts.none hD hdf;obtain rfl:kV=.none:=Dflts.noKw hD;obtain⟨a,vs,ns,rfl,rfl,hobj,hints,hlen⟩:=aFL hn hpre hwl;refine enter_call (jq (call w s₀ s₁ mg mb fa o pm cd doc a vs ns G Y ho (fd_plain hd) hcd hmg hobj hints hlen hg) λr s' hq=>?_);obtain⟨rfl,h2,h3,h4⟩:=hq;exact⟨.inl ⟨.bool true,.bool true,[],rfl,λ_=>rfl,.bool true,aHo l _,λ_=>⟨List.Pairwise.nil,λ_ hm=>(nomatch hm)⟩⟩,h2,h3,h4⟩
end Att
namespace L2
open PySem PySem.Spec PyProof.Rows
theorem aBq:∀{vs:List wn}{ns:List Int},IntsAre vs ns->Vals (ns.map V.int) vs
 |_,_,.nil=>.nil
 |_,_,.cons n t h=>.cons ⟨t,rfl⟩ (aBq h)
def aPT (H:Hp):Prop:=∀b,H b=none\/∃o xs,H b=some (.frz o (.lst xs))
def aJh {K:aa}{mb:u8->Option wn}{CX:CXT}{k:Nat}{fa a:ww}{fd:FuncData}{x:u8}{sp:Sp}{s₁:wv}{vs:List wn}{ns:List Int}(KX:K.In s₁.heap)(hns:s₁.heap.Ns dt mg)(hb:s₁.heap.Ns Bx mb)(hbb:∀x:u8,x≠"__name__"->mb x=fm x)(hlim:s₁.heap.NoLimit)(hg:s₁.gens=#[])(ha:s₁.heap.get? a=some {cls:=.type "list",data:=.seq vs.toArray})(hi:IntsAre vs ns)(hl:ns.length<=cm)(hr:Room k BB)(F:∀base:jp,K.In base->base.Ns dt mg->FnOk P w K mg base CX k fa fd [x] sp)(hbind:∀(s:wv) (u:wn),By s fd ⟨[u],[]⟩ [(x,u)])(hsp:∀H:Hp,aPT H->SqL K H a (ns.map V.int)->sp [.ref a] H (λv _=>v=.bl true) λ_ _ _=>False)(hCX:∀H e s',CX [] H s₁ (λ_ _ _=>False) e s'->False):
  ve (v6 P w) BB (.call (.ref fa) ⟨[.ref a],[]⟩) (λr s'=>r=.ok (.ret (.bool true))/\OldK s₁.heap s'.heap/\s'.os=s₁.os/\yh s'.gens) s₁:=by
 have rv:=aBq hi;have lenV:=hi.length;have core:∀H:Hp,aPT H->SqL K H a (ns.map V.int)->HOk P w H s₁.heap->(∀b,H b≠none->b=a)->(H a≠none->K.lookup a=none) ->
   ve (v6 P w) BB (.call (.ref fa) ⟨[.ref a],[]⟩) (λr s'=>r=.ok (.ret (.bool true))/\OldK s₁.heap s'.heap/\s'.os=s₁.os/\yh s'.gens) s₁:=by
  intro H hO hS hok hA hK;have base_of:∀{b:ww}{o:Obj},s₁.heap.get? b=some o->H b=none->(aIj s₁.heap H).get? b=some o:=λe n=>aIA e n;have noA:∀{b:ww}{o:Obj}{es:Array DictEntry}{ep:Nat},s₁.heap.get? b=some o->o.data=.dict es ep->H b=none:=λ{b o es ep} e d=>by
   cases q:H b with
   |none=>rfl
   |some u=>
    have e':b=a:=hA b (by rw[q];simp);subst e';rw[ha] at e;cases e;have d':Data.seq vs.toArray _=Data.dict es ep:=d;cases d'
  have nsK:∀{b:ww}{m:u8->Option wn},s₁.heap.Ns b m->(aIj s₁.heap H).Ns b m:=λ{b m} ⟨o,es,ep,e,d,r⟩=>⟨o,es,ep,base_of e (noA e d),d,r⟩;have hKb:K.In (aIj s₁.heap H):=λb o e=>base_of (KX b o e) (by
   cases q:H b with
   |none=>rfl
   |some u=>
    have e':b=a:=hA b (by rw[q];simp);subst e';rw[hK (by rw[q];simp)] at e;cases e)
  have hM:Mod K mg (aIj s₁.heap H):=⟨hKb,nsK hns,⟨mb,nsK hb,hbb⟩,let⟨mc,h1,h2⟩:=hlim;⟨mc,nsK h1,h2⟩⟩;have e0:aOP P w K mg (aIj s₁.heap H) BB [] s₁ H:=⟨rfl,hM,λb o e=>aKj e,Nat.le_of_eq (aGl _ _),trivial,λb hb=>absurd (show b∈([]:List ww) from hb) (by simp),hok,.of_eq hg⟩;refine jq ((F _ hKb (nsK hns)).run BB [] s₁ H ⟨[.ref a],[]⟩ [.ref a] [.ref a] _ _ hr e0 (hbind s₁ (.ref a)) (.cons rfl .nil) (hsp H hO hS)) λr s' h=>?_;cases r with
  |error e=>exact(hCX H e s' h).elim
  |ok fl=>
   cases fl with
   |next=>exact mz h
   |brk=>exact mz h
   |cont=>exact mz h
   |ret u=>
    obtain⟨v,H',os,bare,un,hok',r',q⟩:=h;have q':v=.bl true:=q;subst q';obtain rfl:u=Value.bool true:=r';refine⟨rfl,OldK.of_keep λb o e=>?_,os,bare⟩;cases q:H b with
    |none=>exact un.keep b o e q (by intro z;exact absurd (show b∈([]:List ww) from z) (by simp)) (by simp)
    |some u=>
     rcases hO b with z|⟨ob,xs,z⟩
     ·rw[q] at z;cases z
     ·have z2:=un.frzs b ob _ z;obtain⟨e1,_⟩:=hok b _ z;obtain⟨e2,_⟩:=hok' b _ z2;rw[e] at e1;cases e1;exact e2
 cases hk:K.lookup a with
 |some o=>
  have e:=KX a o hk;rw[ha] at e;cases e;refine core (λ_=>none) (λ_=>.inl rfl) (.inr ⟨_,vs.toArray,_,hk,rfl,rfl,rfl,by rw[ay,lenV];exact hl,by simpa using rv⟩) (λb u z=>by have z':(none:Option HO)=some u:=z;cases z') (λb z=>absurd rfl z) λz=>absurd rfl z
 |none=>
  refine core (λb=>if b=a then some (.frz {cls:=.type "list",data:=.seq vs.toArray} (.lst (ns.map V.int))) else none) (λb=>?_) (.inl (.inr ⟨{cls:=.type "list",data:=.seq vs.toArray},C5 rfl⟩)) (λb u z=>?_) (λb z=>?_) λ_=>hk
  ·by_cases hb:b=a
   ·exact .inr ⟨_,_,C5 hb⟩
   ·exact .inl (C4 hb)
  ·by_cases hb:b=a
   ·have z':=(C5 hb).symm.trans z;cases z';subst hb;exact⟨ha,by rw[af];exact hl,vs,_,rv,ha⟩
   ·have z':=(C4 hb).symm.trans z;cases z'
  ·by_cases hb:b=a
   ·exact hb
   ·exact absurd (C4 hb) z
def aKN {l: PySem.W.OpenLaw}{n k: Nat}{q: zn}{loose: List u8}{XP: (u8->Option wn)->jp->Prop}{YP: xj->jp->Prop}{d: DefRec}{K: Params->aa}{CX: xj->CXT}{sp: xj->Sp}{x: u8}(hn:l.most=some n)(hn2:n<=cm)(hdf:d.params.defaults=[])(hr:Room k BB)(hY:∀(w:xj) (h:jp),YP w h->(K w.params).In h)(F:∀(w:xj) (mg:u8->Option wn) (fa:ww) (h:jp),(K w.params).In h->h.Ns dt mg->mg d.name=some (.ref fa) ->
   ∃fd:FuncData,(∀(s:wv) (u:wn),By s fd ⟨[u],[]⟩ [(x,u)]) /\
    ∀base:jp,(K w.params).In base->base.Ns dt mg->FnOk l.prog w (K w.params) mg base (CX w) k fa fd [x] (sp w))(hsp:∀(w:xj) (H:Hp) (a:ww) (ns:List Int),ns.length<=n->aPT H->SqL (K w.params) H a (ns.map V.int)->sp w [.ref a] H (λv _=>v=.bl true) λ_ _ _=>False)(hCX:∀(w:xj) (H:Hp) (s:wv) (e:wn) (s':wv),CX w [] H s (λ_ _ _=>False) e s'->False):
  PySem.W.WalkO q loose XP YP l.row.toRowW d [] (λf vs=>PySem.call f vs):=by
 refine Att.attach_call hn hdf λw s₀ s₁ mg mb fa o pm cd doc a vs ns G Y ho hd hcd hmg hobj hints hlen hg=>?_;have KX:=hY w _ Y;obtain⟨fd,hb,hF⟩:=F w mg fa _ KX G.T.g hmg;exact aJh KX G.T.g G.T.b G.T.builtins G.T.nolimit hg hobj hints (bo hlen hn2) hr hF hb (λH hO hS=>hsp w H a ns hlen hO hS) λH e s'=>hCX w H s₁ e s'
def gX (s:Stmt):Arguments:=match s with
 |.FunctionDef _ a _ _ _ _ _ _ _ _=>a
 |_=>{posonlyargs:=[],args:=[],vararg:=none,kwonlyargs:=[],kw_defaults:=[],kwarg:=none,defaults:=[]}
def dW (s:Stmt):List Stmt:=match s with
 |.FunctionDef _ _ b _ _ _ _ _ _ _=>b
 |_=>[]
def bI (s:Stmt):Scope:=match s with
 |.FunctionDef _ _ _ _ _ _ sc _ _ _=>sc
 |_=>{kind:=.function,names:=[],isGenerator:=false,isCoroutine:=false}
abbrev CX0:CXT:=λ_ _ _ _ _ _=>False
abbrev E0:XK:=λ_ _ _=>False
def aPS:uE CX0 X E0:=λ_ _ _ _ _ _ _ h=>h.elim
structure Fun (K:aa)(x qual:u8)(st:Stmt)(f:ww)(fd:FuncData):Prop where
 ex:∃(oc:wn) (od:Option ww) (kV doc pm:wn) (an:Option ww) (cdv ct:wn) (osl:Array (Option wn)),
  fd=ky x qual (gX st) (dW st) (bI st) .none kV doc pm an cdv ct/\K.lookup f=some ⟨oc,od,.func fd,osl⟩/\wx K cdv qual=true
 kp:qg K (.ref f)=true
def Fun.ok {K: aa}{x qual: u8}{st: Stmt}{f: ww}{fd: FuncData}{N ps: List u8}{k: Nat}{sp: Sp}(F:Fun K x qual st f fd)(S:oX N ps (bI st))(len:∀vs H Q E,sp vs H Q E->vs.length=ps.length)(hbody:∀(cdv:wn) (A:xz) (outer:List Env) (s:wv) (H:Hp) (vs:List V) (Q:VK) (E:XK),Room k (A.deeper (Af qual (bI st) s.heap.objs.size f cdv))->sp vs H Q E ->
   ∃t,PSs (aBK CX0 P w K mg base N qual (bI st) f cdv A outer s H E).nox (dW st) t/\t {nx:=λ_ H'=>Q .non H',rt:=Q} (bC N vs) H):FnOk P w K mg base CX0 (k+1) f fd ps sp:=by
 obtain⟨oc,od,kV,doc,pm,an,cdv,ct,osl,rfl,lk,hcd⟩:=F.ex;refine aOb lk hcd S len λA outer s H vs Q E hr hsp=>?_;obtain⟨t,h,q⟩:=hbody cdv A outer s H vs Q E hr hsp;exact⟨t,h.nox,q⟩
def Fun.binds {K:aa}{x qual:u8}{st:Stmt}{f:ww}{fd:FuncData}{ps:List u8}(F:Fun K x qual st f fd)(h:∀(kV doc pm:wn) (an:Option ww) (cdv ct:wn) (us:List wn),us.length=ps.length->Bg (ky x qual (gX st) (dW st) (bI st) .none kV doc pm an cdv ct) ⟨us,[]⟩=pure (ps.zip us)):Binds K fd ps []:=by
 obtain⟨oc,od,kV,doc,pm,an,cdv,ct,osl,rfl,lk,hcd⟩:=F.ex;exact .all (h kV doc pm an cdv ct)
def aFw {K:aa}{x qual:u8}{st:Stmt}{f:ww}{oc:wn}{od an:Option ww}{osl:Array (Option wn)}{kV doc pm cdv ct:wn}(l:K.lookup f=some ⟨oc,od,.func (ky x qual (gX st) (dW st) (bI st) .none kV doc pm an cdv ct),osl⟩)(c:wx K cdv qual=true)(k:qg K (.ref f)=true):Fun K x qual st f (ky x qual (gX st) (dW st) (bI st) .none kV doc pm an cdv ct):=⟨⟨oc,od,kV,doc,pm,an,cdv,ct,osl,rfl,l,c⟩,k⟩
def pv {X:Cx}(i:Nat){x:u8}{pos:Pos}(hN:X.N[i]?=some x:=by rfl)(hv:Vis X.env.scope x:=by first|exact Or.inl rfl|exact Or.inr (Or.inl rfl)|exact Or.inr (Or.inr rfl))(hd:(x==("__debug__":u8))=false:=by decide)(hcd:(x==("__classdict__":u8))=false:=by decide):PE X (.Name x pos) (aC i):=aMh hN hv hd hcd
def aRu {B:Prop}(h:B):if false=true then A else B:=by
 rw[C4 cy];exact h
def tH {c B:Prop}[Decidable c](h1:c->A)(h2:¬c->B):if c then A else B:=by
 by_cases h:c
 ·rw[C5 h];exact h1 h
 ·rw[C4 h];exact h2 h
def Same (H H':Hp):Prop:=∀b o,H b=some o->H' b=some o
def Same.refl (H:Hp):Same H H:=λ_ _ h=>h
def Same.trans (a:Same H H1)(b:Same H1 H2):Same H H2:=λc o h=>b c o (a c o h)
def Same.free (e:Same H H')(h:H' l=Option.none):H l=Option.none:=by
 cases q:H l with
 |none=>rfl
 |some o=>
  rw[e l o q] at h;cases h
def Same.seq {K:aa}{H H':Hp}{a:ww}{xs:List V}(e:Same H H')(h:SqL K H a xs):SqL K H' a xs:=by
 rcases h with(h|⟨o,h⟩)|h
 ·exact .inl (.inl (e _ _ h))
 ·exact .inl (.inr ⟨o,e _ _ h⟩)
 ·exact .inr h
section
variable {κ:Type}[DecidableEq κ]
theorem jA:∀{l:List κ}{k:κ},l.Nodup->¬k∈l->(l++[k]).Nodup
 |[],k,_,_=>by simp
 |a::r,k,h,hk=>by
  obtain⟨h1,h2⟩:=jg.mp h;show(a::(r++[k])).Nodup;refine jg.mpr ⟨λm=>?_,jA h2 λm=>hk (b8.mpr (Or.inr m))⟩;rcases cg.mp m with q|q
  ·exact h1 q
  ·exact hk (b8.mpr (Or.inl (br.mp q).symm))
end
def dP (J:It)(g:TG)(tb:TS):TS:=λD σ H=>∃W:Nat->Nat->St->Hp->Prop,(∃m,W 0 m σ H)/\∀i m σ H,W i m σ H ->
 (J.stop i H/\D.nx σ H)\/(J.go i H/\∃N:St->Hp->Prop,(∀σ' H',N σ' H'->∃m',m'<m/\W (i+1) m' σ' H')/\∀x H',J.yld i H x H'->g x σ H' λσ2 H2=>tb {D with nx:=N,ct:=N,bk:=D.nx} σ2 H2)
def aBi (elt:ut)(gens:List Comprehension)(scope:Scope)(pos:Pos)(d:Nat)(acc:wn)(env:Env)(k:Sem Fin):Sem Fin:=
 match gens[d+1]? with
 |some g'=>eval g'.iter env >>= λx=>BX g'.iter.pos >>= λ_=>k9 g'.iter env x >>= λx=>AX [x] (AQ x) >>= λi=>
   runOwn (.compStart (.ListComp elt gens scope pos) (d+1) i acc env) env >>= λ_=>k
 |none=>(eval elt env >>= λx=>call (.builtin "list.append") [acc,x] >>= λ_=>pure ()) >>= λ_=>k
def aCP (it acc:wn)(env:Env)(hg:gens[d]?=some ⟨target,iter,ifs,0⟩)(hn:∀g',gens[d+1]?=some g'->g'.is_async=0):
  compTurn (.ListComp elt gens scope pos) d it acc env=(BX iter.pos >>= λ_=>qf it >>= λr=>match r with
   |none=>pure (.done .next)
   |some v=>vd target it v >>= λ_=>BF target env v >>= λ_=>
    (forIn ifs true λc r=>if r=true then do let ok <- isTrue c env (eval c env);pure (ForInStep.yield ok) else pure (ForInStep.yield r)) >>= λok=>
     if ok=true then aBi elt gens scope pos d acc env (again (.compLoop (.ListComp elt gens scope pos) d it acc env))
     else again (.compLoop (.ListComp elt gens scope pos) d it acc env)):=by
 unfold compTurn aBi;simp only[hg];cases h:gens[d+1]? with
 |none=>rfl
 |some g'=>
  obtain⟨t',i',f',a'⟩:=g';have e:a'=0:=hn _ h;subst e;rfl
def jC:List TT->TS->TS
 |[],tb=>tb
 |c::r,tb=>eC c (jC r tb) aG
inductive PTs (X:Cx):List ut->List TT->Prop
 |nil:PTs X [] []
 |cons {c:ut}{cs:List ut}{t:TT}{ts:List TT}:PT X c t->PTs X cs ts->PTs X (c::cs) (t::ts)
def aCO {X:Cx}{cs:List ut}{s:wv}{Q:Bool->wv->Prop}{E:wn->wv->Prop}(h:Q false s):
  v4 (v6 X.prog X.w) X.A (forIn cs false λc r=>if r=true then do let ok <- isTrue c X.env (eval c X.env);pure (ForInStep.yield ok) else pure (ForInStep.yield r)) Q E s:=by
 induction cs with
 |nil=>rw[qh];exact ao h
 |cons c cs ih=>
  rw[sd,C4 cy];exact ae (ao ih)
theorem aAn:∀{cs:List ut}{ts:List TT},PTs X cs ts->∀{s:wv}{σ:St}{H:Hp},Inv X pins σ H s->jC ts tb D σ H ->
  v4 (v6 X.prog X.w) X.A (forIn cs true λc r=>if r=true then do let ok <- isTrue c X.env (eval c X.env);pure (ForInStep.yield ok) else pure (ForInStep.yield r))
   (λok s'=>∃H',Inv X pins σ H' s'/\if ok=true then tb D σ H' else D.nx σ H') X.xe s
 |_,_,.nil,s,σ,H,I,h=>by rw[qh];exact ao ⟨H,I,by rw[C5 rfl];exact h⟩
 |_,_,.cons (cs:=cs) hc hr,s,σ,H,I,h=>by
  rw[sd,C5 rfl];refine ae (ae (thn (hc pins s σ H _ I h) λb s1 ⟨H1,I1,q1⟩=>ao ?_));cases b with
  |true=>
   rw[C5 rfl] at q1;exact aAn hr I1 q1
  |false=>
   rw[C4 cy] at q1;exact aCO ⟨H1,I1,by rw[C4 cy];exact q1⟩
def PB (X:Cx)(elt:ut)(gens:List Comprehension)(scope:Scope)(pos:Pos)(d:Nat)(acc:ww)(t:TS):Prop:=
 ∀(pins:List (ww×Obj)) (s:wv) (σ:St) (H:Hp) (D:xX) (k:Sem Fin) (Q:Fin->wv->Prop) (E:wn->wv->Prop),Inv X pins σ H s->t D σ H ->
  (∀s' σ' H',Inv X pins σ' H' s'->D.nx σ' H'->v4 (v6 X.prog X.w) X.A k Q E s')->v4 (v6 X.prog X.w) X.A (aBi elt gens scope pos d (.ref acc) X.env k) Q E s
def bG (te:TE)(acc:ww):TS:=λD σ H=>te σ H λx H1=>∃xs,H1 acc=some (.lst xs)/\xs.length<cm/\D.nx σ (upd H1 acc (.lst (xs++[x])))
def fA (hx:X.xe=λ_ _=>False)(he:PE X elt te)(hl:gens[d+1]?=none):PB X elt gens scope pos d acc (bG te acc):=by
 intro pins s σ H D k Q E I h hk;unfold aBi;rw[hl];refine ae (ae (jf (he pins s σ H _ I h) (λv s1 ⟨x,H1,I1,r1,xs,ha,hz,q⟩=>?_) λ_ _ z=>by rw[hx] at z;exact z.elim));have hm:=iM (X:=X) pins s1 σ H1 (.ref acc) [x] (.ref acc) [v] (λv H'=>v=.non/\D.nx σ H') I1 rfl (.cons r1 .nil) ⟨acc,xs,x,rfl,rfl,ha,hz,rfl,q⟩;refine ae (jf hm (λ_ s2 ⟨x2,H2,I2,r2,_,q2⟩=>ao (hk s2 σ H2 I2 q2)) λ_ _ z=>by rw[hx] at z;exact z.elim)
def aBl {elt target iter:ut}{ifs:List ut}{gens:List Comprehension}{scope:Scope}{pos:Pos}{d:Nat}{acc it:ww}{fp:List ww}{tn:Nat->jp->Prop}{J:It}{g:TG}{ts:List TT}{tb:TS}{D:xX}{pins:List (ww×Obj)}{s:wv}{σ:St}{H:Hp}(hx:X.xe=λ_ _=>False)(hc:X.calm=true)(hgd:gens[d]?=some ⟨target,iter,ifs,0⟩)(hn:∀g',gens[d+1]?=some g'->g'.is_async=0)(hg:PG X target g)(hts:PTs X ifs ts)(hb:PB X elt gens scope pos d acc tb)(T:aJB X.prog X.w X.K target J fp it tn)(I:Inv X pins σ H s)(st:tn 0 s.heap)(hf:∀b∈fp,aBI X pins H b)(h:dP J g (jC ts tb) D σ H):
  ve (v6 X.prog X.w) X.A (.compStart (.ListComp elt gens scope pos) d (.ref it) (.ref acc) X.env) (λr s'=>∃f,r=.ok f/\∃σ' H',Inv X pins σ' H' s'/\D.nx σ' H') s:=by
 have stat:∀{H':Hp},(∀b∈fp,H' b=none)->∀b∈fp,aBI X pins H' b:=λhn b hb=>⟨hn b hb,(hf b hb).2⟩;obtain⟨W,⟨m0,w0⟩,turn⟩:=h;have E0:∀(e:wn) (s':wv),X.xe e s'->notedBy (v6 X.prog X.w) X.A X.env (λe s'=>∃f,(Except.error e:BG)=.ok f/\∃σ' H',Inv X pins σ' H' s'/\D.nx σ' H') e s':=λe s' z=>by rw[hx] at z;exact z.elim
 have loop:ve (v6 X.prog X.w) X.A (.compLoop (.ListComp elt gens scope pos) d (.ref it) (.ref acc) X.env) (λr s'=>∃f,r=.ok f/\∃σ' H',Inv X pins σ' H' s'/\D.nx σ' H') s:=by
  refine codeAny_loop rfl (λn s'=>∃i σ' H',Inv X pins σ' H' s'/\tn i s'.heap/\(∀b∈fp,H' b=none)/\W i n σ' H') ?_ m0 ⟨0,σ,H,I,st,λb hb=>(hf b hb).1,w0⟩;rintro n s3 ⟨i,σ3,H3,I3,st3,fr3,w3⟩;show v4 _ X.A ((compTurn (.ListComp elt gens scope pos) d (.ref it) (.ref acc) X.env).onRaise (λx=>do noteFrame x X.env;theTreesLotGoes x)) _ _ s3;refine wpAny_noted ?_;rw[aCP _ _ _ hgd hn];refine ae (rj (ae ?_));rcases turn i n σ3 H3 w3 with⟨stop,qn⟩|⟨go,N,hN,step⟩
  ·refine jf (T.done X rfl rfl rfl hc i pins s3 σ3 H3 (λ_ _=>False) I3 (stat fr3) st3 stop) (λr s4 ⟨hr,I4⟩=>?_) (λ_ _ z=>z.elim);subst hr;exact ao ⟨.next,rfl,σ3,H3,I4,qn⟩
  ·refine jf (T.item X rfl rfl rfl hc i pins s3 σ3 H3 (λ_ _=>False) I3 (stat fr3) st3 go) (λr s4 ⟨u,hr,h4⟩=>?_) (λ_ _ z=>z.elim);subst hr;refine ae (jf h4 (λ_ s5 ⟨x,H5,I5,r5,y5,st5,fr5⟩=>?_) (λ_ _ z=>z.elim));have I5':=I5.pinned (stat fr5) (T.obj _ _ st5);refine ae (jf (hg _ s5 σ3 H5 x u _ I5' r5 (step x H5 y5)) (λ_ s6 ⟨σ6,H6,I6,q6⟩=>?_) E0);refine ae (jf (aAn hts I6 q6) (λok s7 ⟨H7,I7,q7⟩=>?_) E0);have again:∀{σ7:St}{H7:Hp}{s7:wv},Inv X (pins++aBv fp s5.heap) σ7 H7 s7->N σ7 H7->∃m,m<n/\∃i σ' H',Inv X pins σ' H' s7/\tn i s7.heap/\(∀b∈fp,H' b=none)/\W i m σ' H':=λ{σ7 H7 s7} I7 n7=>by
    obtain⟨m',hm,w7⟩:=hN σ7 H7 n7;refine⟨m',hm,i+1,σ7,H7,I7.unpinned,T.keep _ _ _ st5 λb hb o e=>(I7.pin (b,o) (du _ (du _ (jM hb e)))).1,λb hb=>?_,w7⟩;obtain⟨o,e,d⟩:=T.obj _ _ st5 b hb;exact(I7.pin (b,o) (du _ (du _ (jM hb e)))).2.1
   cases ok with
   |false=>
    rw[C4 cy] at q7 ⊢;exact ao ⟨rfl,again I7 q7⟩
   |true=>
    rw[C5 rfl] at q7 ⊢;exact hb _ s7 σ6 H7 _ _ _ _ I7 q7 λs8 σ8 H8 I8 q8=>ao ⟨rfl,again I8 q8⟩
 refine vk ?_;show v4 _ _ ((compStart (.ListComp elt gens scope pos) d (.ref it) (.ref acc) X.env).onRaise (λx=>do noteFrame x X.env;BX theWindowsPlace)) _ _ s;refine wpAny_notedAt ?_;have hcl:clausesOf (.ListComp elt gens scope pos)=gens:=rfl;unfold compStart;rw[hcl,hgd];show v4 _ _ (ask >>= _) _ _ s;refine ae (jm (wpAny_ite ?_));split
 ·first
   |exact ae (ao (ao (And.intro rfl loop)))
   |exact ao (And.intro rfl loop)
 ·refine ae (tv ?_);show v4 _ _ (BX iter.pos >>= _) _ _ s;exact ae (rj (ae (T.self X.A 0 s _ _ st (ao (And.intro rfl loop)))))
def aLN (hx:X.xe=λ_ _=>False)(hc:X.calm=true)(hgd:gens[d+1]?=some ⟨target,iter,ifs,0⟩)(hn:∀g',gens[d+2]?=some g'->g'.is_async=0)(hi:PI X target iter wi)(hg:PG X target g)(hts:PTs X ifs ts)(hb:PB X elt gens scope pos (d+1) acc tb)(hs:∀x,k9 iter X.env x=pure x:=by intro _;rfl):
  PB X elt gens scope pos d acc (iJ wi g (jC ts tb)):=by
 intro pins s σ H D k Q E I h hk;unfold aBi;rw[hgd];have EX:∀(e:wn) (s':wv),X.xe e s'->E e s':=λe s' z=>by rw[hx] at z;exact z.elim
 refine ae (jf (hi pins s σ H (λJ H1=>dP J g (jC ts tb) D σ H1) I h) (λv s1 h1=>?_) EX);refine ae (rj (ae (qu (hs v) (ae (f9 (jf h1 (λitv s2 h2=>?_) EX))))));obtain⟨it,fp,tn,J,H2,e,I2,T,st2,f2,q2⟩:=h2;subst e;refine ae (wpAny_runOwn (jq (aBl hx hc hgd hn hg hts hb T I2 st2 f2 q2) λr s3 ⟨f,hr,σ3,H3,I3,q3⟩=>?_));subst hr;exact hk s3 σ3 H3 I3 q3
def eZ (cells:List (u8×ww)):List (u8×NameKind)->List (u8×ww)->List (u8×ww)
 |[],acc=>acc
 |(n,k)::r,acc=>if k==.free then eZ cells r ((n,(cells.lookup n).getD 0)::acc) else eZ cells r acc
def vZ (h:∀x∈scope.names,x.2=.free->(env.cells.lookup x.1).isSome=true):closureFor scope env=pure (eZ env.cells scope.names []):=by
 have go:∀(names:List (u8×NameKind)) (acc:List (u8×ww)),(∀x∈names,x.2=.free->(env.cells.lookup x.1).isSome=true) ->
   (forIn names acc λx (r:List (u8×ww))=>if x.2==NameKind.free then(do let c <- cellOf env x.1;pure (ForInStep.yield ((x.1,c)::r))) else pure (ForInStep.yield r):Sem (List (u8×ww)))=pure (eZ env.cells names acc):=by
  intro names
  induction names with
  |nil=>intro acc _;rw[qh];rfl
  |cons x r ih=>
   intro acc hh;obtain⟨n,k⟩:=x;rw[sd];unfold eZ;cases hk:k==NameKind.free with
   |false=>
    rw[C4 cy,C4 cy];exact ih acc λy hy=>hh y (bq _ hy)
   |true=>
    rw[C5 rfl,C5 rfl];obtain⟨c,hc⟩:=jr.mp (hh (n,k) c7 (by simpa using hk));have e:cellOf env n=pure c:=by
     unfold cellOf;rw[show env.cells.lookup n=some c from hc]
    show(do let x <- (do let c <- cellOf env n;pure (ForInStep.yield ((n,c)::acc)));_)=_;rw[e];rw[show((env.cells.lookup n).getD 0)=c by rw[show env.cells.lookup n=some c from hc];rfl];exact ih ((n,c)::acc) λy hy=>hh y (bq _ hy)
 have:=go scope.names [] h;unfold closureFor;refine Eq.trans ?_ (congrArg (λm=>m >>= λr=>pure r) this |>.trans rfl)
 rfl
theorem uT:∀(names:List (u8×NameKind)) (acc:List (u8×ww)),(x,NameKind.free)∉names->(eZ cells names acc).lookup x=acc.lookup x
 |[],_,_=>rfl
 |(n,k)::r,acc,h=>by
  unfold eZ;have hr:(x,NameKind.free)∉r:=λz=>h (bq _ z);cases hk:k==NameKind.free with
  |false=>rw[C4 cy];exact uT r acc hr
  |true=>
   rw[C5 rfl,uT r _ hr,i4];have e:k=.free:=by simpa using hk
   have ne:(x==n)=false:=by
    cases q:x==n with
    |false=>rfl
    |true=>exact absurd (by rw[beq_iff_eq.mp q,e];exact c7) h
   rw[ne]
theorem rV (hc:cells.lookup x=some c):∀(names:List (u8×NameKind)) (acc:List (u8×ww)),(x,NameKind.free)∈names->(eZ cells names acc).lookup x=some c
 |[],_,h=>by simp at h
 |(n,k)::r,acc,h=>by
  unfold eZ;by_cases hr:(x,NameKind.free)∈r
  ·cases hk:k==NameKind.free with
   |false=>rw[C4 cy];exact rV hc r acc hr
   |true=>rw[C5 rfl];exact rV hc r _ hr
  ·rcases b8.mp h with e|e
   ·cases e;rw[C5 (by decide),uT r _ hr,i4];simp[hc]
   ·exact absurd e hr
theorem pB:∀(names:List (u8×NameKind)) (acc:List (u8×ww)),(∀y∈names,y.2=.free->(cells.lookup y.1).isSome=true)->(x,c)∈eZ cells names acc ->
  (x,c)∈acc\/((x,NameKind.free)∈names/\cells.lookup x=some c)
 |[],_,_,h=>.inl h
 |(n,k)::r,acc,hh,h=>by
  unfold eZ at h;have hr:∀y∈r,y.2=.free->(cells.lookup y.1).isSome=true:=λy hy=>hh y (bq _ hy);cases hk:k==NameKind.free with
  |false=>
   rw[hk,C4 cy] at h;exact(pB r acc hr h).imp id λz=>⟨bq _ z.1,z.2⟩
  |true=>
   rw[hk,C5 rfl] at h;have ek:k=.free:=by simpa using hk
   rcases pB r _ hr h with z|z
   ·rcases b8.mp z with z|z
    ·cases z;obtain⟨d,hd⟩:=jr.mp (hh (x,k) c7 ek);exact .inr ⟨by rw[ek];exact c7,by rw[hd];rfl⟩
    ·exact .inl z
   ·exact .inr ⟨bq _ z.1,z.2⟩
theorem kB (inj:∀x y c,cells.lookup x=some c->cells.lookup y=some c->x=y):∀(names:List (u8×NameKind)) (acc:List (u8×ww)),(names.map (·.1)).Nodup ->
  (∀y∈names,y.2=.free->(cells.lookup y.1).isSome=true)->(∀p∈acc,cells.lookup p.1=some p.2/\p.1∉names.map (·.1))->(acc.Pairwise λx y=>x.2≠y.2)->(eZ cells names acc).Pairwise λx y=>x.2≠y.2
 |[],_,_,_,_,h=>h
 |(n,k)::r,acc,nd,hh,ha,h=>by
  unfold eZ;have hr:∀y∈r,y.2=.free->(cells.lookup y.1).isSome=true:=λy hy=>hh y (bq _ hy);obtain⟨n1,n2⟩:=jg.mp nd;cases hk:k==NameKind.free with
  |false=>
   rw[C4 cy];exact kB inj r acc n2 hr (λp hp=>⟨(ha p hp).1,λz=>(ha p hp).2 (bq _ z)⟩) h
  |true=>
   rw[C5 rfl];have ek:k=.free:=by simpa using hk
   obtain⟨d,hd⟩:=jr.mp (hh (n,k) c7 ek);have hd':cells.lookup n=some d:=hd;refine kB inj r _ n2 hr (λp hp=>?_) (mi.mpr ⟨λp hp e=>?_,h⟩)
   ·rcases b8.mp hp with e|hp
    ·subst e;exact⟨by rw[hd'];rfl,n1⟩
    ·exact⟨(ha p hp).1,λz=>(ha p hp).2 (bq _ z)⟩
   ·rw[hd'] at e;have e':d=p.2:=e;have:n=p.1:=inj n p.1 d hd' (by rw[e'];exact(ha p hp).1);exact(ha p hp).2 (by rw[<- this];exact c7)
theorem fX:∀(names:List (u8×NameKind)) (n:Nat) (acc:List (u8×ww)),(x,c)∈kl n names acc->(n<=c/\(x,NameKind.cell)∈names)\/(x,c)∈acc
 |[],_,_,h=>.inr h
 |(y,k)::r,n,acc,h=>by
  unfold kl at h;cases hk:k==NameKind.cell with
  |false=>
   rw[hk,C4 cy] at h;exact(fX r n acc h).imp (λz=>⟨z.1,bq _ z.2⟩) id
  |true=>
   rw[hk,C5 rfl] at h;have ek:k=.cell:=by simpa using hk
   rcases fX r (n+1) _ h with z|z
   ·exact .inl ⟨by lia,bq _ z.2⟩
   ·rcases b8.mp z with z|z
    ·cases z;exact .inl ⟨ar _,by rw[ek];exact c7⟩
    ·exact .inr z
theorem fE:∀(names:List (u8×NameKind)) (n:Nat) (acc:List (u8×ww)),(∀p∈acc,p.2<n)->(acc.Pairwise λx y=>x.2≠y.2)->(kl n names acc).Pairwise λx y=>x.2≠y.2
 |[],_,_,_,h=>h
 |(y,k)::r,n,acc,hl,h=>by
  unfold kl;cases hk:k==NameKind.cell with
  |false=>rw[C4 cy];exact fE r n acc hl h
  |true=>
   rw[C5 rfl];refine fE r (n+1) _ (λp hp=>?_) (mi.mpr ⟨λp hp e=>?_,h⟩)
   ·rcases b8.mp hp with e|hp
    ·subst e;exact j6 _
    ·exact gk (hl p hp)
   ·have e':n=p.2:=e;exact kn _ (e'▸hl p hp)
theorem gT:∀(names:List (u8×NameKind)) (n:Nat) (acc:List (u8×ww)),(x,NameKind.cell)∉names->(kl n names acc).lookup x=acc.lookup x
 |[],_,_,_=>rfl
 |(y,k)::r,n,acc,h=>by
  unfold kl;have hr:(x,NameKind.cell)∉r:=λz=>h (bq _ z);cases hk:k==NameKind.cell with
  |false=>rw[C4 cy];exact gT r n acc hr
  |true=>
   rw[C5 rfl,gT r _ _ hr,i4];have e:k=.cell:=by simpa using hk
   have ne:(x==y)=false:=by
    cases q:x==y with
    |false=>rfl
    |true=>exact absurd (by rw[beq_iff_eq.mp q,e];exact c7) h
   rw[ne]
theorem fD:∀(names:List (u8×NameKind)) (h:jp) (acc:List (u8×ww)),(x,c)∈kl h.objs.size names acc->(x,c)∈acc\/(Ca h names).IsCell c none
 |[],_,_,hm=>.inl hm
 |(y,k)::r,h,acc,hm=>by
  unfold kl at hm;unfold Ca;cases hk:k==NameKind.cell with
  |false=>
   rw[hk,C4 cy] at hm;rw[C4 cy];exact fD r h acc hm
  |true=>
   rw[hk,C5 rfl] at hm;rw[C5 rfl];have:=fD (x:=x) (c:=c) r (h.push {cls:=.type "cell",data:=.cell none}) ((y,h.objs.size)::acc) (by rw[f6];exact hm);rcases this with z|z
   ·rcases b8.mp z with z|z
    ·cases z;exact .inr ⟨_,Ai r _ _ _ (bg _ rfl),rfl⟩
    ·exact .inl z
   ·exact .inr z
theorem dA:∀{names:List (u8×NameKind)},(names.map (·.1)).Nodup->(x,k)∈names->names.lookup x=some k
 |[],_,h=>by simp at h
 |(y,j)::r,nd,h=>by
  obtain⟨n1,n2⟩:=jg.mp nd;rw[i4];rcases b8.mp h with e|e
  ·cases e;simp
  ·have ne:(x==y)=false:=by
    cases q:x==y with
    |false=>rfl
    |true=>exact absurd (cw.mpr ⟨(x,k),e,beq_iff_eq.mp q⟩) n1
   rw[ne];exact dA n2 e
def lT:(BC scope env).names.lookup x=some k->(k=.cell\/k=.free)->scope.names.lookup x=some .cell\/scope.names.lookup x=some .free:=by
 unfold BC;show(scope.names.map _).lookup x=some k->_
 induction scope.names with
 |nil=>intro h;simp at h
 |cons p r ih=>
  obtain⟨n,j⟩:=p;intro h hk;rw[de] at h;rw[i4];by_cases hc:(j==NameKind.free&&env.scope.kind==.function&&env.kindOf n==some .cell)=true
  ·simp only[hc,if_true] at h;rw[i4] at h;cases q:x==n with
   |true=>
    have:j=.free:=by
     have:=(uv.mp (uv.mp hc).1).1;simpa using this
    simp[this]
   |false=>rw[q] at h;simpa using ih h hk
  ·simp only[hc,gm,if_false] at h;rw[i4] at h;cases q:x==n with
   |true=>
    rw[q] at h;simp only[Option.some.injEq] at h;subst h;rcases hk with e|e<;>simp[e]
   |false=>rw[q] at h;simpa using ih h hk
def aAY (hf:env.scope.kind=.function):scope.names.lookup x=some .free->(BC scope env).names.lookup x=some .cell\/(BC scope env).names.lookup x=some .free:=by
 unfold BC;show _->(scope.names.map _).lookup x=_\/(scope.names.map _).lookup x=_
 induction scope.names with
 |nil=>intro h;simp at h
 |cons p r ih=>
  obtain⟨n,j⟩:=p;intro h;rw[i4] at h;rw[de];cases q:x==n with
  |true=>
   rw[q] at h;simp only[Option.some.injEq] at h;subst h;by_cases hc:(NameKind.free==NameKind.free&&env.scope.kind==.function&&env.kindOf n==some .cell)=true
   ·left;simp only[hc,if_true];rw[i4,q]
   ·right;simp only[hc,gm,if_false];rw[i4,q]
  |false=>
   rw[q] at h;by_cases hc:(j==NameKind.free&&env.scope.kind==.function&&env.kindOf n==some .cell)=true
   ·simp only[hc,if_true];rw[i4,q];exact ih h
   ·simp only[hc,gm,if_false];rw[i4,q];exact ih h
def cW (X:Cx)(N:List u8)(scope:Scope)(s:wv)(H:Hp)(fp:List ww):Cx where
 prog:=X.prog
 w:=X.w
 K:=X.K
 mg:=X.mg
 base:=X.base
 A:=X.A
 N:=N
 s₀:=s
 H₀:=H
 env:=compEnvC scope (kl (s.heap.objs.size+1) scope.names (eZ X.env.cells scope.names [])) s.heap.objs.size X.env
 outer:=X.stack
 stack:=X.stack
 ex:=fp
 fn:=λx=>scope.names.lookup x==some .cell
 calm:=X.calm
 pn:=[]
 xe:=λ_ _=>False
def aMa (σ:St):Option Nat->Option V
 |none=>none
 |some j=>(σ[j]?).join
def iX (N:List u8)(names encl:List (u8×NameKind))(N':List u8)(ix:List (Option Nat)):Bool:=
 decide ((names.map (·.1)).Nodup)&&names.all (λp=>!(p.2==NameKind.free)||(encl.lookup p.1==some NameKind.cell||encl.lookup p.1==some NameKind.free))&&ix.length==N'.length &&
  ((N'.zip ix).all λp=>match p.2 with
   |none=>true
   |some j=>N[j]?==some p.1&&names.lookup p.1==some NameKind.free)
def bJ (ix:List (Option Nat))(wi:TI)(g:TG)(ts:List TT)(tb:ww->TS):TE:=λσ H Q=>wi σ H λJ H1=>∀acc,H1 acc=none ->
 dP J g (jC ts (tb acc)) {nx:=λ_ H'=>Q (.ref acc) H',rt:=λ_ _=>False} (ix.map (aMa σ)) (upd H1 acc (.lst []))
def aEd {scope:Scope}{N':List u8}{ix:List (Option Nat)}{pins:List (ww×Obj)}{σ:St}{H:Hp}{s:wv}{fp:List ww}(I:Inv X pins σ H s)(hok:iX X.N scope.names X.env.scope.names N' ix=true)(hk:scope.kind=.function)(hf:∀b∈fp,aBI X pins H b)(hfo:∀b∈fp,∃o,s.heap.get? b=some o)(h:∀s',(∀b o,s.heap.get? b=some o->s'.heap.get? b=some o)->Inv (cW X N' scope s H fp) [] (ix.map (aMa σ)) H s'->Q (newEnv scope s.heap.objs.size X.env.globals (kl (s.heap.objs.size+1) scope.names (eZ X.env.cells scope.names [])) X.env.qual none .none (some X.env) Bx) s'):
  v4 (v6 X.prog X.w) X.A (AS scope X.env.globals (eZ X.env.cells scope.names []) [] X.env.qual none .none (some X.env)) Q E s:=by
 have hok2:=hok;simp only[iX,cz,decide_eq_true_eq,dk] at hok;obtain⟨⟨⟨nd,hfr⟩,hlen⟩,hix⟩:=hok;have hlen:ix.length=N'.length:=by simpa using hlen
 have isF:∀y∈scope.names,y.2=.free->X.env.kindOf y.1=some .cell\/X.env.kindOf y.1=some .free:=λy hy e=>by
  have:=hfr y hy;have:X.env.scope.names.lookup y.1=some .cell\/X.env.scope.names.lookup y.1=some .free:=by simpa[e] using this
  exact this
 have hasC:∀y∈scope.names,y.2=.free->(X.env.cells.lookup y.1).isSome=true:=λy hy e=>by
  obtain⟨c,hc⟩:=I.ok.has y.1 (isF y hy e);rw[hc];rfl
 have oldC:∀x c,(x,c)∈eZ X.env.cells scope.names []->(x,NameKind.free)∈scope.names/\X.env.cells.lookup x=some c:=λx c hm=>(pB _ _ hasC hm).resolve_left (by simp);have ltC:∀x c,X.env.cells.lookup x=some c->c<s.heap.objs.size:=λx c e=>by obtain⟨v,q⟩:=I.cell x c e;exact q.lt
 have apart:(kl (s.heap.objs.size+1) scope.names (eZ X.env.cells scope.names [])).Pairwise λx y=>x.2≠y.2:=
  fE _ _ _ (λp hp=>gk (ltC p.1 p.2 (oldC p.1 p.2 hp).2)) (kB I.ok.inj _ _ nd hasC (by simp) List.Pairwise.nil)
 have fromC:∀x c,(kl (s.heap.objs.size+1) scope.names (eZ X.env.cells scope.names [])).lookup x=some c->(s.heap.objs.size+1<=c/\(x,NameKind.cell)∈scope.names)\/((x,NameKind.free)∈scope.names/\X.env.cells.lookup x=some c):=λx c e=>
  (fX _ _ _ (ic e)).imp id λz=>oldC x c z
 have sz1:(s.heap.push {cls:=.type "dict",data:=.dict #[]}).objs.size=s.heap.objs.size+1:=f6 ..;simp only[AS,Option.isSome_some,if_true];refine ae (wpAny_alloc ?_);refine ae (wpAny_layCells _ (λname kind cells=>by cases hkc:kind==NameKind.cell<;>simp[hkc]) _ _ _ _ ?_);rw[show({s with heap:=s.heap.push {cls:=.type "dict",data:=.dict #[]}}:wv).heap.objs.size=s.heap.objs.size+1 from sz1];refine ae ?_;rw[qh];refine ao (ao ?_);have keep:∀b o,s.heap.get? b=some o->(Ca (s.heap.push {cls:=.type "dict",data:=.dict #[]}) scope.names).get? b=some o:=λb o e=>Ai _ _ b o (aj _ e);refine h _ keep ?_;have kk:∀x:u8,(cW X N' scope s H fp).env.kindOf x=(BC scope X.env).names.lookup x:=λ_=>rfl;have emptyC:∀x c,(kl (s.heap.objs.size+1) scope.names (eZ X.env.cells scope.names [])).lookup x=some c->∃v,(Ca (s.heap.push {cls:=.type "dict",data:=.dict #[]}) scope.names).IsCell c v:=λx c e=>by
  have:=fD (x:=x) (c:=c) scope.names (s.heap.push {cls:=.type "dict",data:=.dict #[]}) (eZ X.env.cells scope.names []) (by rw[sz1];exact ic e);rcases this with z|z
  ·obtain⟨v,q⟩:=I.cell x c (oldC x c z).2;exact⟨v,q.keeps keep⟩
  ·exact⟨none,z⟩
 refine⟨⟨I.ok.mod,hk,I.ok.glob,I.ok.blt,ar _,λy z c h1 h2=>?_,λy hy=>?_,λy c hy e=>?_,I.ok.hd,I.ok.frames,.inl rfl,λb hb=>⟨?_,λx c e=>?_⟩,I.bs,bo I.ok.bsz I.sz,λb o e hb=>?_,λb hb hs=>?_,I.stack,I.stkFree⟩,
  rfl,I.bare,Un.kept keep,⟨λ_=>none,(Heap.Ns.new s.heap (.type "dict")).keeps (Ai _ _),λi x v e1 e2 e3=>?_⟩,emptyC,I.hok.fresh (ar _),λy c e=>?_,λp hp=>absurd (show p∈([]:List (ww×Obj)) from hp) (by simp),I.hok.kept keep,by rw[af];exact hlen⟩
 ·exact name_of_addr apart (ic h1) (ic h2)
 ·rw[kk] at hy;have hy':scope.names.lookup y=some .cell\/scope.names.lookup y=some .free:=by
   rcases hy with q|q
   ·exact lT q (.inl rfl)
   ·exact lT q (.inr rfl)
  refine jr.mp (tm _ _ _ ?_);rcases hy' with q|q
  ·exact .inl q
  ·have hm:=ic q;obtain⟨c,hc⟩:=jr.mp (hasC _ hm rfl);exact .inr (by rw[rV hc _ _ hm];rfl)
 ·have hy:scope.names.lookup y=some .cell:=by simpa using(show(scope.names.lookup y==some NameKind.cell)=true from hy)
  rcases fromC y c e with z|z
  ·exact xp z.1
  ·have:=dA nd z.1;rw[hy] at this;cases this
 ·obtain⟨o,ho⟩:=hfo b hb;exact di (bx ho)
 ·rcases fromC x c e with z|z
  ·obtain⟨o,ho⟩:=hfo b hb;exact jo (av (bx ho) (xp z.1))
  ·exact(hf b hb).2.2.2.2.1 x c z.2
 ·rcases(hf b hb).2.2.2.1 with z|z
  ·exact I.ok.noex b o e z
  ·exact absurd (av (bx (I.ok.bs b o e).1) z) (kn _)
 ·rcases b8.mp (I.stkSub b hs) with z|z
  ·exact(hf b hb).2.1 z
  ·exact(hf b hb).2.2.1 z
 ·rw[bp] at e2;cases hj:ix[i]? with
  |none=>rw[hj] at e2;cases e2
  |some oj=>
   rw[hj] at e2;have e2:aMa σ oj=some v:=by simpa using e2
   cases oj with
   |none=>cases e2
   |some j=>
    have hv:σ[j]?=some (some v):=by
     have e2':(σ[j]?).join=some v:=e2;cases q:σ[j]? with
     |none=>rw[q] at e2';cases e2'
     |some w=>rw[q] at e2';have:w=some v:=e2';rw[this]
    have hz:(x,some j)∈N'.zip ix:=by
     refine au (i:=i) ?_;rw[List.getElem?_zip_eq_some];exact⟨e1,hj⟩
    have:=hix _ hz;simp only[cz,beq_iff_eq] at this;obtain⟨n1,n2⟩:=this;have hm:=ic n2;obtain⟨m,hn,hl⟩:=I.loc;have kf:=isF (x,.free) hm rfl;have vis:Vis X.env.scope x:=by
     rcases kf with q|q
     ·exact .inr (.inl q)
     ·exact .inr (.inr q)
    obtain⟨u,r,l⟩:=hl j x v n1 hv vis;refine⟨u,r,.inr ?_⟩;rcases l with⟨k1,_⟩|⟨_,c,hc,hcell⟩
    ·rcases kf with q|q<;>(rw[show X.env.kindOf x=some NameKind.local from k1] at q;cases q)
    ·refine⟨?_,c,?_,hcell.keeps keep⟩
     ·rw[kk];exact aAY I.ok.kind n2
     ·show(kl _ _ _).lookup x=some c;rw[gT,rV hc _ _ hm];intro z;have:=dA nd z;rw[n2] at this;cases this
 ·rcases fromC y c e with z|z
  ·exact I.hok.fresh (xp z.1)
  ·exact I.freeC y c z.2
def wT {elt target iter:ut}{ifs:List ut}{rest:List Comprehension}{scope:Scope}{pos:Pos}{N':List u8}{ix:List (Option Nat)}{g:TG}{ts:List TT}{tb:ww->TS}{pins:List (ww×Obj)}{σ:St}{H:Hp}{s:wv}{it:ww}{fp:List ww}{tn:Nat->jp->Prop}{J:It}{RR:wn->ww->BG->wv->Prop}{D:ww->xX}(hc:X.calm=true)(hok:iX X.N scope.names X.env.scope.names N' ix=true)(hk:scope.kind=.function)(hn:∀g',rest[0]?=some g'->g'.is_async=0)(hg:∀s H fp,PG (cW X N' scope s H fp) target g)(hts:∀s H fp,PTs (cW X N' scope s H fp) ifs ts)(hb:∀s H fp acc,PB (cW X N' scope s H fp) elt (⟨target,iter,ifs,0⟩::rest) scope pos 0 acc (tb acc))(I:Inv X pins σ H s)(T:aJB X.prog X.w X.K target J fp it tn)(st:tn 0 s.heap)(hf:∀b∈fp,aBI X pins H b)(h:∀acc,H acc=none->dP J g (jC ts (tb acc)) (D acc) (ix.map (aMa σ)) (upd H acc (.lst [])))(hR:∀acc C s' H' σ',H acc=none->s.heap.objs.size<=C->Inv X pins σ H' s'->aBI X pins H' C->(∃m,s'.heap.Ns C m)->(D acc).nx σ' H'->RR (.ref acc) C (.ok .next) s'):
  v4 (v6 X.prog X.w) X.A (Cb []) (λacc s₃=>v4 (v6 X.prog X.w) X.A (AS scope X.env.globals (eZ X.env.cells scope.names []) [] X.env.qual none .none (some X.env)) (λcenv s₄=>
   ve (v6 X.prog X.w) X.A (.compStart (.ListComp elt (⟨target,iter,ifs,0⟩::rest) scope pos) 0 (.ref it) acc {cenv with scope:=BC scope X.env}) (λr s'=>∃f,r=.ok f/\RR acc cenv.locals (.ok .next) s') s₄) E s₃) E s:=by
 refine dz ?_;have hnone:H s.heap.objs.size=none:=I.hok.fresh (ar _);have I3:Inv X pins σ (upd H s.heap.objs.size (.lst [])) {s with heap:=s.heap.push {cls:=.type "list",data:=.seq ([]:List wn).toArray}}:=
  I.laid (t':=s.toks) (λb u e=>aj _ e) (ar _) ⟨bh _,[],0,.nil,bg _ rfl⟩
 have hlt:∀b∈fp,b<s.heap.objs.size:=λb hb=>by obtain⟨o,ho,_⟩:=T.obj 0 _ st b hb;exact bx ho
 have hf3:∀b∈fp,aBI X pins (upd H s.heap.objs.size (.lst [])) b:=λb hb=>⟨by rw[aM (di (hlt b hb))];exact(hf b hb).1,(hf b hb).2⟩;refine aEd (fp:=fp) I3 hok hk hf3 (λb hb=>?_) λs4 keep I4=>?_
 ·obtain⟨o,ho,_⟩:=T.obj 0 _ st b hb;exact⟨o,aj _ ho⟩
 have st4:tn 0 s4.heap:=T.keep 0 _ _ st λb hb o e=>keep b o (aj _ e);have size3:({s with heap:=s.heap.push {cls:=.type "list",data:=.seq ([]:List wn).toArray}}:wv).heap.objs.size=s.heap.objs.size+1:=f6 ..;have hf4:∀b∈fp,aBI (cW X N' scope {s with heap:=s.heap.push {cls:=.type "list",data:=.seq ([]:List wn).toArray}} (upd H s.heap.objs.size (.lst [])) fp) [] (upd H s.heap.objs.size (.lst [])) b:=λb hb=>
  ⟨(hf3 b hb).1,(I4.ok.exf b hb).1,I4.ok.exfs b hb,.inl hb,(I4.ok.exf b hb).2,λp hp=>absurd (show p∈([]:List (ww×Obj)) from hp) (by simp)⟩
 refine jq (aBl (X:=cW X N' scope {s with heap:=s.heap.push {cls:=.type "list",data:=.seq ([]:List wn).toArray}} (upd H s.heap.objs.size (.lst [])) fp) rfl hc (d:=0) (gens:=⟨target,iter,ifs,0⟩::rest) rfl hn (hg _ _ _) (hts _ _ _) (hb _ _ _ _) T I4 st4 hf4 (h _ hnone)) λr s5 ⟨f,hr,σ5,H5,I5,q5⟩=>⟨f,hr,?_⟩;have I6:Inv X pins σ H5 s5:=I3.call' (ch:=fp) (I5.os.trans rfl) I5.base I5.hok I5.bare λb hb=>⟨(hf3 b hb).2.2.2.1,(hf3 b hb).2.1,(hf3 b hb).2.2.2.2.1,(hf3 b hb).2.2.2.2.2⟩;have hC:s.heap.objs.size<=(cW X N' scope {s with heap:=s.heap.push {cls:=.type "list",data:=.seq ([]:List wn).toArray}} (upd H s.heap.objs.size (.lst [])) fp).env.locals:=by
  show s.heap.objs.size<=_;exact bo (vh _) (Nat.le_of_eq size3.symm)
 refine hR _ _ s5 H5 σ5 hnone hC I6 (I3.fpOk (ar _) I5.free) ?_ q5;obtain⟨m,hm,_⟩:=I5.loc;exact⟨m,hm⟩
def pR {X:Cx}{scope:Scope}{N':List u8}{ix:List (Option Nat)}(hok:iX X.N scope.names X.env.scope.names N' ix=true):∀x∈scope.names,x.2=.local->scope.names.lookup x.1=some .local:=by
 simp only[iX,cz,decide_eq_true_eq,dk] at hok;intro x hx e;obtain⟨n,k⟩:=x;have e:k=.local:=e;subst e;exact dA hok.1.1.1 hx
def uZ {scope:Scope}{N':List u8}{ix:List (Option Nat)}{pins:List (ww×Obj)}{σ:St}{H:Hp}{s:wv}(I:Inv X pins σ H s)(hok:iX X.N scope.names X.env.scope.names N' ix=true):closureFor scope X.env=pure (eZ X.env.cells scope.names []):=by
 refine vZ λy hy e=>?_;simp only[iX,cz,decide_eq_true_eq,dk] at hok;have:=hok.1.1.2 y hy;have:X.env.scope.names.lookup y.1=some .cell\/X.env.scope.names.lookup y.1=some .free:=by simpa[e] using this
 obtain⟨c,hc⟩:=I.ok.has y.1 this;rw[hc];rfl
def iQ (hok:iX X.N scope.names X.env.scope.names N' ix=true)(hk:scope.kind=.function)(hc:X.calm=true)(hi:PI X target iter wi)(hg:∀s H fp,PG (cW X N' scope s H fp) target g)(hts:∀s H fp,PTs (cW X N' scope s H fp) ifs ts)(hb:∀s H fp acc,PB (cW X N' scope s H fp) elt (⟨target,iter,ifs,0⟩::rest) scope pos 0 acc (tb acc))(hn:∀g',rest[0]?=some g'->g'.is_async=0:=by intro _ h;first|cases h;rfl|cases h)(hs:∀x,k9 iter X.env x=pure x:=by intro _;rfl):
  PE X (.ListComp elt (⟨target,iter,ifs,0⟩::rest) scope pos) (bJ ix wi g ts tb):=by
 intro pins s σ H Q I h;rw[eval_ListComp];refine xq (use:=none) rfl hs (uZ I hok) hk (pR hok) (thn (hi pins s σ H _ I h) λxv s₁ h₁=>thn h₁ λitv s₂ h₂=>?_);obtain⟨it,fp,tn,J,H2,e,I2,T,st2,f2,q2⟩:=h₂;subst e;refine thn (wT (RR:=λacc C r s'=>compPost (v6 X.prog X.w) X.A X.xe none (EP X pins σ Q) acc C r s') hc hok hk hn hg hts hb I2 T st2 f2 q2 λacc C s' H' σ' ha hC I' fC hns q=>?_) λacc s3 h3=>thn h3 λcenv s4 h4=>jq h4 λr s5 ⟨f,hr,h5⟩=>?_
 ·obtain⟨m,hm⟩:=hns;refine⟨m,hm,λh' hs'=>⟨.ref acc,H',I'.turned (t':=s'.toks) (λb o hb e=>(hs'.2 b hb).trans e) fC.1 fC.2.1 fC.2.2.2.1 fC.2.2.2.2.1 fC.2.2.2.2.2,rfl,q⟩⟩
 ·subst hr;exact h5
def jK {elt target iter:ut}{ifs:List ut}{rest:List Comprehension}{scope:Scope}{pos:Pos}{N':List u8}{ix:List (Option Nat)}{wi:TI}{g:TG}{ts:List TT}{tb:ww->TS}{i:Nat}{x:u8}{pos' spos:Pos}(hN:X.N.Nodup)(hix:X.N[i]?=some x)(hx:Loc X.env.scope x)(hok:iX X.N scope.names X.env.scope.names N' ix=true)(hk:scope.kind=.function)(hc:X.calm=true)(hi:PI X target iter wi)(hg:∀s H fp,PG (cW X N' scope s H fp) target g)(hts:∀s H fp,PTs (cW X N' scope s H fp) ifs ts)(hb:∀s H fp acc,PB (cW X N' scope s H fp) elt (⟨target,iter,ifs,0⟩::rest) scope pos 0 acc (tb acc))(hsw:BY (.ListComp elt (⟨target,iter,ifs,0⟩::rest) scope pos) (some (.Name x pos')) spos.line X.env=pure true:=by rfl)(hf:X.fn x=true\/X.env.scope.names.lookup x=some .local:=by first|exact .inl rfl|exact .inr rfl|assumption)(hn:∀g',rest[0]?=some g'->g'.is_async=0:=by intro _ h;first|cases h;rfl|cases h)(hs:∀x,k9 iter X.env x=pure x:=by intro _;rfl):
  PS X (.Assign [.Name x pos'] (.ListComp elt (⟨target,iter,ifs,0⟩::rest) scope pos) spos) (aP (bJ ix wi g ts tb) (aE i)):=by
 intro pins s σ H D I h;rw[exec_Assign_Name_used _ _ _ _ hsw];refine ae (rj (ae ?_));show v4 _ X.A (do let _ <- comprehension (.ListComp elt (⟨target,iter,ifs,0⟩::rest) scope pos) scope X.env _ (Cb []) false (eval iter X.env) (some (BF (.Name x pos') X.env))) _ _ s;refine ae (jf (xq (use:=some (BF (.Name x pos') X.env)) (Q:=λ_ s'=>SP X pins D .next s') rfl hs (uZ I hok) hk (pR hok) (thn (hi pins s σ H _ I h) λxv s₁ h₁=>thn h₁ λitv s₂ h₂=>?_)) (λ_ s' hq=>ao (ao hq)) λ_ _ e=>e);obtain⟨it,fp,tn,J,H2,e,I2,T,st2,f2,q2⟩:=h₂;subst e;refine thn (wT (RR:=λacc C r s'=>compPost (v6 X.prog X.w) X.A X.xe (some (BF (.Name x pos') X.env)) (λ_ s'=>SP X pins D .next s') acc C r s') hc hok hk hn hg hts hb I2 T st2 f2 q2 λacc C s' H' σ' ha hC I' fC hns q=>?_) λacc s3 h3=>thn h3 λcenv s4 h4=>jq h4 λr s5 ⟨f,hr,h5⟩=>?_
 ·obtain⟨m,hm⟩:=hns;show v4 _ X.A (BF (.Name x pos') X.env (.ref acc)) _ _ _;refine wpAny_assign_Name (aAS I' hN hix hx (v:=.ref acc) rfl (λs6 I6 ⟨a,hsb,ha6⟩=>?_) hf);have hCa:C≠a:=by
   rcases ha6 with z|z
   ·rw[z];exact fC.2.1
   ·exact(fC.2.2.2.2.1 x a z).symm
  refine⟨m,hm.sameBut hsb hCa,λh' hs'=>⟨_,H',I6.turned (t':=s6.toks) (λb o hb e=>(hs'.2 b hb).trans e) fC.1 fC.2.1 fC.2.2.2.1 fC.2.2.2.2.1 fC.2.2.2.2.2,q⟩⟩
 ·subst hr;exact h5
def Same.tup {K:aa}{H H':Hp}{a:ww}{xs:List V}(e:Same H H')(h:SqT K H a xs):SqT K H' a xs:=by
 rcases h with(h|⟨o,h⟩)|h
 ·exact .inl (.inl (e _ _ h))
 ·exact .inl (.inr ⟨o,e _ _ h⟩)
 ·exact .inr h
inductive Dt where
 |non|bl (b:Bool)|int (i:Int)|str (x:u8)|tup (ds:List Dt)|lst (ds:List Dt)
mutual
def Sh (K:aa)(H:Hp):Dt->V->Prop
 |.non,v=>v=.non
 |.bl b,v=>v=.bl b
 |.int i,v=>v=.int i
 |.str x,v=>v=.str x
 |.tup ds,v=>∃a xs,v=.ref a/\SqT K H a xs/\ShL K H ds xs
 |.lst ds,v=>∃a xs,v=.ref a/\SqL K H a xs/\ShL K H ds xs
def ShL (K:aa)(H:Hp):List Dt->List V->Prop
 |[],xs=>xs=[]
 |d::ds,xs=>∃x r,xs=x::r/\Sh K H d x/\ShL K H ds r
end
mutual
def eqD:Dt->Dt->Bool
 |.non,.non=>true
 |.bl a,.bl b=>a==b
 |.int a,.int b=>a==b
 |.str a,.str b=>a==b
 |.bl a,.int b=>(if a then 1 else 0)==b
 |.int a,.bl b=>a==(if b then 1 else 0)
 |.tup ds,.tup es=>eqL ds es
 |.lst ds,.lst es=>eqL ds es
 |_,_=>false
def eqL:List Dt->List Dt->Bool
 |[],[]=>true
 |d::ds,e::es=>eqD d e&&eqL ds es
 |_,_=>false
end
mutual
def dep:Dt->Nat
 |.tup ds=>kZ ds+1
 |.lst ds=>kZ ds+1
 |_=>0
def kZ:List Dt->Nat
 |[]=>0
 |d::ds=>max (dep d) (kZ ds)
end
section
variable {K:aa}{H H':Hp}
mutual
theorem Sh.same (e:Same H H'):∀{d:Dt}{v:V},Sh K H d v->Sh K H' d v
 |.non,_,h=>h
 |.bl _,_,h=>h
 |.int _,_,h=>h
 |.str _,_,h=>h
 |.tup ds,_,⟨a,xs,h1,h2,h3⟩=>⟨a,xs,h1,e.tup h2,ShL.same e h3⟩
 |.lst ds,_,⟨a,xs,h1,h2,h3⟩=>⟨a,xs,h1,e.seq h2,ShL.same e h3⟩
theorem ShL.same (e:Same H H'):∀{ds:List Dt}{xs:List V},ShL K H ds xs->ShL K H' ds xs
 |[],_,h=>h
 |d::ds,_,⟨x,r,h1,h2,h3⟩=>⟨x,r,h1,Sh.same e h2,ShL.same e h3⟩
end
theorem ShL.length:∀{ds:List Dt}{xs:List V},ShL K H ds xs->ds.length=xs.length
 |[],_,h=>by rw[show _=[] from h];rfl
 |d::ds,_,⟨x,r,h1,h2,h3⟩=>by rw[h1,c5,c5,ShL.length h3]
theorem ShL.get:∀{ds:List Dt}{xs:List V}{j:Nat}{d:Dt},ShL K H ds xs->ds[j]?=some d->∃x,xs[j]?=some x/\Sh K H d x
 |[],_,_,_,_,h=>by simp at h
 |d::ds,_,0,e,⟨x,r,h1,h2,h3⟩,h=>by
  have:d=e:=by simpa using h
  subst this;exact⟨x,by rw[h1];rfl,h2⟩
 |d::ds,_,j+1,e,⟨x,r,h1,h2,h3⟩,h=>by
  obtain⟨y,h4,h5⟩:=ShL.get (j:=j) h3 (by simpa using h);exact⟨y,by rw[h1];simpa using h4,h5⟩
theorem ShL.ints:∀(ns:List Int),ShL K H (ns.map Dt.int) (ns.map V.int)
 |[]=>rfl
 |n::ns=>⟨.int n,ns.map V.int,rfl,rfl,ShL.ints ns⟩
theorem ShL.of_ints:∀{ns:List Int}{xs:List V},ShL K H (ns.map Dt.int) xs->xs=ns.map V.int
 |[],_,h=>h
 |n::ns,_,⟨x,r,h1,h2,h3⟩=>by rw[h1,ShL.of_ints h3,show x=V.int n from h2];rfl
end
mutual
theorem aDI:∀d:Dt,eqD d d=true
 |.non=>by unfold eqD;rfl
 |.bl b=>by unfold eqD;simp
 |.int b=>by unfold eqD;simp
 |.str b=>by unfold eqD;simp
 |.tup ds=>by unfold eqD;exact eQ ds
 |.lst ds=>by unfold eqD;exact eQ ds
theorem eQ:∀ds:List Dt,eqL ds ds=true
 |[]=>by unfold eqL;rfl
 |d::ds=>by unfold eqL;rw[aDI d,eQ ds];rfl
end
theorem oK:∀{ds es:List Dt},eqL ds es=true->ds.length=es.length
 |[],[],_=>rfl
 |[],_::_,h=>by unfold eqL at h;cases h
 |_::_,[],h=>by unfold eqL at h;cases h
 |d::ds,e::es,h=>by
  unfold eqL at h;rw[c5,c5,oK (uv.mp h).2]
def jV (n:Nat)(f:Nat->Bool):(bc (n+1)).all f=(f 0&&(bc n).all λj=>f (j+1)):=by
 rw[l9,pf,Aj];rfl
theorem pA:∀(ds es:List Dt),((bc (min ds.length es.length)).all (λj=>eqD (ds.getD j .non) (es.getD j .non))&&ds.length==es.length)=eqL ds es
 |[],[]=>by unfold eqL;rfl
 |[],e::es=>by unfold eqL;simp
 |d::ds,[]=>by unfold eqL;simp
 |d::ds,e::es=>by
  have ih:=pA ds es;unfold eqL;rw[<- ih,c5,c5,Nat.succ_min_succ,jV,Bool.and_assoc];congr 1;congr 1;simp
def zQ {ds:List Dt}{j:Nat}{d:Dt}(h:ds[j]?=some d):dep d<=kZ ds:=by
 induction ds generalizing j with
 |nil=>simp at h
 |cons e es ih=>
  unfold kZ;cases j with
  |zero=>
   have:e=d:=by simpa using h
   subst this;exact Nat.le_max_left _ _
  |succ j=>exact bo (ih (by simpa using h)) (Nat.le_max_right _ _)
section
variable {X:Cx}{pins:List (ww×Obj)}{σ:St}{H:Hp}{s:wv}
def Inv.tl_ne (I:Inv X pins σ H s)(h:SqT X.K H a xs)(h':SqL X.K H a ys):False:=by
 obtain⟨its,r,⟨o,e,c,n,d⟩,_⟩:=I.tuple h;obtain⟨its',r',⟨o',n',e',c',_,d'⟩,_⟩:=I.list h';rw[e] at e';cases e';rw[c] at c';simp at c'
mutual
theorem Inv.sh_inj (I:Inv X pins σ H s):∀{d e:Dt}{v:V},Sh X.K H d v->Sh X.K H e v->d=e
 |.non,e,v,h,h'=>by
  have h:v=.non:=h;subst h;cases e<;>first|rfl|(exact absurd (show V.non=_ from h') (λz=>nomatch z))|(obtain⟨_,_,z,_⟩:=h';cases z)
 |.bl b,e,v,h,h'=>by
  have h:v=.bl b:=h;subst h;cases e<;>first|(cases (show V.bl b=V.bl _ from h');rfl)|(exact absurd (show V.bl b=_ from h') (λz=>nomatch z))|(obtain⟨_,_,z,_⟩:=h';cases z)
 |.int b,e,v,h,h'=>by
  have h:v=.int b:=h;subst h;cases e<;>first|(cases (show V.int b=V.int _ from h');rfl)|(exact absurd (show V.int b=_ from h') (λz=>nomatch z))|(obtain⟨_,_,z,_⟩:=h';cases z)
 |.str b,e,v,h,h'=>by
  have h:v=.str b:=h;subst h;cases e<;>first|(cases (show V.str b=V.str _ from h');rfl)|(exact absurd (show V.str b=_ from h') (λz=>nomatch z))|(obtain⟨_,_,z,_⟩:=h';cases z)
 |.tup ds,e,v,⟨a,xs,h1,h2,h3⟩,h'=>by
  subst h1;cases e with
  |tup es=>
   obtain⟨a',xs',z,h2',h3'⟩:=h';cases z;rw[I.tuple_inj h2' h2] at h3';rw[Inv.shL_inj I h3 h3']
  |lst es=>
   obtain⟨a',xs',z,h2',h3'⟩:=h';cases z;exact(I.tl_ne h2 h2').elim
  |_=>exact absurd (show V.ref a=_ from h') (λz=>nomatch z)
 |.lst ds,e,v,⟨a,xs,h1,h2,h3⟩,h'=>by
  subst h1;cases e with
  |lst es=>
   obtain⟨a',xs',z,h2',h3'⟩:=h';cases z;rw[I.list_inj h2' h2] at h3';rw[Inv.shL_inj I h3 h3']
  |tup es=>
   obtain⟨a',xs',z,h2',h3'⟩:=h';cases z;exact(I.tl_ne h2' h2).elim
  |_=>exact absurd (show V.ref a=_ from h') (λz=>nomatch z)
theorem Inv.shL_inj (I:Inv X pins σ H s):∀{ds es:List Dt}{xs:List V},ShL X.K H ds xs->ShL X.K H es xs->ds=es
 |[],[],_,_,_=>rfl
 |[],e::es,_,h,⟨x,r,h1,_⟩=>by rw[show _=[] from h] at h1;cases h1
 |d::ds,[],_,⟨x,r,h1,_⟩,h=>by rw[show _=[] from h] at h1;cases h1
 |d::ds,e::es,_,⟨x,r,h1,h2,h3⟩,⟨x',r',h1',h2',h3'⟩=>by
  rw[h1] at h1';cases h1';rw[Inv.sh_inj I h2 h2',Inv.shL_inj I h3 h3']
end
end
section
open PySem.SeqAt
def qZ {X:Cx}{H:Hp}{s:wv}{ds es:List Dt}{xs ys:List V}{us vs:List wn}(hs:ShL X.K H ds xs)(hr:Vals xs us)(hs':ShL X.K H es ys)(hr':Vals ys vs)(h:∀(d e:Dt) (x y:V) (u v:wn),(∃j:Nat,ds[j]?=some d)->RelV x u->RelV y v->Sh X.K H d x->Sh X.K H e y->EqAt A s u v (eqD d e)):
  ∀j (h1:j<us.toArray.size) (h2:j<vs.toArray.size),EqAt A s us.toArray[j] vs.toArray[j] (eqD (ds.getD j .non) (es.getD j .non)):=by
 intro j h1 h2;have l1:=hs.length;have l2:=hr.length;have l3:=hs'.length;have l4:=hr'.length;have g1:j<us.length:=by simpa using h1
 have g2:j<vs.length:=by simpa using h2
 have e1:ds[j]?=some (ds.getD j .non):=by rw[ak,ah (by lia)];rfl
 have e2:es[j]?=some (es.getD j .non):=by rw[ak,ah (by lia)];rfl
 obtain⟨x,hx,sx⟩:=hs.get e1;obtain⟨y,hy,sy⟩:=hs'.get e2;obtain⟨u,hu,ru⟩:=hr.get hx;obtain⟨v,hv,rv⟩:=hr'.get hy;have q1:us.toArray[j]=u:=by
  rw[ah g1] at hu;simpa using hu
 have q2:vs.toArray[j]=v:=by
  rw[ah g2] at hv;simpa using hv
 rw[q1,q2];exact h _ _ x y u v ⟨j,e1⟩ ru rv sx sy
def Inv.eq_sh {pins:List (ww×Obj)}{σ:St}{H:Hp}{s:wv}(I:Inv X pins σ H s):∀(n:Nat) (A:xz) (d e:Dt) (x y:V) (u v:wn),dep d<=n->A.units+n<cLine->RelV x u->RelV y v->Sh X.K H d x->Sh X.K H e y->RcAt A s u v (eqD d e)/\EqAt A s u v (eqD d e):=by
 intro n
 induction n with
 |zero=>
  intro A d e x y u v hd hu rx ry hx hy;have hu0:A.units<cLine:=by lia
  cases d with
  |tup ds=>unfold dep at hd;lia
  |lst ds=>unfold dep at hd;lia
  |non=>
   obtain rfl:x=.non:=hx;obtain rfl:u=Value.none:=rx;cases e with
   |non=>obtain rfl:y=.non:=hy;obtain rfl:v=Value.none:=ry;unfold eqD;exact⟨RcAt.none_none,EqAt.same _⟩
   |bl b=>obtain rfl:y=.bl b:=hy;obtain rfl:v=Value.bool b:=ry;unfold eqD;exact⟨RcAt.none_bool b,EqAt.none_bool b⟩
   |int b=>obtain rfl:y=.int b:=hy;obtain⟨t,rfl⟩:=ry;unfold eqD;exact⟨RcAt.none_int b t,EqAt.none_int b t⟩
   |str b=>obtain rfl:y=.str b:=hy;obtain⟨t,rfl⟩:=ry;unfold eqD;exact⟨RcAt.none_str b t,EqAt.none_str b t⟩
   |tup es=>obtain⟨b,ys,rfl,hq,_⟩:=hy;obtain rfl:v=Value.ref b:=ry;obtain⟨its,_,p,_⟩:=I.tuple hq;unfold eqD;exact⟨RcAt.none_tuple (show s.heap.IsTuple b its.toArray from p) hu0,EqAt.none_tuple (show s.heap.IsTuple b its.toArray from p) hu0⟩
   |lst es=>obtain⟨b,ys,rfl,hq,_⟩:=hy;obtain rfl:v=Value.ref b:=ry;obtain⟨its,_,p,_⟩:=I.list hq;unfold eqD;exact⟨RcAt.none_list p.isList hu0,EqAt.none_list p.isList hu0⟩
  |bl a=>
   obtain rfl:x=.bl a:=hx;obtain rfl:u=Value.bool a:=rx;cases e with
   |non=>obtain rfl:y=.non:=hy;obtain rfl:v=Value.none:=ry;unfold eqD;exact⟨RcAt.bool_none a,EqAt.bool_none a⟩
   |bl b=>obtain rfl:y=.bl b:=hy;obtain rfl:v=Value.bool b:=ry;unfold eqD;exact⟨RcAt.bool_bool a b,EqAt.bool_bool a b⟩
   |int b=>obtain rfl:y=.int b:=hy;obtain⟨t,rfl⟩:=ry;unfold eqD;exact⟨RcAt.bool_int a b t,EqAt.bool_int a b t⟩
   |str b=>obtain rfl:y=.str b:=hy;obtain⟨t,rfl⟩:=ry;unfold eqD;exact⟨RcAt.bool_str a b t,EqAt.bool_str a b t⟩
   |tup es=>obtain⟨b,ys,rfl,hq,_⟩:=hy;obtain rfl:v=Value.ref b:=ry;obtain⟨its,_,p,_⟩:=I.tuple hq;unfold eqD;exact⟨RcAt.bool_tuple a (show s.heap.IsTuple b its.toArray from p) hu0,EqAt.bool_tuple a (show s.heap.IsTuple b its.toArray from p) hu0⟩
   |lst es=>obtain⟨b,ys,rfl,hq,_⟩:=hy;obtain rfl:v=Value.ref b:=ry;obtain⟨its,_,p,_⟩:=I.list hq;unfold eqD;exact⟨RcAt.bool_list a p.isList hu0,EqAt.bool_list a p.isList hu0⟩
  |int a=>
   obtain rfl:x=.int a:=hx;obtain⟨t0,rfl⟩:=rx;cases e with
   |non=>obtain rfl:y=.non:=hy;obtain rfl:v=Value.none:=ry;unfold eqD;exact⟨RcAt.int_none a t0,EqAt.int_none a t0⟩
   |bl b=>obtain rfl:y=.bl b:=hy;obtain rfl:v=Value.bool b:=ry;unfold eqD;exact⟨RcAt.int_bool a t0 b,EqAt.int_bool a t0 b⟩
   |int b=>obtain rfl:y=.int b:=hy;obtain⟨t,rfl⟩:=ry;unfold eqD;exact⟨RcAt.int_int a t0 b t,EqAt.int_int a t0 b t⟩
   |str b=>obtain rfl:y=.str b:=hy;obtain⟨t,rfl⟩:=ry;unfold eqD;exact⟨RcAt.int_str a t0 b t,EqAt.int_str a t0 b t⟩
   |tup es=>obtain⟨b,ys,rfl,hq,_⟩:=hy;obtain rfl:v=Value.ref b:=ry;obtain⟨its,_,p,_⟩:=I.tuple hq;unfold eqD;exact⟨RcAt.int_tuple a t0 (show s.heap.IsTuple b its.toArray from p) hu0,EqAt.int_tuple a t0 (show s.heap.IsTuple b its.toArray from p) hu0⟩
   |lst es=>obtain⟨b,ys,rfl,hq,_⟩:=hy;obtain rfl:v=Value.ref b:=ry;obtain⟨its,_,p,_⟩:=I.list hq;unfold eqD;exact⟨RcAt.int_list a t0 p.isList hu0,EqAt.int_list a t0 p.isList hu0⟩
  |str a=>
   obtain rfl:x=.str a:=hx;obtain⟨t0,rfl⟩:=rx;cases e with
   |non=>obtain rfl:y=.non:=hy;obtain rfl:v=Value.none:=ry;unfold eqD;exact⟨RcAt.str_none a t0,EqAt.str_none a t0⟩
   |bl b=>obtain rfl:y=.bl b:=hy;obtain rfl:v=Value.bool b:=ry;unfold eqD;exact⟨RcAt.str_bool a t0 b,EqAt.str_bool a t0 b⟩
   |int b=>obtain rfl:y=.int b:=hy;obtain⟨t,rfl⟩:=ry;unfold eqD;exact⟨RcAt.str_int a t0 b t,EqAt.str_int a t0 b t⟩
   |str b=>obtain rfl:y=.str b:=hy;obtain⟨t,rfl⟩:=ry;unfold eqD;exact⟨RcAt.str_str a t0 b t,EqAt.str_str a t0 b t⟩
   |tup es=>obtain⟨b,ys,rfl,hq,_⟩:=hy;obtain rfl:v=Value.ref b:=ry;obtain⟨its,_,p,_⟩:=I.tuple hq;unfold eqD;exact⟨RcAt.str_tuple a t0 (show s.heap.IsTuple b its.toArray from p) hu0,EqAt.str_tuple a t0 (show s.heap.IsTuple b its.toArray from p) hu0⟩
   |lst es=>obtain⟨b,ys,rfl,hq,_⟩:=hy;obtain rfl:v=Value.ref b:=ry;obtain⟨its,_,p,_⟩:=I.list hq;unfold eqD;exact⟨RcAt.str_list a t0 p.isList hu0,EqAt.str_list a t0 p.isList hu0⟩
 |succ n ih=>
  intro A d e x y u v hd hu rx ry hx hy;have hu0:A.units<cLine:=by lia
  by_cases hd0:dep d<=n
  ·exact ih A d e x y u v hd0 (by lia) rx ry hx hy
  cases d with
  |non=>exact absurd (bh _) hd0
  |bl a=>exact absurd (bh _) hd0
  |int a=>exact absurd (bh _) hd0
  |str a=>exact absurd (bh _) hd0
  |tup ds=>
   have hdd:kZ ds<=n:=by unfold dep at hd;lia
   have hx0:=hx;obtain⟨a,xs,rfl,hq,hl⟩:=hx;obtain rfl:u=Value.ref a:=rx;obtain⟨its,rv,p,_⟩:=I.tuple hq;have p:s.heap.IsTuple a its.toArray:=p;cases e with
   |non=>obtain rfl:y=.non:=hy;obtain rfl:v=Value.none:=ry;unfold eqD;exact⟨RcAt.tuple_none p hu0,EqAt.tuple_none p hu0⟩
   |bl b=>obtain rfl:y=.bl b:=hy;obtain rfl:v=Value.bool b:=ry;unfold eqD;exact⟨RcAt.tuple_bool b p hu0,EqAt.tuple_bool b p hu0⟩
   |int b=>obtain rfl:y=.int b:=hy;obtain⟨t,rfl⟩:=ry;unfold eqD;exact⟨RcAt.tuple_int b t p hu0,EqAt.tuple_int b t p hu0⟩
   |str b=>obtain rfl:y=.str b:=hy;obtain⟨t,rfl⟩:=ry;unfold eqD;exact⟨RcAt.tuple_str b t p hu0,EqAt.tuple_str b t p hu0⟩
   |lst es=>obtain⟨b,ys,rfl,hq',_⟩:=hy;obtain rfl:v=Value.ref b:=ry;obtain⟨its',_,p',_⟩:=I.list hq';unfold eqD;exact⟨RcAt.tuple_list p p'.isList hu0,EqAt.tuple_list p p'.isList hu0⟩
   |tup es=>
    have hy0:=hy;obtain⟨b,ys,rfl,hq',hl'⟩:=hy;obtain rfl:v=Value.ref b:=ry;obtain⟨its',rv',p',_⟩:=I.tuple hq';have p':s.heap.IsTuple b its'.toArray:=p';have he:=qZ (A:=A.in1) (s:=s) hl rv hl' rv' (λd e x y u v ⟨j,hj⟩ r1 r2 s1 s2=>(ih A.in1 d e x y u v (bo (zQ hj) hdd) (by show A.units+1+n<cLine;lia) r1 r2 s1 s2).2);have rc:=RcAt.tuples p p' hu0 he;have l1:=hl.length;have l2:=rv.length;have l3:=hl'.length;have l4:=rv'.length;rw[ay,ay,<- l2,<- l4,<- l1,<- l3,pA] at rc;unfold eqD;refine⟨rc,?_⟩;by_cases hab:a=b
    ·subst hab;have:=I.sh_inj hx0 hy0;cases this;rw[eQ];exact EqAt.same _
    ·exact EqAt.of_refs hab rc
  |lst ds=>
   have hdd:kZ ds<=n:=by unfold dep at hd;lia
   have hx0:=hx;obtain⟨a,xs,rfl,hq,hl⟩:=hx;obtain rfl:u=Value.ref a:=rx;obtain⟨its,rv,p,_⟩:=I.list hq;have p:=p.isList;cases e with
   |non=>obtain rfl:y=.non:=hy;obtain rfl:v=Value.none:=ry;unfold eqD;exact⟨RcAt.list_none p hu0,EqAt.list_none p hu0⟩
   |bl b=>obtain rfl:y=.bl b:=hy;obtain rfl:v=Value.bool b:=ry;unfold eqD;exact⟨RcAt.list_bool b p hu0,EqAt.list_bool b p hu0⟩
   |int b=>obtain rfl:y=.int b:=hy;obtain⟨t,rfl⟩:=ry;unfold eqD;exact⟨RcAt.list_int b t p hu0,EqAt.list_int b t p hu0⟩
   |str b=>obtain rfl:y=.str b:=hy;obtain⟨t,rfl⟩:=ry;unfold eqD;exact⟨RcAt.list_str b t p hu0,EqAt.list_str b t p hu0⟩
   |tup es=>obtain⟨b,ys,rfl,hq',_⟩:=hy;obtain rfl:v=Value.ref b:=ry;obtain⟨its',_,p',_⟩:=I.tuple hq';unfold eqD;exact⟨RcAt.list_tuple p (show s.heap.IsTuple b its'.toArray from p') hu0,EqAt.list_tuple p (show s.heap.IsTuple b its'.toArray from p') hu0⟩
   |lst es=>
    have hy0:=hy;obtain⟨b,ys,rfl,hq',hl'⟩:=hy;obtain rfl:v=Value.ref b:=ry;obtain⟨its',rv',p',_⟩:=I.list hq';have p':=p'.isList;have l1:=hl.length;have l2:=rv.length;have l3:=hl'.length;have l4:=rv'.length;have rc:RcAt A s (.ref a) (.ref b) (eqL ds es):=by
     by_cases hz:ds.length=es.length
     ·have he:=qZ (A:=A.in1) (s:=s) hl rv hl' rv' (λd e x y u v ⟨j,hj⟩ r1 r2 s1 s2=>(ih A.in1 d e x y u v (bo (zQ hj) hdd) (by show A.units+1+n<cLine;lia) r1 r2 s1 s2).2);have rc:=RcAt.lists p p' (by rw[ay,ay];lia) hu0 he;rw[ay,<- l2,<- l1] at rc;have q:=pA ds es;rw[<- hz,Nat.min_self,beq_self_eq_true,Bool.and_true] at q;rw[<- q];exact rc
     ·have q:eqL ds es=false:=by
       cases q:eqL ds es with
       |false=>rfl
       |true=>exact absurd (oK q) hz
      rw[q];exact RcAt.lists_lengths p p' (by rw[ay,ay];simp;lia) hu0
    unfold eqD;refine⟨rc,?_⟩;by_cases hab:a=b
    ·subst hab;have:=I.sh_inj hx0 hy0;cases this;rw[eQ];exact EqAt.same _
    ·exact EqAt.of_refs hab rc
def gH (K:aa):R2:=λx y H Q=>∃d e,dep d<=100/\Sh K H d x/\Sh K H e y/\Q (.bl (eqD d e)) H
def aNq (hu:X.A.units+100<cLine):OpR X (iw .Eq) (gH X.K):=by
 intro pins s σ H x y v u Q I rx ry ⟨d,e,hd,hx,hy,q⟩;exact(I.eq_sh 100 X.A d e x y v u hd hu rx ry hx hy).1 X.prog X.w X.xe _ ⟨.bl _,H,I,rfl,q⟩
end
section
open PySem.SeqAt
def Inv.ne_sh {pins:List (ww×Obj)}{σ:St}{H:Hp}{s:wv}(I:Inv X pins σ H s)(d e:Dt)(x y:V)(u v:wn)(hd:dep d<=100)(hu:A.units+101<cLine)(rx:RelV x u)(ry:RelV y v)(hx:Sh X.K H d x)(hy:Sh X.K H e y):RcNeAt A s u v (!eqD d e):=by
 have hu0:A.units<cLine:=by lia
 cases d with
 |non=>
  obtain rfl:x=.non:=hx;obtain rfl:u=Value.none:=rx;cases e with
  |non=>obtain rfl:y=.non:=hy;obtain rfl:v=Value.none:=ry;unfold eqD;exact RcNeAt.none_none
  |bl b=>obtain rfl:y=.bl b:=hy;obtain rfl:v=Value.bool b:=ry;unfold eqD;exact RcNeAt.none_bool b
  |int b=>obtain rfl:y=.int b:=hy;obtain⟨t,rfl⟩:=ry;unfold eqD;exact RcNeAt.none_int b t
  |str b=>obtain rfl:y=.str b:=hy;obtain⟨t,rfl⟩:=ry;unfold eqD;exact RcNeAt.none_str b t
  |tup es=>obtain⟨b,ys,rfl,hq,_⟩:=hy;obtain rfl:v=Value.ref b:=ry;obtain⟨its,_,p,_⟩:=I.tuple hq;unfold eqD;exact RcNeAt.none_tuple (show s.heap.IsTuple b its.toArray from p) hu0
  |lst es=>obtain⟨b,ys,rfl,hq,_⟩:=hy;obtain rfl:v=Value.ref b:=ry;obtain⟨its,_,p,_⟩:=I.list hq;unfold eqD;exact RcNeAt.none_list p.isList hu0
 |bl a=>
  obtain rfl:x=.bl a:=hx;obtain rfl:u=Value.bool a:=rx;cases e with
  |non=>obtain rfl:y=.non:=hy;obtain rfl:v=Value.none:=ry;unfold eqD;exact RcNeAt.bool_none a
  |bl b=>obtain rfl:y=.bl b:=hy;obtain rfl:v=Value.bool b:=ry;unfold eqD;exact RcNeAt.bool_bool a b
  |int b=>obtain rfl:y=.int b:=hy;obtain⟨t,rfl⟩:=ry;unfold eqD;exact RcNeAt.bool_int a b t
  |str b=>obtain rfl:y=.str b:=hy;obtain⟨t,rfl⟩:=ry;unfold eqD;exact RcNeAt.bool_str a b t
  |tup es=>obtain⟨b,ys,rfl,hq,_⟩:=hy;obtain rfl:v=Value.ref b:=ry;obtain⟨its,_,p,_⟩:=I.tuple hq;unfold eqD;exact RcNeAt.bool_tuple a (show s.heap.IsTuple b its.toArray from p) hu0
  |lst es=>obtain⟨b,ys,rfl,hq,_⟩:=hy;obtain rfl:v=Value.ref b:=ry;obtain⟨its,_,p,_⟩:=I.list hq;unfold eqD;exact RcNeAt.bool_list a p.isList hu0
 |int a=>
  obtain rfl:x=.int a:=hx;obtain⟨t0,rfl⟩:=rx;cases e with
  |non=>obtain rfl:y=.non:=hy;obtain rfl:v=Value.none:=ry;unfold eqD;exact RcNeAt.int_none a t0
  |bl b=>obtain rfl:y=.bl b:=hy;obtain rfl:v=Value.bool b:=ry;unfold eqD;exact RcNeAt.int_bool a t0 b
  |int b=>obtain rfl:y=.int b:=hy;obtain⟨t,rfl⟩:=ry;unfold eqD;exact RcNeAt.int_int a t0 b t
  |str b=>obtain rfl:y=.str b:=hy;obtain⟨t,rfl⟩:=ry;unfold eqD;exact RcNeAt.int_str a t0 b t
  |tup es=>obtain⟨b,ys,rfl,hq,_⟩:=hy;obtain rfl:v=Value.ref b:=ry;obtain⟨its,_,p,_⟩:=I.tuple hq;unfold eqD;exact RcNeAt.int_tuple a t0 (show s.heap.IsTuple b its.toArray from p) hu0
  |lst es=>obtain⟨b,ys,rfl,hq,_⟩:=hy;obtain rfl:v=Value.ref b:=ry;obtain⟨its,_,p,_⟩:=I.list hq;unfold eqD;exact RcNeAt.int_list a t0 p.isList hu0
 |str a=>
  obtain rfl:x=.str a:=hx;obtain⟨t0,rfl⟩:=rx;cases e with
  |non=>obtain rfl:y=.non:=hy;obtain rfl:v=Value.none:=ry;unfold eqD;exact RcNeAt.str_none a t0
  |bl b=>obtain rfl:y=.bl b:=hy;obtain rfl:v=Value.bool b:=ry;unfold eqD;exact RcNeAt.str_bool a t0 b
  |int b=>obtain rfl:y=.int b:=hy;obtain⟨t,rfl⟩:=ry;unfold eqD;exact RcNeAt.str_int a t0 b t
  |str b=>obtain rfl:y=.str b:=hy;obtain⟨t,rfl⟩:=ry;unfold eqD;exact RcNeAt.str_str a t0 b t
  |tup es=>obtain⟨b,ys,rfl,hq,_⟩:=hy;obtain rfl:v=Value.ref b:=ry;obtain⟨its,_,p,_⟩:=I.tuple hq;unfold eqD;exact RcNeAt.str_tuple a t0 (show s.heap.IsTuple b its.toArray from p) hu0
  |lst es=>obtain⟨b,ys,rfl,hq,_⟩:=hy;obtain rfl:v=Value.ref b:=ry;obtain⟨its,_,p,_⟩:=I.list hq;unfold eqD;exact RcNeAt.str_list a t0 p.isList hu0
 |tup ds=>
  have hdd:kZ ds<=100:=by unfold dep at hd;lia
  obtain⟨a,xs,rfl,hq,hl⟩:=hx;obtain rfl:u=Value.ref a:=rx;obtain⟨its,rv,p,_⟩:=I.tuple hq;have p:s.heap.IsTuple a its.toArray:=p;cases e with
  |non=>obtain rfl:y=.non:=hy;obtain rfl:v=Value.none:=ry;unfold eqD;exact RcNeAt.tuple_none p hu0
  |bl b=>obtain rfl:y=.bl b:=hy;obtain rfl:v=Value.bool b:=ry;unfold eqD;exact RcNeAt.tuple_bool b p hu0
  |int b=>obtain rfl:y=.int b:=hy;obtain⟨t,rfl⟩:=ry;unfold eqD;exact RcNeAt.tuple_int b t p hu0
  |str b=>obtain rfl:y=.str b:=hy;obtain⟨t,rfl⟩:=ry;unfold eqD;exact RcNeAt.tuple_str b t p hu0
  |lst es=>obtain⟨b,ys,rfl,hq',_⟩:=hy;obtain rfl:v=Value.ref b:=ry;obtain⟨its',_,p',_⟩:=I.list hq';unfold eqD;exact RcNeAt.tuple_list p p'.isList hu0
  |tup es=>
   obtain⟨b,ys,rfl,hq',hl'⟩:=hy;obtain rfl:v=Value.ref b:=ry;obtain⟨its',rv',p',_⟩:=I.tuple hq';have p':s.heap.IsTuple b its'.toArray:=p';have he:=qZ (A:=A.in1) (s:=s) hl rv hl' rv' (λd e x y u v ⟨j,hj⟩ r1 r2 s1 s2=>(I.eq_sh 100 A.in1 d e x y u v (bo (zQ hj) hdd) (by show A.units+1+100<cLine;lia) r1 r2 s1 s2).2);have rc:=RcNeAt.tuples p p' hu0 he;have l1:=hl.length;have l2:=rv.length;have l3:=hl'.length;have l4:=rv'.length;rw[ay,ay,<- l2,<- l4,<- l1,<- l3,pA] at rc;unfold eqD;exact rc
 |lst ds=>
  have hdd:kZ ds<=100:=by unfold dep at hd;lia
  obtain⟨a,xs,rfl,hq,hl⟩:=hx;obtain rfl:u=Value.ref a:=rx;obtain⟨its,rv,p,_⟩:=I.list hq;have p:=p.isList;cases e with
  |non=>obtain rfl:y=.non:=hy;obtain rfl:v=Value.none:=ry;unfold eqD;exact RcNeAt.list_none p hu0
  |bl b=>obtain rfl:y=.bl b:=hy;obtain rfl:v=Value.bool b:=ry;unfold eqD;exact RcNeAt.list_bool b p hu0
  |int b=>obtain rfl:y=.int b:=hy;obtain⟨t,rfl⟩:=ry;unfold eqD;exact RcNeAt.list_int b t p hu0
  |str b=>obtain rfl:y=.str b:=hy;obtain⟨t,rfl⟩:=ry;unfold eqD;exact RcNeAt.list_str b t p hu0
  |tup es=>obtain⟨b,ys,rfl,hq',_⟩:=hy;obtain rfl:v=Value.ref b:=ry;obtain⟨its',_,p',_⟩:=I.tuple hq';unfold eqD;exact RcNeAt.list_tuple p (show s.heap.IsTuple b its'.toArray from p') hu0
  |lst es=>
   obtain⟨b,ys,rfl,hq',hl'⟩:=hy;obtain rfl:v=Value.ref b:=ry;obtain⟨its',rv',p',_⟩:=I.list hq';have p':=p'.isList;have l1:=hl.length;have l2:=rv.length;have l3:=hl'.length;have l4:=rv'.length;unfold eqD;by_cases hz:ds.length=es.length
   ·have he:=qZ (A:=A.in1) (s:=s) hl rv hl' rv' (λd e x y u v ⟨j,hj⟩ r1 r2 s1 s2=>(I.eq_sh 100 A.in1 d e x y u v (bo (zQ hj) hdd) (by show A.units+1+100<cLine;lia) r1 r2 s1 s2).2);have rc:=RcNeAt.lists p p' (by rw[ay,ay];lia) hu0 he;rw[ay,<- l2,<- l1] at rc;have q:=pA ds es;rw[<- hz,Nat.min_self,beq_self_eq_true,Bool.and_true] at q;rw[<- q];exact rc
   ·have q:eqL ds es=false:=by
     cases q:eqL ds es with
     |false=>rfl
     |true=>exact absurd (oK q) hz
    rw[q];exact RcNeAt.lists_lengths p p' (by rw[ay,ay];simp;lia) hu0
def aAk (K:aa):R2:=λx y H Q=>∃d e,dep d<=100/\Sh K H d x/\Sh K H e y/\Q (.bl (!eqD d e)) H
def aMO (hu:X.A.units+101<cLine):OpR X (iw .NotEq) (aAk X.K):=by
 intro pins s σ H x y v u Q I rx ry ⟨d,e,hd,hx,hy,q⟩;exact(I.ne_sh d e x y v u hd hu rx ry hx hy) X.prog X.w X.xe _ ⟨.bl _,H,I,rfl,q⟩
def aBU:Dt->String->Bool
 |.non,_=>false
 |.bl _,T=>T == "bool" || T == "int"
 |.int _,T=>T == "int"
 |.str _,T=>T == "str"
 |.tup _,T=>T == "tuple"
 |.lst _,T=>T == "list"
def aBQ (K:aa):List V->Hp->VK->Prop:=λvs H Q=>∃x d T,vs=[x,.ty T]/\(T="int"\/T="bool"\/T="tuple"\/T="list"\/T="str")/\Sh K H d x/\Q (.bl (aBU d T)) H
def aHQ:CallR X (.builtin "isinstance") (aBQ X.K):=by
 intro pins s σ H xs us Q I r ⟨x,d,T,e,hT,hx,q⟩;subst e;obtain⟨u,w',rfl,rx,rt⟩:=r.two;obtain rfl:w'=Value.type T:=rt;have fin:∀(b:Bool) (t:Nat),aBU d T=b->EP X pins σ Q (.bool b) {s with toks:=t}:=λb t e=>⟨.bl b,H,I.tok t,rfl,by rw[<- e];exact q⟩;have fin0:∀(b:Bool),aBU d T=b->EP X pins σ Q (.bool b) s:=λb e=>⟨.bl b,H,I,rfl,by rw[<- e];exact q⟩;cases d with
 |non=>
  obtain rfl:x=.non:=hx;obtain rfl:u=Value.none:=rx;rcases hT with rfl|rfl|rfl|rfl|rfl
  ·exact IsiPair.NoneType_int (fin _ _ rfl)
  ·exact IsiPair.NoneType_bool (fin _ _ rfl)
  ·exact IsiPair.NoneType_tuple (fin _ _ rfl)
  ·exact IsiPair.NoneType_list (fin _ _ rfl)
  ·exact IsiPair.NoneType_str (fin _ _ rfl)
 |bl b=>
  obtain rfl:x=.bl b:=hx;obtain rfl:u=Value.bool b:=rx;rcases hT with rfl|rfl|rfl|rfl|rfl
  ·exact IsiPair.bool_int (fin0 _ rfl)
  ·exact IsiPair.bool_bool (fin0 _ rfl)
  ·exact IsiPair.bool_tuple (fin _ _ rfl)
  ·exact IsiPair.bool_list (fin _ _ rfl)
  ·exact IsiPair.bool_str (fin _ _ rfl)
 |int b=>
  obtain rfl:x=.int b:=hx;obtain⟨t,rfl⟩:=rx;rcases hT with rfl|rfl|rfl|rfl|rfl
  ·exact IsiPair.int_int (fin0 _ rfl)
  ·exact IsiPair.int_bool (fin _ _ rfl)
  ·exact IsiPair.int_tuple (fin _ _ rfl)
  ·exact IsiPair.int_list (fin _ _ rfl)
  ·exact IsiPair.int_str (fin _ _ rfl)
 |str b=>
  obtain rfl:x=.str b:=hx;obtain⟨t,rfl⟩:=rx;rcases hT with rfl|rfl|rfl|rfl|rfl
  ·exact IsiPair.str_int (fin _ _ rfl)
  ·exact IsiPair.str_bool (fin _ _ rfl)
  ·exact IsiPair.str_tuple (fin _ _ rfl)
  ·exact IsiPair.str_list (fin _ _ rfl)
  ·exact IsiPair.str_str (fin0 _ rfl)
 |tup ds=>
  obtain⟨a,ys,rfl,hq,_⟩:=hx;obtain rfl:u=Value.ref a:=rx;obtain⟨its,_,⟨o,ho,hc,_⟩,_⟩:=I.tuple hq;rcases hT with rfl|rfl|rfl|rfl|rfl
  ·exact IsiPair.tuple_int ho hc (fin _ _ rfl)
  ·exact IsiPair.tuple_bool ho hc (fin _ _ rfl)
  ·exact IsiPair.tuple_tuple ho hc (fin0 _ rfl)
  ·exact IsiPair.tuple_list ho hc (fin _ _ rfl)
  ·exact IsiPair.tuple_str ho hc (fin _ _ rfl)
 |lst ds=>
  obtain⟨a,ys,rfl,hq,_⟩:=hx;obtain rfl:u=Value.ref a:=rx;obtain⟨its,_,p,_⟩:=I.list hq;obtain⟨o,ho,hc,_⟩:=p.isList;rcases hT with rfl|rfl|rfl|rfl|rfl
  ·exact IsiPair.list_int ho hc (fin _ _ rfl)
  ·exact IsiPair.list_bool ho hc (fin _ _ rfl)
  ·exact IsiPair.list_tuple ho hc (fin _ _ rfl)
  ·exact IsiPair.list_list ho hc (fin0 _ rfl)
  ·exact IsiPair.list_str ho hc (fin _ _ rfl)
def aCs (hh:A.handled=none)(It ax:ww)(hne:ax≠It)(items:Array wn):
  Walks prog w A It [It,ax] [It] items.size (λi v=>items[i]?=some v) (λi h=>h.IsTupleIter It ax i/\h.IsTuple ax items) where
 sub:=λb hb=>by simp at hb;simp[hb]
 frame:=λ_ _ _ st hk=>⟨st.1.at λo e=>hk It (by simp) o e,let⟨o,e,r⟩:=st.2;⟨o,hk ax (by simp) o e,r⟩⟩
 item:=λi s Q E hi st hQ=>by
  refine yi st.1 st.2 (x:=items[i]) (by simp[hi]) λh' hit' hs'=>?_;refine hQ _ h' s.toks (by simp[hi]) ⟨hit',?_⟩ λb o hb e=>hs'.extBut b o (λh=>hb (by simp[h])) e;obtain⟨o,e,r⟩:=st.2;exact⟨o,hs'.extBut _ _ hne e,r⟩
 done:=λs Q E st hQ=>zm hh st.1 st.2 (by simp) λh' he'=>hQ h' s.toks λb o hb e=>he' b o (λh=>hb (by simp[h])) e
 self:=λ_ _ _ _ st hQ=>zp st.1 hQ
def Sq (K:aa)(H:Hp)(a:ww)(xs:List V):Prop:=SqL K H a xs\/SqT K H a xs
def mW {pins: List (ww×Obj)}{σ: St}{H: Hp}{s: wv}{a: ww}{xs: List V}(hh:A.handled=none)(I:Inv X pins σ H s)(h:Sq X.K H a xs)(hq:∀(its:List wn) (It:ww) (fp wr:List ww) (S:Nat->jp->Prop) (s2:wv),Vals xs its->xs.length<=cm->Walks X.prog X.w A It fp wr its.length (λi v=>its[i]?=some v) S->S 0 s2.heap->(∀b∈fp,b<s2.heap.objs.size) ->
   (∀h' tk,(∀b o,b∉wr->s2.heap.get? b=some o->h'.get? b=some o)->Inv X pins σ H {s2 with heap:=h',toks:=tk})->Q (.ref It) s2):v4 (v6 X.prog X.w) A (AQ (.ref a)) Q E s:=by
 rcases h with h|h
 ·obtain⟨its,rv,p,hz⟩:=I.list h;refine t6 p.isList ?_;have ha:a<s.heap.objs.size:=by obtain⟨o,e,_⟩:=p.isList;exact bx e
  refine hq its s.heap.objs.size [s.heap.objs.size,a] [s.heap.objs.size] (λi h=>h.IsListIter s.heap.objs.size a i/\h.IsList a its.toArray) _ rv hz (by simpa using Walks.list (prog:=X.prog) (w:=X.w) hh s.heap.objs.size a (di ha) its.toArray) ⟨⟨_,bg _ rfl,rfl,rfl⟩,?_⟩ (λb hb=>?_) λh' tk hk=>?_
  ·obtain⟨o,e,r⟩:=p.isList;exact⟨o,aj _ e,r⟩
  ·simp at hb;show b<(s.heap.push _).objs.size;rw[f6];rcases hb with rfl|rfl
   ·exact j6 _
   ·exact gk ha
  ·exact I.kept λb o e=>hk b o (by simpa using di (bx e)) (aj _ e)
 ·obtain⟨its,rv,p,hz⟩:=I.tuple h;have p:s.heap.IsTuple a its.toArray:=p;refine sf p ?_;have ha:a<s.heap.objs.size:=by obtain⟨o,e,_⟩:=p;exact bx e
  refine hq its s.heap.objs.size [s.heap.objs.size,a] [s.heap.objs.size] (λi h=>h.IsTupleIter s.heap.objs.size a i/\h.IsTuple a its.toArray) _ rv hz (by simpa using aCs (prog:=X.prog) (w:=X.w) hh s.heap.objs.size a (di ha) its.toArray) ⟨⟨_,bg _ rfl,rfl,rfl⟩,?_⟩ (λb hb=>?_) λh' tk hk=>?_
  ·obtain⟨o,e,r⟩:=p;exact⟨o,aj _ e,r⟩
  ·simp at hb;show b<(s.heap.push _).objs.size;rw[f6];rcases hb with rfl|rfl
   ·exact j6 _
   ·exact gk ha
  ·exact I.kept λb o e=>hk b o (by simpa using di (bx e)) (aj _ e)
theorem Vals.getR:∀{xs:List V}{us:List wn}{i:Nat}{u:wn},Vals xs us->us[i]?=some u->∃x,xs[i]?=some x/\RelV x u
 |_,_,_,_,.nil,e=>by simp at e
 |_,_,0,_,.cons r _,e=>by simp at e;subst e;exact⟨_,rfl,r⟩
 |_,_,i+1,u,.cons _ t,e=>by
  obtain⟨x,h1,h2⟩:=Vals.getR (i:=i) (u:=u) t (by simpa using e);exact⟨x,by simpa using h1,h2⟩
def aHG (hc:X.calm=true):CallR X (.builtin "all") (λvs H Q=>∃(a:ww) (bs:List Bool),vs=[.ref a]/\Sq X.K H a (bs.map V.bl)/\Q (.bl (bs.all id)) H):=by
 intro pins s σ H xs us Q I r ⟨a,bs,e,hq,q⟩;subst e;obtain⟨u,rfl,ru⟩:=r.one;obtain rfl:u=Value.ref a:=ru;refine call_all_walk (mW (I.ok.hd hc) I hq λits It fp wr S s2 rv hz W st hf hI=>?_);refine⟨It,fp,wr,its.length,_,S,λj=>bs.getD j false,rfl,W,st,λi v s' Q' E' hv hQ'=>?_,λh' tk hk=>?_⟩
 ·obtain⟨x,hx,rx⟩:=rv.getR hv;rw[bp] at hx;cases hb:bs[i]? with
  |none=>rw[hb] at hx;cases hx
  |some b=>
   rw[hb] at hx;obtain rfl:V.bl b=x:=by simpa using hx
   obtain rfl:v=Value.bool b:=rx;have:bs.getD i false=b:=by rw[ak,hb];rfl
   have hQ':Q' (bs.getD i false) s':=hQ';rw[this] at hQ';exact jc hQ'
 ·refine⟨.bl (bs.all id),H,hI h' tk hk,?_,q⟩;show Value.bool _=Value.bool _;congr 1;have hl:its.length=bs.length:=by rw[<- rv.length,af]
  rw[hl];clear q hq rv hl hz
  induction bs with
  |nil=>rfl
  |cons b bs ih=>rw[c5,jV,pf];exact congrArg (λz=>b&&z) ih
theorem tE:∀(ns:List Int) (k:Nat),k<=ns.length->preSum (λj=>ns.getD j 0) k=(ns.take k).sum
 |ns,0,_=>by simp[preSum]
 |ns,k+1,h=>by
  have e:ns.take (k+1)=ns.take k++[ns[k]]:=by
   rw[gq,ah (by lia)];rfl
  have g:ns.getD k 0=ns[k]:=by rw[ak,ah (by lia)];rfl
  rw[preSum,tE ns k (by lia),e,List.sum_append_int,g];simp
def aIf (hc:X.calm=true):CallR X (.builtin "sum") (λvs H Q=>∃(a:ww) (ns:List Int),vs=[.ref a]/\Sq X.K H a (ns.map V.int)/\Q (.int ns.sum) H):=by
 intro pins s σ H xs us Q I r ⟨a,ns,e,hq,q⟩;subst e;obtain⟨u,rfl,ru⟩:=r.one;obtain rfl:u=Value.ref a:=ru;refine call_sum_walkG (mW (I.ok.hd hc) I hq λits It fp wr S s2 rv hz W st hf hI=>?_);refine⟨It,fp,wr,its.length,_,S,λj=>ns.getD j 0,rfl,W,st,hf,λi v hv=>?_,λh' tk t' hk=>?_⟩
 ·obtain⟨x,hx,rx⟩:=rv.getR hv;rw[bp] at hx;cases hb:ns[i]? with
  |none=>rw[hb] at hx;cases hx
  |some b=>
   rw[hb] at hx;obtain rfl:V.int b=x:=by simpa using hx
   obtain⟨t,rfl⟩:=rx;exact⟨t,by show Value.int b t=Value.int (ns.getD i 0) t;rw[ak,hb];rfl⟩
 ·have hl:its.length=ns.length:=by rw[<- rv.length,af]
  refine⟨.int ns.sum,H,hI h' tk hk,⟨t',?_⟩,q⟩;rw[hl,tE ns ns.length (ar _),gn]
theorem xN:∀k,ou bt k<=k
 |0=>ar _
 |k+1=>by
  unfold ou;split
  ·exact ar _
  ·exact Nat.le_succ_of_le (xN k)
theorem lM {ns:List Int}:∀(k:Nat),∀j,j<=k->ns.getD (ou (λi j=>decide (ns.getD i 0<ns.getD j 0)) k) 0<=ns.getD j 0
 |0,j,h=>by
  have:j=0:=by lia
  subst this;exact t8 _
 |k+1,j,h=>by
  have ih:=lM (ns:=ns) k;unfold ou;by_cases c:ns.getD (k+1) 0<ns.getD (ou (λi j=>decide (ns.getD i 0<ns.getD j 0)) k) 0
  ·rw[C5 (At c)];by_cases e:j=k+1
   ·subst e;exact t8 _
   ·have:=ih j (by lia);lia
  ·rw[C4 (by simpa using c)];by_cases e:j=k+1
   ·subst e;lia
   ·exact ih j (by lia)
def aJd (hc:X.calm=true):CallR X (.builtin "min") (λvs H Q=>∃(a:ww) (ns:List Int),vs=[.ref a]/\Sq X.K H a (ns.map V.int)/\ns≠[]/\∀m:Int,m∈ns->(∀k∈ns,m<=k)->Q (.int m) H):=by
 intro pins s σ H xs us Q I r ⟨a,ns,e,hq,hne,q⟩;subst e;obtain⟨u,rfl,ru⟩:=r.one;obtain rfl:u=Value.ref a:=ru;refine call_min_walk (mW (I.ok.hd hc) I hq λits It fp wr S s2 rv hz W st hf hI=>?_);have hl:its.length=ns.length:=by rw[<- rv.length,af]
 have hpos:0<ns.length:=A1.mpr hne;have item:∀(i:Nat) (v:wn),its[i]?=some v->∃t,v=.int (ns.getD i 0) t:=λi v hv=>by
  obtain⟨x,hx,rx⟩:=rv.getR hv;rw[bp] at hx;cases hb:ns[i]? with
  |none=>rw[hb] at hx;cases hx
  |some b=>
   rw[hb] at hx;obtain rfl:V.int b=x:=by simpa using hx
   obtain⟨t,rfl⟩:=rx;exact⟨t,by rw[ak,hb];rfl⟩
 refine⟨It,fp,wr,its.length,_,S,λi j=>decide (ns.getD i 0<ns.getD j 0),rfl,W,st,hf,by lia,λi j vi vj s' Q' E' hi hj hQ'=>?_,λv h' tk hv hk=>?_⟩
 ·obtain⟨t,rfl⟩:=item i vi hi;obtain⟨t',rfl⟩:=item j vj hj;exact(lt_int hQ':v4 (v6 X.prog X.w) X.A.in1 (iw .Lt _ _) Q' E' s')
 ·obtain⟨t,rfl⟩:=item _ v hv;have hb:=xN (bt:=λi j=>decide (ns.getD i 0<ns.getD j 0)) (its.length-1);refine⟨.int _,H,hI h' tk hk,⟨t,rfl⟩,q _ ?_ λk hk=>?_⟩
  ·rw[ak,ah (by lia)];exact f7 _
  ·obtain⟨j,hj,rfl⟩:=List.mem_iff_getElem.mp hk;have:=lM (ns:=ns) (its.length-1) j (by lia);rw[ak (l:=ns) (i:=j),ah hj] at this;exact this
end
def aOh (K:aa):R2:=λx y H Q=>∃a b xs ys,x=.ref a/\y=.ref b/\SqT K H a xs/\SqT K H b ys/\xs.length+ys.length<=cm /\
 ∀p H',((p=a/\H'=H/\ys=[])\/(p=b/\H'=H/\xs=[])\/(H p=none/\H'=upd H p (.tup (xs++ys))))->SqT K H' p (xs++ys)->Same H H'->Q (.ref p) H'
def aD (h:H p=none)(o:HO):Same H (upd H p o):=λb u q=>by rw[aM (aJ q h)];exact q
def aLx:OpR X (mh .Add) (aOh X.K):=by
 intro pins s σ H x y v u Q I rx ry ⟨a,b,xs,ys,ex,ey,ha,hb,hz,q⟩;subst ex ey;obtain rfl:v=Value.ref a:=rx;obtain rfl:u=Value.ref b:=ry;by_cases hx:xs=[]
 ·obtain⟨its,r1,p1,_⟩:=I.tuple ha;obtain⟨its2,r2,p2,_⟩:=I.tuple hb;have he:its=[]:=r1.nil_iff.mpr hx;obtain⟨⟨cls,dd,data,sl⟩,ho,hc,n,hd⟩:=id p1;obtain⟨⟨cls2,dd2,data2,sl2⟩,ho2,hc2,n2,hd2⟩:=id p2;simp only at hc hd hc2 hd2;subst hc hd hc2 hd2;refine BH ⟨_,ho,rfl⟩ ⟨_,ho2,rfl⟩ zg Bh tq sa (qz _ _)
   (tuple_addW0 a b its.toArray its2.toArray n n2 dd dd2 sl sl2 (by simp[he])) ⟨ho,ho2,?_⟩
  exact⟨.ref b,H,I,rfl,q b H (.inr (.inl ⟨rfl,rfl,hx⟩)) (by rw[hx];exact hb) (Same.refl H)⟩
 ·refine aLj (X:=X) pins s σ H (.ref a) (.ref b) (.ref a) (.ref b) Q I rfl rfl ⟨a,b,xs,ys,rfl,rfl,ha,hb,hx,hz,λhy=>?_,λhy p hp=>?_⟩
  ·exact q a H (.inl ⟨rfl,rfl,hy⟩) (by rw[hy,ia];exact ha) (Same.refl H)
  ·exact q p _ (.inr (.inr ⟨hp,rfl⟩)) (.of aB) (aD hp _)
def aR (K:aa):R2:=λx y H Q=>match x,y with
 |.int i,.int j=>Q (.int (i+j)) H
 |.str i,.str j=>i.length+j.length<=cm/\Q (.str (i++j)) H
 |.ref a,.ref b=>aRk (.ref a) (.ref b) H Q\/aOh K (.ref a) (.ref b) H Q
 |_,_=>False
def aLO:OpR X (mh .Add) (aR X.K):=by
 intro pins s σ H x y v u Q I rx ry h;unfold aR at h;split at h
 ·exact aMq (X:=X) pins s σ H _ _ v u Q I rx ry ⟨_,_,rfl,rfl,h⟩
 ·exact aEC (X:=X) pins s σ H _ _ v u Q I rx ry ⟨_,_,rfl,rfl,h.1,h.2⟩
 ·rcases h with h|h
  ·exact aMH (X:=X) pins s σ H _ _ v u Q I rx ry h
  ·exact aLx (X:=X) pins s σ H _ _ v u Q I rx ry h
 ·exact h.elim
def aEA:R2:=λx y H Q=>match x,y with
 |.int i,.int j=>CMul i j/\Q (.int (i*j)) H
 |.ref a,.int k=>aPd (.ref a) (.int k) H Q
 |_,_=>False
def aLI:OpR X (mh .Mult) aEA:=by
 intro pins s σ H x y v u Q I rx ry h;unfold aEA at h;split at h
 ·exact aJN (X:=X) pins s σ H _ _ v u Q I rx ry ⟨_,_,rfl,rfl,h.1,h.2⟩
 ·exact aJt (X:=X) pins s σ H _ _ v u Q I rx ry h
 ·exact h.elim
def aPU:IxR X (λx y H Q=>aOM X.K x y H Q\/aOL X.K x y H Q):=aLq.or aOs
theorem Vals.of_get:∀{xs:List V}{us:List wn},xs.length=us.length->(∀(i:Nat) x u,xs[i]?=some x->us[i]?=some u->RelV x u)->Vals xs us
 |[],[],_,_=>.nil
 |[],_::_,h,_=>by simp at h
 |_::_,[],h,_=>by simp at h
 |x::xs,u::us,h,hr=>.cons (hr 0 x u rfl rfl) (Vals.of_get (by simpa using h) λi y w h1 h2=>hr (i+1) y w (by simpa using h1) (by simpa using h2))
def aGh:CallR X (.type "range") (λvs H Q=>∃n:Int,vs=[.int n]/\∀p,H p=none->Q (.ref p) (upd H p (.rng 0 n))):=by
 intro pins s σ H xs us Q I r ⟨n,e,q⟩;subst e;obtain⟨u,rfl,ru⟩:=r.one;obtain⟨t,rfl⟩:=ru;refine call_range_1 ⟨.ref s.heap.objs.size,_,I.laid (a:=s.heap.objs.size) (o:=.rng 0 n) (λb o e=>aj _ e) (ar _) ⟨_,_,_,bg _ rfl⟩,rfl,q _ (I.hok.fresh (ar _))⟩
def aFv:CallR X (.type "range") (λvs H Q=>∃m n:Int,vs=[.int m,.int n]/\∀p,H p=none->Q (.ref p) (upd H p (.rng m n))):=by
 intro pins s σ H xs us Q I r ⟨m,n,e,q⟩;subst e;obtain⟨u,u',rfl,ru,ru'⟩:=r.two;obtain⟨t,rfl⟩:=ru;obtain⟨t',rfl⟩:=ru';refine call_range_2 ⟨.ref s.heap.objs.size,_,I.laid (a:=s.heap.objs.size) (o:=.rng m n) (λb o e=>aj _ e) (ar _) ⟨_,_,_,bg _ rfl⟩,rfl,q _ (I.hok.fresh (ar _))⟩
def aHW:CallR X (.type "range") (λvs H Q=>(∃n:Int,vs=[.int n]/\∀p,H p=none->Q (.ref p) (upd H p (.rng 0 n)))\/∃m n:Int,vs=[.int m,.int n]/\∀p,H p=none->Q (.ref p) (upd H p (.rng m n))):=aGh.or aFv
def aAl (lo hi:Int):List Int:=(bc (hi-lo).toNat).map λi:Nat=>lo+(i:Int)
def xV (hc:X.calm=true):CallR X (.type "list") (λvs H Q=>∃(a:ww) (lo hi:Int),vs=[.ref a]/\H a=some (.rng lo hi)/\(-(2^62)<=lo/\lo<2^62/\-(2^62)<=hi/\hi<2^62/\hi-lo<=1000000) /\
  ∀p,H p=none->Q (.ref p) (upd H p (.lst ((aAl lo hi).map V.int)))):=by
 intro pins s σ H xs us Q I r ⟨a,lo,hi,e,ha,⟨b1,b2,b3,b4,b5⟩,q⟩;subst e;obtain⟨u,rfl,ru⟩:=r.one;obtain rfl:u=Value.ref a:=ru;obtain⟨t,u,v,hr⟩:=I.hok a _ ha;refine call_list_range (a:=lo) (b:=hi) (c:=1) (n:=(hi-lo).toNat) (I.ok.hd hc) hr (small_one b1 b2 b3 b4) (by rw[Bf];split<;>lia) (by lia) λh' tk acc' c' hk hS hI=>?_;refine⟨.ref s.heap.objs.size,_,I.laid (a:=s.heap.objs.size) (o:=.lst ((aAl lo hi).map V.int)) hk (ar _) ⟨?_,acc'.toList,c',?_,by simpa using hS⟩,rfl,q _ (I.hok.fresh (ar _))⟩
 ·rw[af];unfold aAl;rw[af,e8];exact bo (show(hi-lo).toNat<=1000000 by lia) (by decide)
 ·refine Vals.of_get ?_ λi x u hx hu=>?_
  ·have el:acc'.toList.length=(hi-lo).toNat:=by rw[<- hI.1];simp
   rw[af,el];unfold aAl;rw[af,e8]
  ·obtain⟨t,rfl⟩:=hI.2 i u (by simpa using hu);rw[bp] at hx;unfold aAl at hx;rw[bp] at hx;cases hi':(bc (hi-lo).toNat)[i]? with
   |none=>rw[hi'] at hx;cases hx
   |some j=>
    rw[hi'] at hx;have:j=i:=by
     obtain⟨h1,h2⟩:=ai.mp hi';simpa using h2.symm
    subst this;obtain rfl:V.int (lo+(j:Int))=x:=by simpa using hx
    exact⟨t,by rw[oo]⟩
def yV (hc:X.calm=true):CallR X (.type "list") (λvs H Q=>(∃p ys,vs=[.ref p]/\(SqL X.K H p ys\/SqT X.K H p ys)/\∀l,H l=none->Q (.ref l) (upd H l (.lst ys))) \/
  ∃(a:ww) (lo hi:Int),vs=[.ref a]/\H a=some (.rng lo hi)/\(-(2^62)<=lo/\lo<2^62/\-(2^62)<=hi/\hi<2^62/\hi-lo<=1000000)/\∀p,H p=none->Q (.ref p) (upd H p (.lst ((aAl lo hi).map V.int)))):=aAM.or (xV hc)
def dU (K:aa)(tl:TE):TI:=λσ H R=>tl σ H λx H1=>∃a,x=.ref a/\(((∃xs,SqL K H1 a xs)/\R (Itl K a) H1)\/((∃xs,SqT K H1 a xs)/\R (Itt K a) H1))
def aOB (hl:PE X l tl):PI X tg l (dU X.K tl):=by
 intro pins s σ H R I h;refine thn (hl pins s σ H _ I h) λv s1 ⟨x,H1,I1,r1,q1⟩=>?_;obtain⟨a,e,q⟩:=q1;subst e;cases r1;rcases q with⟨⟨xs,hq⟩,q⟩|⟨⟨xs,hq⟩,q⟩
 ·obtain⟨its,rv,p,hz⟩:=I1.list hq;refine t6 p.isList ?_;refine⟨s1.heap.objs.size,[s1.heap.objs.size],_,_,H1,rfl,I1.kept (t':=s1.toks) λb o e=>aj _ e,aGR a _,⟨_,bg _ rfl,rfl,rfl⟩,λb hb=>?_,q⟩;have e:b=s1.heap.objs.size:=by simpa using hb
  subst e;exact I1.fpOk (ar _) (I1.hok.fresh (ar _))
 ·obtain⟨its,rv,p,hz⟩:=I1.tuple hq;refine sf (show s1.heap.IsTuple a its.toArray from p) ?_;refine⟨s1.heap.objs.size,[s1.heap.objs.size],_,_,H1,rfl,I1.kept (t':=s1.toks) λb o e=>aj _ e,aEI a _,⟨_,bg _ rfl,rfl,rfl⟩,λb hb=>?_,q⟩;have e:b=s1.heap.objs.size:=by simpa using hb
  subst e;exact I1.fpOk (ar _) (I1.hok.fresh (ar _))
structure Def (P:zn)(w:xj)(K:aa)(mg:u8->Option wn)(base:jp)(x:u8)(k:Nat)(ps:List u8)(sp:Sp):Prop where
 ex:∃(f:ww) (fd:FuncData),FnOk P w K mg base CX0 k f fd ps sp/\mg x=some (.ref f)/\qg K (.ref f)=true/\Binds K fd ps []
def Def.mono {K:aa}{x:u8}{j k:Nat}{ps:List u8}{sp:Sp}(D:Def P w K mg base x j ps sp)(h:j<=k):Def P w K mg base x k ps sp:=by
 obtain⟨f,fd,F,r⟩:=D.ex;exact⟨f,fd,F.mono h,r⟩
def eJ {x:u8}{k:Nat}{ps:List u8}{sp:Sp}{p pos:Pos}{e:ut}{es:List ut}{t:TA}(D:Def X.prog X.w X.K X.mg X.base x k ps sp)(hr:Room k X.A)(hg:Gl X x)(ha:PA X (e::es) t)(hdb:(x==("__debug__":u8))=false:=by decide)(he:fv (e::es) X.env=(false,eval e X.env)::fv es X.env:=by rfl)(hpl:(vc pos (fv es X.env)).any (·.1)=false:=by rfl):
  PE X (.Call (.Name x p) (e::es) [] pos) (aL sp [] E0 t):=by
 obtain⟨f,fd,F,hm,hk,hb⟩:=D.ex;exact aGV F hr hg hm hk hb .nil aPS ha hdb he hpl
def SameX (acc:ww)(H H':Hp):Prop:=∀b o,b≠acc->H b=some o->H' b=some o
def SameX.refl (acc:ww)(H:Hp):SameX acc H H:=λ_ _ _ h=>h
def SameX.trans (a:SameX acc H H1)(b:SameX acc H1 H2):SameX acc H H2:=λc o n h=>b c o n (a c o n h)
def Same.x (e:Same H H'):SameX acc H H':=λb o _ h=>e b o h
def SameX.put (o:HO):SameX acc H (upd H acc o):=λb u n h=>by rw[aM n];exact h
def Agree (vars:List Nat)(σ σ':St):Prop:=∀k,k∉vars->σ'[k]?=σ[k]?
def Agree.refl (vars:List Nat)(σ:St):Agree vars σ σ:=λ_ _=>rfl
def Agree.trans (a:Agree vars σ σ1)(b:Agree vars σ1 σ2):Agree vars σ σ2:=λk h=>(b k h).trans (a k h)
def Agree.set (h:j∈vars)(v:Option V):Agree vars σ (σ.set j v):=λk hk=>fk (λe:j=k=>hk (by rw[<- e];exact h))
def gG {σ:St}{j:Nat}{v:Option V}(h:j<σ.length):(σ.set j v)[j]?=some v:=j9 h
def Emits (vars:List Nat)(tb:TS)(acc:ww)(σ:St)(H:Hp)(L:List V):Prop:=
 ∀(D:xX) (pre:List V),H acc=some (.lst pre)->pre.length+L.length<=1000000->(∀σ' H',σ'.length=σ.length->Agree vars σ σ'->SameX acc H H'->H' acc=some (.lst (pre++L))->D.nx σ' H')->tb D σ H
def cU (h:∀Q:VK,(∀H',Same H H'->Q x H')->te σ H Q):Emits vars (bG te acc) acc σ H [x]:=by
 intro D pre ha hz hd;refine h _ λH' e=>⟨pre,e _ _ ha,?_,hd σ _ rfl (Agree.refl _ _) (e.x.trans (SameX.put _)) aB⟩;exact bj (show pre.length<=1000000 by simp at hz;lia) (by decide)
def aK {α:Type}(f:Nat->List α)(i:Nat):(bc (i+1)).flatMap f=(bc i).flatMap f++f i:=by
 rw[sk,List.flatMap_append];simp
def bV {α:Type}(f:Nat->List α){i n:Nat}(h:i<=n):((bc i).flatMap f).length<=((bc n).flatMap f).length:=by
 induction h with
 |refl=>exact ar _
 |step _ ih=>rw[aK,aq];lia
def oT {vars:List Nat}{tb:TS}{acc:ww}{σ:St}{H:Hp}{lo:Int}{n j:Nat}{L:Nat->List V}(hj:j∈vars)(hjl:j<σ.length)(h:∀i σ' H',i<n->σ'.length=σ.length->Agree vars σ σ'->σ'[j]?=some (some (.int (lo+(i:Int))))->SameX acc H H'->(∃pre,H' acc=some (.lst pre))->Emits vars tb acc σ' H' (L i)):
  Emits vars (dP (Itr lo n) (aE j) tb) acc σ H ((bc n).flatMap L):=by
 intro D pre ha hz hd;refine bR (lo:=lo) (n:=n) (g:=aE j) (D:=D) (λi σ' H'=>i<=n/\σ'.length=σ.length/\Agree vars σ σ'/\SameX acc H H'/\H' acc=some (.lst (pre++(bc i).flatMap L))) ⟨bh _,rfl,Agree.refl _ _,SameX.refl _ _,by simpa using ha⟩ (λi σ1 H1 hi ⟨_,hl1,ag1,sx1,h1⟩=>?_) λσ1 H1 ⟨_,hl1,ag1,sx1,h1⟩=>hd σ1 H1 hl1 ag1 sx1 h1;have hle:=bV L (show i+1<=n from hi);rw[aK,aq] at hle;have fin:∀σ' H',σ'.length=σ1.length->Agree vars (σ1.set j (some (.int (lo+(i:Int))))) σ'->SameX acc H1 H'->H' acc=some (.lst ((pre++(bc i).flatMap L)++L i)) ->
   (i+1<=n/\σ'.length=σ.length/\Agree vars σ σ'/\SameX acc H H'/\H' acc=some (.lst (pre++(bc (i+1)).flatMap L))):=λσ' H' hl ag sx h2=>
  ⟨hi,hl.trans hl1,(ag1.trans (Agree.set hj _)).trans ag,sx1.trans sx,by rw[h2,aK,gx]⟩
 refine h i (σ1.set j (some (.int (lo+(i:Int))))) H1 hi (by rw[dw];exact hl1) (ag1.trans (Agree.set hj _)) (gG (by lia)) sx1 ⟨_,h1⟩ _ _ h1 (by rw[aq];lia) λσ' H' hl ag sx h2=>fin σ' H' (hl.trans (dw ..)) ag sx h2
def aAI {vars:List Nat}{ta:TA}{tb:TS}{acc:ww}{σ:St}{H:Hp}{n j:Nat}{L:Nat->List V}(hj:j∈vars)(hjl:j<σ.length)(hn:n<=1000000)(hta:∀Q:List V->Hp->Prop,(∀H',Same H H'->Q [.int (n:Int)] H')->ta σ H Q)(h:∀i σ' H',i<n->σ'.length=σ.length->Agree vars σ σ'->σ'[j]?=some (some (.int (i:Int)))->SameX acc H H'->(∃pre,H' acc=some (.lst pre))->Emits vars tb acc σ' H' (L i)):
  Emits vars (iJ (gJ ta) (aE j) tb) acc σ H ((bc n).flatMap L):=by
 intro D pre ha hz hd;refine hta _ λH' e=>⟨(n:Int),rfl,by lia,by lia,?_⟩;rw[cv];refine oT (L:=L) hj hjl (λi σ' H2 hi hl ag hs sx hp=>h i σ' H2 hi hl ag (by rw[hs];simp) (e.x.trans sx) hp) D pre (e _ _ ha) hz λσ' H2 hl ag sx h2=>hd σ' H2 hl ag (e.x.trans sx) h2
def tI {K:aa}{vars:List Nat}{tb:TS}{acc a:ww}{σ:St}{H:Hp}{xs:List V}{j:Nat}{L:Nat->List V}(hj:j∈vars)(hjl:j<σ.length)(hs:∀H',SameX acc H H'->SqL K H' a xs)(h:∀i x σ' H',xs[i]?=some x->σ'.length=σ.length->Agree vars σ σ'->σ'[j]?=some (some x)->SameX acc H H'->(∃pre,H' acc=some (.lst pre))->Emits vars tb acc σ' H' (L i)):
  Emits vars (dP (Itl K a) (aE j) tb) acc σ H ((bc xs.length).flatMap L):=by
 intro D pre ha hz hd;refine aX (K:=K) (a:=a) (xs:=xs) (g:=aE j) (D:=D) (λi σ' H'=>i<=xs.length/\σ'.length=σ.length/\Agree vars σ σ'/\SameX acc H H'/\H' acc=some (.lst (pre++(bc i).flatMap L))) ⟨bh _,rfl,Agree.refl _ _,SameX.refl _ _,by simpa using ha⟩ (λi σ1 H1 _ ⟨_,_,_,sx1,_⟩=>hs H1 sx1) (λi x σ1 H1 hx ⟨_,hl1,ag1,sx1,h1⟩=>?_) λσ1 H1 ⟨_,hl1,ag1,sx1,h1⟩=>hd σ1 H1 hl1 ag1 sx1 h1;have hi:i<xs.length:=(ai.mp hx).1;have hle:=bV L (show i+1<=xs.length from hi);rw[aK,aq] at hle;have fin:∀σ' H',σ'.length=σ1.length->Agree vars (σ1.set j (some x)) σ'->SameX acc H1 H'->H' acc=some (.lst ((pre++(bc i).flatMap L)++L i)) ->
   (i+1<=xs.length/\σ'.length=σ.length/\Agree vars σ σ'/\SameX acc H H'/\H' acc=some (.lst (pre++(bc (i+1)).flatMap L))):=λσ' H' hl ag sx h2=>
  ⟨hi,hl.trans hl1,(ag1.trans (Agree.set hj _)).trans ag,sx1.trans sx,by rw[h2,aK,gx]⟩
 refine h i x (σ1.set j (some x)) H1 hx (by rw[dw];exact hl1) (ag1.trans (Agree.set hj _)) (gG (by lia)) sx1 ⟨_,h1⟩ _ _ h1 (by rw[aq];lia) λσ' H' hl ag sx h2=>fin σ' H' (hl.trans (dw ..)) ag sx h2
def aIT {K:aa}{vars:List Nat}{tb:TS}{acc a:ww}{σ:St}{H:Hp}{xs:List V}{j:Nat}{L:Nat->List V}(hj:j∈vars)(hjl:j<σ.length)(hs:∀H',SameX acc H H'->SqT K H' a xs)(h:∀i x σ' H',xs[i]?=some x->σ'.length=σ.length->Agree vars σ σ'->σ'[j]?=some (some x)->SameX acc H H'->(∃pre,H' acc=some (.lst pre))->Emits vars tb acc σ' H' (L i)):
  Emits vars (dP (Itt K a) (aE j) tb) acc σ H ((bc xs.length).flatMap L):=by
 intro D pre ha hz hd;refine yX (K:=K) (a:=a) (xs:=xs) (g:=aE j) (D:=D) (λi σ' H'=>i<=xs.length/\σ'.length=σ.length/\Agree vars σ σ'/\SameX acc H H'/\H' acc=some (.lst (pre++(bc i).flatMap L))) ⟨bh _,rfl,Agree.refl _ _,SameX.refl _ _,by simpa using ha⟩ (λi σ1 H1 _ ⟨_,_,_,sx1,_⟩=>hs H1 sx1) (λi x σ1 H1 hx ⟨_,hl1,ag1,sx1,h1⟩=>?_) λσ1 H1 ⟨_,hl1,ag1,sx1,h1⟩=>hd σ1 H1 hl1 ag1 sx1 h1;have hi:i<xs.length:=(ai.mp hx).1;have hle:=bV L (show i+1<=xs.length from hi);rw[aK,aq] at hle;have fin:∀σ' H',σ'.length=σ1.length->Agree vars (σ1.set j (some x)) σ'->SameX acc H1 H'->H' acc=some (.lst ((pre++(bc i).flatMap L)++L i)) ->
   (i+1<=xs.length/\σ'.length=σ.length/\Agree vars σ σ'/\SameX acc H H'/\H' acc=some (.lst (pre++(bc (i+1)).flatMap L))):=λσ' H' hl ag sx h2=>
  ⟨hi,hl.trans hl1,(ag1.trans (Agree.set hj _)).trans ag,sx1.trans sx,by rw[h2,aK,gx]⟩
 refine h i x (σ1.set j (some x)) H1 hx (by rw[dw];exact hl1) (ag1.trans (Agree.set hj _)) (gG (by lia)) sx1 ⟨_,h1⟩ _ _ h1 (by rw[aq];lia) λσ' H' hl ag sx h2=>fin σ' H' (hl.trans (dw ..)) ag sx h2
def wX:fm "len"=some (.builtin "len"):=by decide+kernel
def aJF:fm "all"=some (.builtin "all"):=by decide+kernel
def aDy:fm "min"=some (.builtin "min"):=by decide+kernel
def aNI:fm "sum"=some (.builtin "sum"):=by decide+kernel
def aOm:fm "isinstance"=some (.builtin "isinstance"):=by decide+kernel
def lO:fm "sorted"=some (.builtin "sorted"):=by decide+kernel
def yS:fm "tuple"=some (.type "tuple"):=by decide+kernel
def aEW:fm "list"=some (.type "list"):=by decide+kernel
def aIh:fm "range"=some (.type "range"):=by decide+kernel
def aOv:fm "int"=some (.type "int"):=by decide+kernel
def aLr:fm "bool"=some (.type "bool"):=by decide+kernel
structure Blt (mg:u8->Option wn):Prop where
 len:mg "len"=none
 all:mg "all"=none
 min:mg "min"=none
 max:mg "max"=none
 sum:mg "sum"=none
 isi:mg "isinstance"=none
 sorted:mg "sorted"=none
 tuple:mg "tuple"=none
 list:mg "list"=none
 range:mg "range"=none
 int:mg "int"=none
 bool:mg "bool"=none
end L2
namespace L2
open PySem
def aPi (hr:Room k A):A.units+100<cLine:=by have:=hr.un;lia
def aMA (hr:Room k A):A.units+101<cLine:=by have:=hr.un;lia
end L2
namespace L2
open PySem PySem.Spec PyProof.Rows
def dL {K:aa}(hK:X.K=K):IxR X (λx y H Q=>aOM K x y H Q\/aOL K x y H Q):=by subst hK;exact aPU
def aEX {K:aa}(hK:X.K=K):OpR X (mh .Add) (aR K):=by subst hK;exact aLO
def aJI {K:aa}{k:Nat}(hK:X.K=K)(hr:Room k X.A):OpR X (iw .Eq) (gH K):=by subst hK;exact aNq (aPi hr)
def aCZ {K:aa}{k:Nat}(hK:X.K=K)(hr:Room k X.A):OpR X (iw .NotEq) (aAk K):=by subst hK;exact aMO (aMA hr)
def aML {K:aa}(hK:X.K=K):OpR X (iw .In) (rIn K false):=by subst hK;exact aFF
def aGA {K:aa}(hK:X.K=K):OpR X (iw .NotIn) (rIn K true):=by subst hK;exact pQ
def aFb {K:aa}(hK:X.K=K):CallR X (.builtin "isinstance") (aBQ K):=by subst hK;exact aHQ
def gE (K:aa):List V->Hp->VK->Prop:=λxs H Q=>∃p ys,xs=[.ref p]/\(SqL K H p ys\/SqT K H p ys)/\Q (.int ys.length) H
def gI {K:aa}(hK:X.K=K):CallR X (.builtin "len") (gE K):=by subst hK;exact aAL
def aMf (K:aa):List V->Hp->VK->Prop:=λvs H Q=>∃(a:ww) (bs:List Bool),vs=[.ref a]/\Sq K H a (bs.map V.bl)/\Q (.bl (bs.all id)) H
def aAT {K:aa}(hK:X.K=K)(hc:X.calm=true):CallR X (.builtin "all") (aMf K):=by subst hK;exact aHG hc
def aPL (K:aa):List V->Hp->VK->Prop:=λvs H Q=>∃(a:ww) (ns:List Int),vs=[.ref a]/\Sq K H a (ns.map V.int)/\Q (.int ns.sum) H
def aHr {K:aa}(hK:X.K=K)(hc:X.calm=true):CallR X (.builtin "sum") (aPL K):=by subst hK;exact aIf hc
def aQK (K:aa):List V->Hp->VK->Prop:=λvs H Q=>∃(a:ww) (ns:List Int),vs=[.ref a]/\Sq K H a (ns.map V.int)/\ns≠[]/\∀m:Int,m∈ns->(∀k∈ns,m<=k)->Q (.int m) H
def aFg {K:aa}(hK:X.K=K)(hc:X.calm=true):CallR X (.builtin "min") (aQK K):=by subst hK;exact aJd hc
def wH:List V->Hp->VK->Prop:=λxs H Q=>∃i j:Int,xs=[.int i,.int j]/\Q (.int (if j<i then j else i)) H
def aEc (hc:X.calm=true):CallR X (.builtin "min") wH:=aGq hc
def lR (K:aa):List V->Hp->VK->Prop:=λxs H Q=>∃p ys,xs=[.ref p]/\((SqL K H p ys/\∀l,H l=none->Q (.ref l) (upd H l (.tup ys)))\/(SqT K H p ys/\Q (.ref p) H))
def aCI {K:aa}(hK:X.K=K):CallR X (.type "tuple") (lR K):=by subst hK;exact zH
def aBZ (K:aa):List V->Hp->VK->Prop:=λvs H Q=>(∃p ys,vs=[.ref p]/\(SqL K H p ys\/SqT K H p ys)/\∀l,H l=none->Q (.ref l) (upd H l (.lst ys))) \/
  ∃(a:ww) (lo hi:Int),vs=[.ref a]/\H a=some (.rng lo hi)/\(-(2^62)<=lo/\lo<2^62/\-(2^62)<=hi/\hi<2^62/\hi-lo<=1000000)/\∀p,H p=none->Q (.ref p) (upd H p (.lst ((aAl lo hi).map V.int)))
def aEt {K:aa}(hK:X.K=K)(hc:X.calm=true):CallR X (.type "list") (aBZ K):=by subst hK;exact yV hc
def gL {K:aa}{tg l:ut}{tl:TE}(hK:X.K=K)(hl:PE X l tl):PI X tg l (dU K tl):=by subst hK;exact aOB hl
def oH {K:aa}{es:List ut}{k:Nat}{t:TGs}{n:Nat}{pos:Pos}(hK:X.K=K)(hc:X.calm=true)(h:PGs X es t)(hn:(tu es X.env).length=n:=by rfl)(hst:(tu es X.env).findIdx? (·.1)=none:=by rfl):PG X (.Tuple es k pos) (jG K n t):=by
 subst hK;exact aNg hc h hn hst
abbrev yLt:R2:=rI0 λi j=>.bl (decide (i<j))
abbrev yLe:R2:=rI0 λi j=>.bl (decide (i<=j))
abbrev yGt:R2:=rI0 λi j=>.bl (decide (j<i))
abbrev yGe:R2:=rI0 λi j=>.bl (decide (j<=i))
abbrev jL:R2:=rI0 λi j=>.int (i-j)
abbrev aBL:R2:=rI (λ_ j=>0<j) λi j=>.int (i % j)
abbrev aEy:R2:=rI aRs λi j=>.int (i^j.toNat)
abbrev pK:V->Hp->VK->Prop:=rU λi=>.int (-i)
abbrev aN (K:aa):R2:=λx y H Q=>aOM K x y H Q\/aOL K x y H Q
def aMc:List V->Hp->VK->Prop:=λvs H Q=>(∃n:Int,vs=[.int n]/\∀p,H p=none->Q (.ref p) (upd H p (.rng 0 n)))\/∃m n:Int,vs=[.int m,.int n]/\∀p,H p=none->Q (.ref p) (upd H p (.rng m n))
def aGb:CallR X (.type "range") aMc:=aHW
end L2
namespace L2
open PySem
def xI (T:List (List Int)):Dt:=.tup (T.map λr=>.tup (r.map .int))
structure Quad (T:List (List Int))(n:Nat):Prop where
 len:T.length=n
 row:∀r∈T,r.length=n
def at2 (T:List (List Int))(i j:Nat):Int:=(T.getD i []).getD j 0
theorem ShL.rows:∀{T:List (List Int)}{rs:List V},ShL K H (T.map λr=>Dt.tup (r.map Dt.int)) rs->rs.length=T.length/\∀(i:Nat) (row:List Int),T[i]?=some row->∃b,rs[i]?=some (.ref b)/\SqT K H b (row.map V.int)
 |[],rs,h=>by
  have h:rs=[]:=h;subst h;exact⟨rfl,λi row e=>by simp at e⟩
 |r::T,rs,⟨x,rr,h1,⟨b,xs,h2,h3,h4⟩,h5⟩=>by
  obtain⟨e,g⟩:=ShL.rows h5;subst h1;refine⟨by rw[c5,c5,e],λi row er=>?_⟩;cases i with
  |zero=>
   have:r=row:=by simpa using er
   subst this;exact⟨b,by rw[h2];rfl,by rw[<- ShL.of_ints h4];exact h3⟩
  |succ i=>exact g i row (by simpa using er)
def Sh.tab (h:Sh K H (xI T) v):∃a rs,v=.ref a/\SqT K H a rs/\rs.length=T.length/\∀(i:Nat) (row:List Int),T[i]?=some row->∃b,rs[i]?=some (.ref b)/\SqT K H b (row.map V.int):=by
 obtain⟨a,rs,e,hq,hl⟩:=h;obtain⟨e2,g⟩:=ShL.rows hl;exact⟨a,rs,e,hq,e2,g⟩
theorem ShL.of_rows:∀{T:List (List Int)}{rs:List V},rs.length=T.length->(∀(i:Nat) (row:List Int),T[i]?=some row->∃b,rs[i]?=some (.ref b)/\SqT K H b (row.map V.int))->ShL K H (T.map λr=>Dt.tup (r.map Dt.int)) rs
 |[],rs,h,_=>su.mp h
 |r::T,[],h,_=>by simp at h
 |r::T,x::rs,h,g=>by
  obtain⟨b,e,hq⟩:=g 0 r rfl;have e:x=.ref b:=by simpa using e
  exact⟨x,rs,rfl,⟨b,_,e,hq,ShL.ints r⟩,ShL.of_rows (by simpa using h) λi row er=>by
   obtain⟨c,e2,q2⟩:=g (i+1) row (by simpa using er);exact⟨c,by simpa using e2,q2⟩⟩
def Quad.get (q:Quad T n)(h:i<n):∃row,T[i]?=some row/\row.length=n/\T.getD i []=row:=by
 have hi:i<T.length:=by rw[q.len];exact h
 refine⟨T[i],ah hi,q.row _ (f7 hi),?_⟩;rw[ak,ah hi];rfl
def aCL {xs:List Int}{j:Nat}(h:j<xs.length):xs[j]?=some (xs.getD j 0):=by
 rw[ak,ah h];rfl
def ixT {K:aa}{H:Hp}{p:ww}{xs:List V}{j:Nat}{v:V}(h:SqT K H p xs)(hj:xs[j]?=some v)(q:Q v H):aN K (.ref p) (.int (j:Int)) H Q:=.inr ⟨p,xs,j,v,rfl,rfl,h,aGk hj,q⟩
def ixL {K:aa}{H:Hp}{p:ww}{xs:List V}{j:Nat}{v:V}(h:SqL K H p xs)(hj:xs[j]?=some v)(q:Q v H):aN K (.ref p) (.int (j:Int)) H Q:=.inl ⟨p,xs,j,v,rfl,rfl,h,aGk hj,q⟩
def aLS (hS:Sh K H (xI T) v)(hq:Quad T n)(hi:i<n)(q:∀b,SqT K H b ((T.getD i []).map V.int)->Q (.ref b) H):aN K v (.int (i:Int)) H Q:=by
 obtain⟨a,rs,rfl,ha,hl,g⟩:=hS.tab;obtain⟨row,e1,e2,e3⟩:=hq.get hi;obtain⟨b,hb,hs⟩:=g i row e1;exact ixT ha hb (q b (by rw[e3];exact hs))
def tQ (ht:σ[t]?=some (some v))(hi:σ[si]?=some (some (.int (i:Int))))(hj:σ[sj]?=some (some (.int (j:Int))))(hS:Sh K H (xI T) v)(hq:Quad T n)(li:i<n)(lj:j<n)(q:Q (.int (at2 T i j)) H):tOp (aN K) (tOp (aN K) (aC t) (aC si)) (aC sj) σ H Q:=by
 refine⟨_,ht,_,hi,aLS hS hq li λb hb=>⟨_,hj,ixT hb ?_ q⟩⟩;obtain⟨row,e1,e2,e3⟩:=hq.get li;rw[bp,aCL (by rw[e3];lia)];rfl
def cE (hacc:H acc=none)(sx:SameX acc (upd H acc o) H2):Same H H2:=λb u e=>sx b u (aJ e hacc) (by rw[aM (aJ e hacc)];exact e)
def Emits.mono (h:Emits vars tb acc σ H L)(hs:∀k∈vars,k∈vars'):Emits vars' tb acc σ H L:=
 λD pre ha hz hd=>h D pre ha hz λσ' H' hl ag sx h2=>hd σ' H' hl (λk hk=>ag k λz=>hk (hs k z)) sx h2
def Emits.cast (h:Emits vars tb acc σ H L)(e:L=L'):Emits vars tb acc σ H L':=e▸h
def bW (vars:List Nat)(L:List V)(ha:H acc=none)(hz:L.length<=1000000)(h:Emits vars (dP J g tb) acc σ (upd H acc (.lst [])) L)(q:∀σ' H',Same H H'->H' acc=some (.lst L)->D.nx σ' H'):dP J g tb D σ (upd H acc (.lst [])):=
 h _ [] aB (by simpa using hz) λσ' H' _ _ sx h2=>q σ' H' (cE ha sx) (by simpa using h2)
theorem eG {α:Type}(f:Nat->List α)(c:Nat):∀n,(∀i,i<n->(f i).length<=c)->((bc n).flatMap f).length<=n*c
 |0,_=>by simp
 |n+1,h=>by
  rw[aK,aq,Cc,Nat.one_mul];have:=eG f c n λi hi=>h i (by lia);have:=h n (by lia);lia
def pJ {α β:Type}(g:α->β)(f:Nat->List α)(l:List Nat):(l.flatMap f).map g=l.flatMap λi=>(f i).map g:=by
 induction l with
 |nil=>rfl
 |cons x r ih=>rw[m8,c4,ih,m8]
def uK {α:Type}(p:α->Bool)(f:Nat->List α)(l:List Nat):(l.flatMap f).all p=l.all λi=>(f i).all p:=by
 induction l with
 |nil=>rfl
 |cons x r ih=>rw[m8,List.all_append,ih,pf]
def aFZ (R:Nat->List V->Hp->Prop)(hj:j∈vars)(hjl:j<σ.length)(h0:R 0 [] (upd H acc (.lst [])))(ha:H acc=none)(h:∀i σ' H' L (D:xX),i<n->σ'.length=σ.length->Agree vars σ σ'->σ'[j]?=some (some (.int (lo+(i:Int))))->Same H H'->H' acc=some (.lst L)->R i L H' ->
   (∀σ'' H'' L',σ''.length=σ.length->Agree vars σ σ''->Same H H''->H'' acc=some (.lst L')->R (i+1) L' H''->D.nx σ'' H'')->tb D σ' H')(q:∀σ' H' L,Same H H'->H' acc=some (.lst L)->R n L H'->D.nx σ' H'):dP (Itr lo n) (aE j) tb D σ (upd H acc (.lst [])):=by
 refine bR (lo:=lo) (n:=n) (g:=aE j) (D:=D) (λi σ' H'=>i<=n/\σ'.length=σ.length/\Agree vars σ σ'/\Same H H'/\∃L,H' acc=some (.lst L)/\R i L H') ⟨bh _,rfl,Agree.refl _ _,aD ha _,[],aB,h0⟩ (λi σ1 H1 hi ⟨_,hl1,ag1,sx1,L,h1,r1⟩=>?_) λσ1 H1 ⟨_,_,_,sm,L,h1,r1⟩=>q σ1 H1 L sm h1 r1;exact h i (σ1.set j (some (.int (lo+(i:Int))))) H1 L _ hi (by rw[dw];exact hl1) (ag1.trans (Agree.set hj _)) (gG (by lia)) sx1 h1 r1 λσ2 H2 L' hl2 ag2 sm2 h2 r2=>⟨hi,hl2,ag2,sm2,L',h2,r2⟩
def lA (R:Nat->List V->Hp->Prop)(hj:j∈vars)(hjl:j<σ.length)(h0:R 0 [] (upd H acc (.lst [])))(ha:H acc=none)(hs:∀i L H',Same H H'->R i L H'->SqL K H' a xs)(h:∀i x σ' H' L (D:xX),xs[i]?=some x->σ'.length=σ.length->Agree vars σ σ'->σ'[j]?=some (some x)->Same H H'->H' acc=some (.lst L)->R i L H' ->
   (∀σ'' H'' L',σ''.length=σ.length->Agree vars σ σ''->Same H H''->H'' acc=some (.lst L')->R (i+1) L' H''->D.nx σ'' H'')->tb D σ' H')(q:∀σ' H' L,Same H H'->H' acc=some (.lst L)->R xs.length L H'->D.nx σ' H'):dP (Itl K a) (aE j) tb D σ (upd H acc (.lst [])):=by
 refine aX (K:=K) (a:=a) (xs:=xs) (g:=aE j) (D:=D) (λi σ' H'=>i<=xs.length/\σ'.length=σ.length/\Agree vars σ σ'/\Same H H'/\∃L,H' acc=some (.lst L)/\R i L H') ⟨bh _,rfl,Agree.refl _ _,aD ha _,[],aB,h0⟩ (λi σ1 H1 _ ⟨_,_,_,sm,L,_,r1⟩=>hs i L H1 sm r1) (λi x σ1 H1 hx ⟨_,hl1,ag1,sx1,L,h1,r1⟩=>?_) λσ1 H1 ⟨_,_,_,sm,L,h1,r1⟩=>q σ1 H1 L sm h1 r1;have hi:i<xs.length:=(ai.mp hx).1;exact h i x (σ1.set j (some x)) H1 L _ hx (by rw[dw];exact hl1) (ag1.trans (Agree.set hj _)) (gG (by lia)) sx1 h1 r1 λσ2 H2 L' hl2 ag2 sm2 h2 r2=>⟨hi,hl2,ag2,sm2,L',h2,r2⟩
structure Mat (H:Hp)(F:ww)(ls:List ww)(M:List (List Int)):Prop where
 top:H F=some (.lst (ls.map V.ref))
 len:ls.length=M.length
 row:∀(i:Nat) (l:ww) (r:List Int),ls[i]?=some l->M[i]?=some r->H l=some (.lst (r.map V.int))
 nd:ls.Nodup
 out:F∉ls
def Mat.same (m:Mat H F ls M)(e:Same H H'):Mat H' F ls M:=⟨e _ _ m.top,m.len,λi l r a b=>e _ _ (m.row i l r a b),m.nd,m.out⟩
def Mat.keep (m:Mat H F ls M)(e:∀b o,(b=F\/b∈ls)->H b=some o->H' b=some o):Mat H' F ls M:=
 ⟨e _ _ (.inl rfl) m.top,m.len,λi l r a b=>e _ _ (.inr (au a)) (m.row i l r a b),m.nd,m.out⟩
def aBM (M:List (List Int))(i j:Nat)(v:Int):List (List Int):=M.set i ((M.getD i []).set j v)
def lG (q:Quad M n)(hi:i<n):Quad (aBM M i j v) n:=by
 refine⟨by unfold aBM;rw[dw];exact q.len,λr hr=>?_⟩;unfold aBM at hr;rcases List.mem_or_eq_of_mem_set hr with h|h
 ·exact q.row r h
 ·obtain⟨row,e1,e2,e3⟩:=q.get hi;rw[h,dw,e3];exact e2
def zC (q:Quad M n)(hi:i<n)(hj:j<n)(a b:Nat):at2 (aBM M i j v) a b=if a=i/\b=j then v else at2 M a b:=by
 obtain⟨row,e1,e2,e3⟩:=q.get hi;unfold at2 aBM;by_cases ha:a=i
 ·subst ha;have:(M.set a ((M.getD a []).set j v)).getD a []=(M.getD a []).set j v:=by
   rw[ak,j9 (by rw[q.len];exact hi)];rfl
  rw[this,e3];by_cases hb:b=j
  ·subst hb;rw[C5 ⟨rfl,rfl⟩,ak,j9 (by lia)];rfl
  ·rw[C4 (λz=>hb z.2),ak,fk (gf hb),<- ak]
 ·have:(M.set i ((M.getD i []).set j v)).getD a []=M.getD a []:=by
   rw[ak,fk (gf ha),<- ak]
  rw[this,C4 (λz=>ha z.1)]
def Mat.at {K:aa}{H:Hp}{F:ww}{ls:List ww}{M:List (List Int)}{n i:Nat}(m:Mat H F ls M)(q:Quad M n)(hi:i<n):∃l,ls[i]?=some l/\(ls.map V.ref)[i]?=some (.ref l)/\H l=some (.lst ((M.getD i []).map V.int)):=by
 obtain⟨row,e1,e2,e3⟩:=q.get hi;have hl:i<ls.length:=by rw[m.len,q.len];exact hi
 refine⟨ls[i],ah hl,by rw[bp,ah hl];rfl,?_⟩;rw[e3];exact m.row i _ row (ah hl) e1
def Mat.put (m:Mat H F ls M)(q:Quad M n)(hi:i<n)(hl:ls[i]?=some l):Mat (upd H l (.lst (((M.getD i []).set j v).map V.int))) F ls (aBM M i j v):=by
 have hm:l∈ls:=au hl;have hF:F≠l:=λe=>m.out (e▸hm);refine⟨by rw[aM hF];exact m.top,by unfold aBM;rw[dw];exact m.len,λa b r h1 h2=>?_,m.nd,m.out⟩;by_cases ha:a=i
 ·subst ha;rw[hl] at h1;cases h1;rw[aB];unfold aBM at h2;rw[j9 (by rw[q.len];exact hi)] at h2;cases h2;rfl
 ·have hne:b≠l:=by
   intro e;subst e;obtain⟨i1,z1⟩:=ai.mp h1;obtain⟨i2,z2⟩:=ai.mp hl;exact ha ((qp m.nd).mp (z1.trans z2.symm))
  rw[aM hne];unfold aBM at h2;rw[fk (gf ha)] at h2;exact m.row a b r h1 h2
def aDx (m:Mat H F ls M)(q:Quad M n)(ht:σ[t]?=some (some (.ref F)))(hi:σ[si]?=some (some (.int (i:Int))))(hj:σ[sj]?=some (some (.int (j:Int))))(li:i<n)(lj:j<n)(h:Q (.int (at2 M i j)) H):tOp (aN K) (tOp (aN K) (aC t) (aC si)) (aC sj) σ H Q:=by
 obtain⟨l,h1,h2,h3⟩:=m.at (K:=K) q li;refine⟨_,ht,_,hi,ixL (.of m.top) h2 ⟨_,hj,ixL (.of h3) ?_ h⟩⟩;obtain⟨row,e1,e2,e3⟩:=q.get li;rw[bp,aCL (by rw[e3];lia)];rfl
def aBN (m:Mat H F ls M)(q:Quad M n)(ht:σ[t]?=some (some (.ref F)))(hi:σ[si]?=some (some (.int (i:Int))))(hj:σ[sj]?=some (some (.int (j:Int))))(li:i<n)(lj:j<n)(h:∀l H',l∈ls->H'=upd H l (.lst (((M.getD i []).set j v).map V.int))->Mat H' F ls (aBM M i j v)->N σ H'):nE (tOp (aN K) (aC t) (aC si)) (aC sj) dO (.int v) σ H N:=by
 obtain⟨l,h1,h2,h3⟩:=m.at (K:=K) q li;obtain⟨row,e1,e2,e3⟩:=q.get li;refine⟨_,ht,_,hi,ixL (.of m.top) h2 ⟨_,hj,l,_,(j:Int),j,rfl,rfl,h3,?_,?_⟩⟩;rotate_left
 ·rw[<- List.map_set];exact h l _ (au h1) rfl (m.put q li h1)
 rw[af,e3,e2];unfold ixN;rw[C5 (by lia),C5 (by lia),cv]
def aAu (ht:σ[t]?=some (some (.ref F)))(m:Mat H F ls M)(q:Quad M n)(hn:n<=100)(h:∀p H',Same H H'->Sh K H' (xI M) (.ref p)->Q (.ref p) H'):
  tCB (lR K) (aA (bJ [none] (dU K (aC t)) (aE 0) [] λacc=>bG (tCB (lR K) (AR 0)) acc) aF) σ H Q:=by
 refine⟨_,ht,F,rfl,.inl ⟨⟨_,.of m.top⟩,λacc hacc=>?_⟩⟩;have hlen:(ls.map V.ref).length=n:=by rw[af,m.len,q.len]
 refine lA (vars:=[0]) (K:=K) (a:=F) (xs:=ls.map V.ref) (λi L H'=>L.length=i/\∀(j:Nat) (row:List Int),j<i->M[j]?=some row->∃b,L[j]?=some (.ref b)/\H' b=some (.tup (row.map V.int))) (by decide) (by show 0<1;decide) ⟨rfl,λj row hj=>absurd hj (i5 _)⟩ hacc (λi L H' sm _=>.of (sm _ _ m.top)) (λi x σ1 H1 L D hx l1 ag1 s1 sm1 ha1 ⟨r1,r2⟩ hD=>?_) λσ1 H1 L sm1 ha1 ⟨r1,r2⟩=>?_
 ·have hi:i<n:=by rw[<- hlen];exact(ai.mp hx).1
  have hil:i<ls.length:=by rw[m.len,q.len];exact hi
  obtain⟨row,e1,e2,e3⟩:=q.get hi;have ex:x=.ref ls[i]:=by
   rw[bp,ah hil] at hx;simpa using hx.symm
  subst ex;have hrow:=m.row i _ row (ah hil) e1;refine⟨_,s1,ls[i],row.map V.int,rfl,.inl ⟨.of (sm1 _ _ hrow),λp hp=>?_⟩⟩;have hpa:p≠acc:=λe=>by rw[e,ha1] at hp;cases hp
  refine⟨L,by rw[aM (gf hpa)];exact ha1,bj (show L.length<=100 by lia) (by decide),?_⟩;refine hD σ1 _ (L++[.ref p]) l1 ag1 (λb o e=>?_) aB ⟨by rw[aq,r1];rfl,λj row' hj e=>?_⟩
  ·have hb:b≠acc:=aJ e hacc;rw[aM hb,aM (aJ (sm1 _ _ e) hp)];exact sm1 _ _ e
  ·by_cases hji:j<i
   ·obtain⟨b,g1,g2⟩:=r2 j row' hji e;refine⟨b,by rw[dg (by lia)];exact g1,?_⟩;have hb:b≠acc:=ne_of g2 ha1 (λz=>nomatch z);rw[aM hb,aM (aJ g2 hp)];exact g2
   ·have:j=i:=by lia
    subst this;rw[e1] at e;cases e;refine⟨p,by rw[c9 (by lia),r1];simp,?_⟩;rw[aM hpa];exact aB
 ·refine⟨acc,L,rfl,.inl ⟨.of ha1,λp hp=>?_⟩⟩;have sm2:Same H (upd H1 p (.tup L)):=sm1.trans (aD hp _);refine h p _ sm2 ⟨p,L,rfl,.of aB,ShL.of_rows (by rw[r1,hlen,q.len]) λi row e=>?_⟩;have hi:i<n:=by rw[<- q.len];exact(ai.mp e).1
  obtain⟨b,g1,g2⟩:=r2 i row (by lia) e;exact⟨b,g1,.of (by rw[aM (aJ g2 hp)];exact g2)⟩
def aJf (ns:List Int)(lo hi:Option Int):∃ms:List Int,eK (ns.map V.int) lo hi=ms.map V.int/\ms.length<=ns.length:=by
 refine⟨(ns.drop (HT.sIx ns.length 0 lo)).take (HT.sIx ns.length ns.length hi-HT.sIx ns.length 0 lo),?_,?_⟩
 ·unfold eK;rw[af,pg,u5]
 ·rw[dj,ip];lia
end L2
namespace L2
open PySem PySem.Spec PyProof.Rows
def oQ {s:wv}{t sl:ww}{items:Array wn}{vl vu:wn}{lo hi:Option Int}(ht:IsTup s.heap t items)(hs:s.heap.IsSliceOf sl vl vu .none)(pl:IsPart vl lo)(pu:IsPart vu hi)(hw:HT.sIx items.size 0 lo=0/\HT.sIx items.size items.size hi=items.size)(h:Q (.ref t) s):v4 (v6 prog w) A (Ag (.ref t) (.ref sl)) Q E s:=by
 obtain⟨os,hos,hcs,hds⟩:=id hs;have hTs:s.TypeIs (.ref sl) "slice":=⟨os,hos,hcs⟩;unfold Ag
 try with_reducible refine f9 ?_
 first|refine ae (ao ?_)|skip
 refine ae (xm ht.typeIs (by decide) ?_);refine ae (fh (name:=i7 "__getitem__") ht.typeIs fq
  (fi fq ht.typeIs vg ?_ (we _ _)))
 show v4 _ _ (qb (.ref t) >>= _) _ _ s;refine ae (Bi ht ?_);refine ae (ot hTs ?_);rw[C5 (by decide)];refine ae (HT.sliceApplied_gen hs pl pu ?_);rw[hw.1,hw.2];have hyes:((((0:Nat):Int)==0&&(1:Int)==1&&(items.size-0)==items.size)=true):=by simp
 show v4 _ _ (if(((0:Nat):Int)==0&&(1:Int)==1&&(items.size-0)==items.size)=true then _ else _) _ _ s;rw[C5 hyes];unfold Builtin.Tuple.tupleIsExact;refine ae (ae (ot ht.typeIs (ao ?_)));rw[C5 (show(Value.type "tuple"==Value.type "tuple")=true by rfl)];exact ae (tv (ao ⟨_,rfl,ao h⟩))
def aQX (K:aa):V->Option Int->Option Int->Hp->VK->Prop:=λx lo hi H Q=>∃a xs,x=.ref a/\SqT K H a xs/\∀p H',Same H H'->SqT K H' p (eK xs lo hi)->Q (.ref p) H'
def aLP:SlR X (aQX X.K):=by
 intro pins s σ H x v vl vu lo hi sl Q I rx hs pl pu h;obtain⟨a,xs,rfl,hx,q⟩:=h;by_cases hw:HT.sIx xs.length 0 lo=0/\HT.sIx xs.length xs.length hi=xs.length
 ·obtain rfl:v=Value.ref a:=rx;obtain⟨its,rv,p,hz⟩:=I.tuple hx;have hl:=rv.length;have ec:eK xs lo hi=xs:=by unfold eK;rw[hw.1,hw.2,List.drop_zero,Nat.sub_zero,gn]
  refine⟨"tuple",_,fq.lookup,p.typeIs,?_⟩;refine oQ p hs pl pu (by simp only[ay,<- hl];exact hw) ?_;exact⟨.ref a,H,I,rfl,q a H (Same.refl H) (by rw[ec];exact hx)⟩
 ·exact aNS (X:=X) pins s σ H (.ref a) v vl vu lo hi sl Q I rx hs pl pu ⟨a,xs,rfl,hx,hw,λp hp=>q p _ (aD hp _) (.of aB)⟩
abbrev nD (K:aa):V->Option Int->Option Int->Hp->VK->Prop:=λx lo hi H Q=>aQT K x lo hi H Q\/aQX K x lo hi H Q
def aQC {K:aa}(hK:X.K=K):SlR X (nD K):=by subst hK;exact aLK.or aLP
def aEz (e0:s.heap.get? l=some ob)(ec:ob.cls=.type T)(eT:T="list"\/T="tuple")(ed:ob.data=.seq us.toArray n)(q:Q us {s with heap:=(s.heap.push (kd "list" #[] 0)).update s.heap.objs.size (j4 (· ++ us.toArray))})(z:us.length<=cm):v4 (v6 prog w) A (A2 (.ref l)) Q E s:=by
 unfold A2;refine ae (qi (gh entry_proto_collect' ?g1))
 case g1=>
  show v4 _ _ (do again (.builtin "list.__iadd__" ⟨[<- Cb [],Value.ref l],[]⟩)) _ _ s;refine ae (sv (ao ⟨wj _ (by decide+kernel),gh entry_list_iadd' ?g2⟩))
  case g2=>
   have e1:(s.heap.push (kd "list" #[] 0)).get? l=some ob:=aj _ e0;show v4 _ _ (jy (Value.ref s.heap.objs.size) (Value.ref l) (Value.ref s.heap.objs.size)) _ _ {s with heap:=s.heap.push (kd "list" #[] 0)};unfold jy;refine ae (ot (T:=T) ⟨ob,e1,ec⟩ ?g3)
   case g3=>
    have ht:((Value.type T==Value.type "list")||(Value.type T==Value.type "tuple"))=true:=by rcases eT with rfl|rfl<;>rfl
    rw[C5 (by first|exact ht|(rcases eT with rfl|rfl<;>simp))]
    refine ae (Ak e1 ed (ae (Ak (xs:=#[]) (n:=0) (bg _ rfl) rfl ?g4)))
    case g4=>
     rw[C4 (by simp)];refine ae (u6 (xs:=#[]) (n:=0) (bg _ rfl) rfl ?g5 (bh _) (by show(#[]++us.toArray).size<=cm+1;simp only[Array.size_append,ay,lg];lia))
     case g5=>
      refine ao ?g6
      case g6=>
       show v4 (v6 prog w) A (load s.heap.objs.size >>= λo=>match o.data with|.seq xs _=>pure xs.toList|_=>unsupported "internal:collect") Q E {s with heap:=(s.heap.push (kd "list" #[] 0)).update s.heap.objs.size (j4 (· ++ us.toArray))}
       refine ae (xk (Am (bg _ rfl) _) ?g7)
       case g7=>
        show v4 _ _ (pure ((#[]:Array wn)++us.toArray).toList) Q E _;rw[show((#[]:Array wn)++us.toArray).toList=us by simp];exact ao q
theorem pM:∀{ns:List Int}{us:List wn},IntsAre us ns->Vals (ns.map V.int) us
 |[],_,h=>by cases h;exact .nil
 |n::ns,_,h=>by
  cases h with
  |cons _ t h=>exact .cons ⟨t,rfl⟩ (pM h)
theorem IntsAre.len:∀{ns:List Int}{us:List wn},IntsAre us ns->us.length=ns.length
 |[],_,h=>by cases h;rfl
 |n::ns,_,h=>by
  cases h with
  |cons _ t h=>rw[c5,c5,IntsAre.len h]
mutual
def toP:Dt->PyData
 |.non=>.none
 |.bl b=>.bool b
 |.int i=>.int i
 |.str x=>.str x
 |.tup ds=>.tuple (rJ ds)
 |.lst ds=>.list (rJ ds)
def rJ:List Dt->List PyData
 |[]=>[]
 |d::ds=>toP d::rJ ds
end
mutual
theorem aFJ:∀d,(toP d).depth=dep d
 |.non=>rfl
 |.bl b=>rfl
 |.int i=>rfl
 |.str x=>rfl
 |.tup ds=>by show(PyData.tuple (rJ ds)).depth=_;unfold PyData.depth dep;rw[yF]
 |.lst ds=>by show(PyData.list (rJ ds)).depth=_;unfold PyData.depth dep;rw[yF]
theorem yF:∀ds,An (rJ ds)=kZ ds
 |[]=>by unfold rJ kZ An;rfl
 |d::ds=>by unfold rJ kZ An;rw[aFJ,yF]
end
mutual
theorem xB:∀d,(toP d).hasDict=false
 |.non=>by unfold toP qj;rfl
 |.bl b=>by unfold toP qj;rfl
 |.int i=>by unfold toP qj;rfl
 |.str x=>by unfold toP qj;rfl
 |.tup ds=>by unfold toP qj;exact kF ds
 |.lst ds=>by unfold toP qj;exact kF ds
theorem kF:∀ds,xr (rJ ds)=false
 |[]=>by unfold rJ xr;rfl
 |d::ds=>by unfold rJ xr;rw[xB,kF];rfl
end
section
variable {X:Cx}{pins:List (ww×Obj)}{σ:St}{H:Hp}{s:wv}
mutual
theorem Inv.reads (I:Inv X pins σ H s):∀{d:Dt}{x:V}{v:wn},RelV x v->Sh X.K H d x->∃as,Reads s.heap v (toP d) as
 |.non,x,v,r,h=>by obtain rfl:x=.non:=h;obtain rfl:v=.none:=r;exact⟨_,.none⟩
 |.bl b,x,v,r,h=>by obtain rfl:x=.bl b:=h;obtain rfl:v=.bool b:=r;exact⟨_,.bool b⟩
 |.int i,x,v,r,h=>by obtain rfl:x=.int i:=h;obtain⟨t,rfl⟩:=r;exact⟨_,.int i t⟩
 |.str y,x,v,r,h=>by obtain rfl:x=.str y:=h;obtain⟨t,rfl⟩:=r;exact⟨_,.str y t⟩
 |.tup ds,x,v,r,⟨a,xs,h1,h2,h3⟩=>by
  subst h1;obtain rfl:v=Value.ref a:=r;obtain⟨its,rv,⟨o,ho,hc,n,hd⟩,_⟩:=I.tuple h2;obtain⟨as,ha⟩:=Inv.readsAll I rv h3;exact⟨_,.tuple ho hc hd ha⟩
 |.lst ds,x,v,r,⟨a,xs,h1,h2,h3⟩=>by
  subst h1;obtain rfl:v=Value.ref a:=r;obtain⟨its,rv,pl,_⟩:=I.list h2;obtain⟨o,ho,hc,n,hd⟩:=pl.isList;obtain⟨as,ha⟩:=Inv.readsAll I rv h3;exact⟨_,.list ho hc hd ha⟩
theorem Inv.readsAll (I:Inv X pins σ H s):∀{ds:List Dt}{xs:List V}{us:List wn},Vals xs us->ShL X.K H ds xs->∃as,ReadsAll s.heap us (rJ ds) as
 |[],xs,us,r,h=>by obtain rfl:xs=[]:=h;cases r;exact⟨_,.nil⟩
 |d::ds,xs,us,r,⟨x,t,h1,h2,h3⟩=>by
  subst h1;cases r with
  |cons r1 r2=>
   obtain⟨as,h4⟩:=Inv.reads I r1 h2;obtain⟨bs,h5⟩:=Inv.readsAll I r2 h3;exact⟨_,.cons h4 h5⟩
end
end
def okR (d:Dt):Prop:=(toP d).showable=true/\(toP d).leavesShort 1930=true/\(toP d).bulk<=4000/\dep d<=100
def aHa (K:aa):List V->Hp->VK->Prop:=λvs H Q=>∃(d:Dt) (x:V),vs=[x]/\Sh K H d x/\okR d/\Q (.str (toP d).shown) H
def aFf (hr:Room k X.A):CallR X (.builtin "repr") (aHa X.K):=by
 intro pins s σ H xs us Q I r ⟨d,x,e,hx,⟨k1,k2,k3,k4⟩,q⟩;subst e;obtain⟨u,rfl,ru⟩:=aAv r;obtain⟨as,hR⟩:=I.reads ru hx;have hsz:(toP d).shown.length<=cm:=by
  refine bo (PyData.shown_le_bulk 1930 (by decide) _ k2) (bo (Nat.add_le_add_right (Nat.mul_le_mul_left _ k3) _) (by decide))
 have fin:∀(h':jp) (t:Tok) (tk:Nat),(∀b o,s.heap.get? b=some o->h'.get? b=some o)->EP X pins σ Q (.str (toP d).shown t) {s with heap:=h',toks:=tk}:=λh' t tk kp=>
  ⟨.str (toP d).shown,H,I.kept (t':=tk) kp,⟨t,rfl⟩,q⟩
 cases u with
 |ref a=>
  exact repr_of_reads' hR k1 (PyData.noDict_hsm (xB d)) hr.gd (by rw[aFJ];have:=hr.un;lia) (λ_ _ e=>e) (λh' u tk hk=>fin h' u tk hk) hsz
 |none=>
  cases d<;>first|(cases hR;done)|skip
  exact P.repr_of_none (fin _ _ _ λ_ _ e=>e)
 |bool b=>
  cases d<;>cases hR;exact P.repr_of_bool (fin _ _ _ λ_ _ e=>e)
 |int i t=>
  cases d<;>cases hR;exact P.repr_of_int (by simpa[toP,vm] using k1) (fin _ _ _ λ_ _ e=>e)
 |str y t=>
  cases d<;>cases hR;exact P.repr_of_str (fin _ _ _ λ_ _ e=>e) hsz
 |_=>cases d<;>cases hR
def aEK {K:aa}{k:Nat}(hK:X.K=K)(hr:Room k X.A):CallR X (.builtin "repr") (aHa K):=by subst hK;exact aFf hr
def ItAt (b:Bool)(h:jp)(it l:ww)(i:Nat):Prop:=∃o,h.get? it=some o/\o.cls=.type (if b then "list_iterator" else "tuple_iterator")/\o.data=.fields #[.ref l,.int i 0]
def ObAt (b:Bool)(h:jp)(l:ww)(us:Array wn):Prop:=∃o,h.get? l=some o/\o.cls=.type (if b then "list" else "tuple")/\∃n,o.data=.seq us n
def ItAt.keep (x:ItAt b h it l i)(e:∀o,h.get? it=some o->h'.get? it=some o):ItAt b h' it l i:=let⟨o,ho,r⟩:=x;⟨o,e _ ho,r⟩
def ObAt.keep (x:ObAt b h l us)(e:∀o,h.get? l=some o->h'.get? l=some o):ObAt b h' l us:=let⟨o,ho,r⟩:=x;⟨o,e _ ho,r⟩
def ItAt.lt (x:ItAt b h it l i):it<h.objs.size:=let⟨_,ho,_⟩:=x;bx ho
section
variable {prog:zn}{w:xj}{A:xz}{E:wn->wv->Prop}{s:wv}
def uG (hit:s.heap.IsTupleIter it t i)(ht:s.heap.IsTuple t us)(hx:us[i]?=some x)(q:∀h',h'.IsTupleIter it t (i+1)->gp it s.heap h'->Q x {s with heap:=h'}):v4 (v6 prog w) A (gc (.ref it)) Q E s:=by
 obtain⟨ob,e1,e2,e3⟩:=id hit;obtain⟨ol,f1,_,nl,f2⟩:=ht;unfold gc;refine ae (fh (name:=i7 "__next__") hit.typeIs md (fi md hit.typeIs vn ?g (u7 _)))
 case g=>
  show v4 _ _ (field (.ref it) 0 >>= _) _ _ s;refine ae (gs e1 e3 (x:=.ref t) rfl ?g)
  case g=>
   show v4 _ _ (if(Value.ref t==Value.none)=true then _ else _) _ _ s;rw[C4 (show ¬((Value.ref t==Value.none)=true) from cy)];show v4 _ _ (field (.ref it) 1 >>= _) _ _ s;refine ae (gs e1 e3 (x:=.int i 0) rfl ?g)
   case g=>
    show v4 _ _ (Bl (.ref t) >>= _) _ _ s;refine ae (i9 f1 f2 ?g)
    case g=>
     simp only[cv,hx];refine ae (mx e1 e3 (by simp) (ao ⟨x,rfl,ao (q _ ?g (gu ..))⟩))
     case g=>exact⟨_,iy _ e1 (mj (mm e3 _)),(xt ..).trans e2,by rw[mm e3];simp[jw]⟩
def wL (hh:A.handled=none)(hit:s.heap.IsTupleIter it t i)(ht:s.heap.IsTuple t us)(hx:us[i]?=none)(q:∀h' e,yp it s.heap h'->(∃o,h'.get? e=some o/\o.cls=.type "StopIteration")->E (.ref e) {s with heap:=h'}):v4 (v6 prog w) A (gc (.ref it)) Q E s:=by
 obtain⟨ob,e1,e2,e3⟩:=id hit;obtain⟨ol,f1,_,nl,f2⟩:=ht;unfold gc;refine ae (fh (name:=i7 "__next__") hit.typeIs md (fi md hit.typeIs vn ?g (u7 _)))
 case g=>
  show v4 _ _ (field (.ref it) 0 >>= _) _ _ s;refine ae (gs e1 e3 (x:=.ref t) rfl ?g)
  case g=>
   show v4 _ _ (if(Value.ref t==Value.none)=true then _ else _) _ _ s;rw[C4 (show ¬((Value.ref t==Value.none)=true) from cy)];show v4 _ _ (field (.ref it) 1 >>= _) _ _ s;refine ae (gs e1 e3 (x:=.int i 0) rfl ?g)
   case g=>
    show v4 _ _ (Bl (.ref t) >>= _) _ _ s;refine ae (i9 f1 f2 ?g)
    case g=>
     simp only[cv,hx];refine ae (tv (ae (mx e1 e3 (by simp) ?g)))
     case g=>
      show v4 _ _ (newExc (.type "StopIteration") [] >>= _) _ _ _;refine ae ?g
      case g=>
       simp only[newExc,newTuple];refine ae (dz ?g (by size_fits))
       case g=>
        refine ae (m:=qk _ _) (qu (a:=Value.none) (by first|rfl|(simp only[qk];rfl)) ?g)
        case g=>
         refine dz ?g (by size_fits)
         case g=>
          simp only[raiseNew];refine ae (Bm ?g)
          case g=>
           first|rw[show A.in1.handled=none from hh]|rw[hh]
           exact ae (ao (Cd (q _ _ (((gu ..).extBut.push _).push _) ⟨_,bg _ rfl,rfl⟩)))
def rB (hit:ItAt b s.heap it l i)(ho:ObAt b s.heap l us)(hx:us[i]?=some x)(q:∀h',ItAt b h' it l (i+1)->gp it s.heap h'->Q x {s with heap:=h'}):v4 (v6 prog w) A (gc (.ref it)) Q E s:=by
 cases b with
 |true=>exact wpAny_nextOf_list_item (l:=l) (i:=i) (items:=us) hit ho hx q
 |false=>exact uG (t:=l) (i:=i) (us:=us) hit ho hx q
def aCx (hh:A.handled=none)(hit:ItAt b s.heap it l i)(ho:ObAt b s.heap l us)(hx:us[i]?=none)(q:∀h' e,yp it s.heap h'->(∃o,h'.get? e=some o/\o.cls=.type "StopIteration")->E (.ref e) {s with heap:=h'}):v4 (v6 prog w) A (gc (.ref it)) Q E s:=by
 cases b with
 |true=>exact wpAny_nextOf_list_end (l:=l) (i:=i) (items:=us) hh hit ho hx q
 |false=>exact wL (t:=l) (i:=i) (us:=us) hh hit ho hx q
abbrev itO (b:Bool)(l:ww):Obj:={cls:=.type (if b then "list_iterator" else "tuple_iterator"),data:=.fields #[.ref l,.int 0 0]}
def rO (ho:ObAt b s.heap l us)(q:Q (.ref s.heap.objs.size) {s with heap:=s.heap.push (itO b l)}):v4 (v6 prog w) A (AQ (.ref l)) Q E s:=by
 cases b with
 |true=>exact t6 (show s.heap.IsList l us from ho) q
 |false=>exact sf (show s.heap.IsTuple l us from ho) q
structure ZA (z ti to i1 i2:ww):Prop where
 a1:ti≠z
 a2:to≠z
 a3:i1≠z
 a4:i2≠z
 a5:ti≠to
 a6:ti≠i1
 a7:ti≠i2
 a8:to≠i1
 a9:to≠i2
 a10:i1≠i2
def ZP (z to i1 i2 c:ww):Prop:=c≠z/\c≠to/\c≠i1/\c≠i2
def aIR {b1 b2:Bool}{z ti to i1 i2 l1 l2:ww}{k1 k2:Nat}{xs ys:Array wn}{x y u v:wn}{Q:wn->wv->Prop}(D:ZA z ti to i1 i2)(D1:ZP z to i1 i2 l1)(D2:ZP z to i1 i2 l2)(hz:IsZip s.heap z ti to .none)(hti:xu s.heap ti (.ref i1) (.ref i2))(hto:xu s.heap to u v)(h1:ItAt b1 s.heap i1 l1 k1)(h2:ItAt b2 s.heap i2 l2 k2)(o1:ObAt b1 s.heap l1 xs)(o2:ObAt b2 s.heap l2 ys)(hx:xs[k1]?=some x)(hy:ys[k2]?=some y)(q:∀h',IsZip h' z ti to (jw s.heap.objs.size)->xu h' to x y->ItAt b1 h' i1 l1 (k1+1)->ItAt b2 h' i2 l2 (k2+1)->xu h' s.heap.objs.size x y->h'.objs.size=s.heap.objs.size+1->(∀c o,ZP z to i1 i2 c->s.heap.get? c=some o->h'.get? c=some o)->Q (.ref s.heap.objs.size) {s with heap:=h'}):
  v4 (v6 prog w) A (Builtin.«zip.__next__» ⟨[.ref z],[]⟩) (λfin s'=>∃r,fin=.done (.ret r)/\Q r s') E s:=by
 show v4 _ _ (field (.ref z) 2 >>= _) _ _ _;refine ae (gs hz rfl (x:=.bool false) rfl ?g)
 case g=>
 show v4 _ _ (field (.ref z) 3 >>= _) _ _ _;refine ae (gs hz rfl (x:=.ref ti) rfl (ae (i9 hti rfl ?g)))
 case g=>
 show v4 _ _ (gv (.ref z) >>= _) _ _ _;unfold gv;refine ae (ae (gs hz rfl (x:=.none) rfl (ao ?g)))
 case g=>
 simp only[if_true];refine ae (tv (ae (gs hz rfl (x:=.ref to) rfl (ae (iq hz (by simp) λH1 z1 s1=>?g)))))
 case g=>
 replace z1:IsZip H1 z ti to .ellipsis:=z1;refine ae ?g
 case g=>
 simp only[List.zipIdx_cons,List.zipIdx_nil,sd,qh];refine ae (ae (yq ?g))
 case g=>
 show v4 _ _ (gc (.ref i1) >>= _) _ _ _;refine ae (rB (b:=b1) (h1.keep λo e=>s1.extBut _ _ D.a3 e) (o1.keep λo e=>s1.extBut _ _ D1.1 e) hx λH2 t1 s2=>ao ?g)
 case g=>
 have p2:xu H2 to u v:=s2.extBut _ _ D.a8 (s1.extBut _ _ D.a2 hto);refine ae (i9 p2 rfl (ae (uw p2 λH3 p3 s3=>?g)))
 case g=>
 replace p3:xu H3 to x v:=p3;refine ae (qv (ao (ae (ae (yq ?g)))))
 case g=>
 show v4 _ _ (gc (.ref i2) >>= _) _ _ _;refine ae (rB (b:=b2) (h2.keep λo e=>s3.extBut _ _ D.a9.symm (s2.extBut _ _ D.a10.symm (s1.extBut _ _ D.a4 e))) (o2.keep λo e=>s3.extBut _ _ D2.2.1 (s2.extBut _ _ D2.2.2.1 (s1.extBut _ _ D2.1 e))) hy λH4 t2 s4=>ao ?g)
 case g=>
 have p4:xu H4 to x v:=s4.extBut _ _ D.a9 p3;refine ae (i9 p4 rfl (ae (uw p4 λH5 p5 s5=>?g)))
 case g=>
 replace p5:xu H5 to x y:=p5;refine ae (qv (ao (ao (ae (i9 p5 rfl (ae (w4 ?g)))))))
 case g=>
 have sz:H5.objs.size=s.heap.objs.size:=by rw[s5.1,s4.1,s3.1,s2.1,s1.1]
 have z5:IsZip H5 z ti to .ellipsis:=s5.extBut _ _ D.a2.symm (s4.extBut _ _ D.a4.symm (s3.extBut _ _ D.a2.symm (s2.extBut _ _ D.a3.symm z1)));have k5:∀c o,ZP z to i1 i2 c->s.heap.get? c=some o->H5.get? c=some o:=λc o n e=>s5.extBut _ _ n.2.1 (s4.extBut _ _ n.2.2.2 (s3.extBut _ _ n.2.1 (s2.extBut _ _ n.2.2.1 (s1.extBut _ _ n.1 e))));have t15:ItAt b1 H5 i1 l1 (k1+1):=t1.keep λo e=>s5.extBut _ _ D.a8.symm (s4.extBut _ _ D.a10 (s3.extBut _ _ D.a8.symm e));have t25:ItAt b2 H5 i2 l2 (k2+1):=t2.keep λo e=>s5.extBut _ _ D.a9.symm e;have lz:z<H5.objs.size:=bx z5;show v4 _ _ (ji (.ref z) (.ref H5.objs.size) >>= _) _ _ _;unfold ji;have z6:IsZip (H5.push {cls:=.type "tuple",data:=.seq #[x,y]}) z ti to .ellipsis:=aj _ z5;refine ae (ae (iq z6 (by simp) λH7 z7 s7=>?g))
 case g=>
 replace z7:IsZip H7 z ti to (jw H5.objs.size):=z7;refine iq z7 (by simp) λH8 z8 s8=>?g
 case g=>
 replace z8:IsZip H8 z ti to (jw H5.objs.size):=z8;have up:∀c o,c≠z->H5.get? c=some o->H8.get? c=some o:=λc o n e=>s8.extBut _ _ n (s7.extBut _ _ n (aj _ e));have p8:xu H8 H5.objs.size x y:=s8.extBut _ _ (jo lz) (s7.extBut _ _ (jo lz) (bg _ rfl));have n8:H8.objs.size=H5.objs.size+1:=by rw[s8.1,s7.1,f6]
 rw[sz] at z8 p8 n8;refine ao ⟨_,rfl,(?g:Q (.ref H5.objs.size) _)⟩
 case g=>
 rw[sz];exact q H8 z8 (up _ _ D.a2 p5) (t15.keep λo e=>up _ o D.a3 e) (t25.keep λo e=>up _ o D.a4 e) p8 n8 λc o n e=>up c o n.1 (k5 c o n e)
def aKq (hh:A.handled=none)(D:ZA z ti to i1 i2)(D1:ZP z to i1 i2 l1)(D2:ZP z to i1 i2 l2)(hz:IsZip s.heap z ti to .none)(hti:xu s.heap ti (.ref i1) (.ref i2))(hto:xu s.heap to u v)(h1:ItAt b1 s.heap i1 l1 k1)(h2:ItAt b2 s.heap i2 l2 k2)(o1:ObAt b1 s.heap l1 xs)(o2:ObAt b2 s.heap l2 ys)(hend:xs[k1]?=none\/ys[k2]?=none)(q:∀h' e,(∀c o,ZP z to i1 i2 c->s.heap.get? c=some o->h'.get? c=some o)->(∃o,h'.get? e=some o/\o.cls=.type "StopIteration")->E (.ref e) {s with heap:=h'}):
  v4 (v6 prog w) A (Builtin.«zip.__next__» ⟨[.ref z],[]⟩) Q E s:=by
 show v4 _ _ (field (.ref z) 2 >>= _) _ _ _;refine ae (gs hz rfl (x:=.bool false) rfl ?g)
 case g=>
 show v4 _ _ (field (.ref z) 3 >>= _) _ _ _;refine ae (gs hz rfl (x:=.ref ti) rfl (ae (i9 hti rfl ?g)))
 case g=>
 show v4 _ _ (gv (.ref z) >>= _) _ _ _;unfold gv;refine ae (ae (gs hz rfl (x:=.none) rfl (ao ?g)))
 case g=>
 simp only[if_true];refine ae (tv (ae (gs hz rfl (x:=.ref to) rfl (ae (iq hz (by simp) λH1 z1 s1=>?g)))))
 case g=>
 replace z1:IsZip H1 z ti to .ellipsis:=z1;refine ae ?g
 case g=>
 simp only[List.zipIdx_cons,List.zipIdx_nil,sd,qh];refine ae (ae (yq ?g))
 case g=>
 show v4 _ _ (gc (.ref i1) >>= _) _ _ _;cases hx:xs[k1]? with
 |none=>
  refine ae (aCx (b:=b1) hh (h1.keep λo e=>s1.extBut _ _ D.a3 e) (o1.keep λo e=>s1.extBut _ _ D1.1 e) hx λH2 e s2 ⟨oe,e1,e2⟩=>?g)
  case g=>
  have z2:IsZip H2 z ti to .ellipsis:=s2 _ _ D.a3.symm z1;have ne:e≠z:=λx=>by subst x;rw[z2] at e1;cases e1;simp at e2
  exact iq z2 (by simp) λH3 _ s3=>q H3 e (λc o n x=>s3.extBut _ _ n.1 (s2 _ _ n.2.2.1 (s1.extBut _ _ n.1 x))) ⟨oe,s3.extBut _ _ ne e1,e2⟩
 |some x=>
  have hy:ys[k2]?=none:=hend.resolve_left (by rw[hx];exact λh=>by cases h);refine ae (rB (b:=b1) (h1.keep λo e=>s1.extBut _ _ D.a3 e) (o1.keep λo e=>s1.extBut _ _ D1.1 e) hx λH2 t1 s2=>ao ?g)
  case g=>
  have p2:xu H2 to u v:=s2.extBut _ _ D.a8 (s1.extBut _ _ D.a2 hto);refine ae (i9 p2 rfl (ae (uw p2 λH3 p3 s3=>?g)))
  case g=>
  refine ae (qv (ao (ae (ae (yq ?g)))))
  case g=>
  show v4 _ _ (gc (.ref i2) >>= _) _ _ _;refine ae (aCx (b:=b2) hh (h2.keep λo e=>s3.extBut _ _ D.a9.symm (s2.extBut _ _ D.a10.symm (s1.extBut _ _ D.a4 e))) (o2.keep λo e=>s3.extBut _ _ D2.2.1 (s2.extBut _ _ D2.2.2.1 (s1.extBut _ _ D2.1 e))) hy λH4 e s4 ⟨oe,e1,e2⟩=>?g)
  case g=>
  have z4:IsZip H4 z ti to .ellipsis:=s4 _ _ D.a4.symm (s3.extBut _ _ D.a2.symm (s2.extBut _ _ D.a3.symm z1));have ne:e≠z:=λx=>by subst x;rw[z4] at e1;cases e1;simp at e2
  exact iq z4 (by simp) λH5 _ s5=>q H5 e (λc o n x=>s5.extBut _ _ n.1 (s4 _ _ n.2.2.2 (s3.extBut _ _ n.2.1 (s2.extBut _ _ n.2.2.1 (s1.extBut _ _ n.1 x))))) ⟨oe,s5.extBut _ _ ne e1,e2⟩
end
def Inv.turnedL {pins:List (ww×Obj)}{σ:St}{H:Hp}{s:wv}{h':jp}{t':Nat}{ch:List ww}(I:Inv X pins σ H s)(hf:∀b∈ch,aBI X pins H b)(k:∀b o,b∉ch->s.heap.get? b=some o->h'.get? b=some o):Inv X pins σ H {s with heap:=h',toks:=t'}:=by
 have nit:∀b u,H b=some u->b∉ch:=λb u e z=>by rw[(hf b z).1] at e;cases e
 refine I.step (g':=s.gens) (d':=s.drawn) (ch:=ch) (λb hb=>?_) (λb o _ _ hc e _=>k b o hc e) (λb o _ _ hc e _=>⟨o.slots,k b o hc e⟩) (λ_ _ _ _ n=>n) (λb o hc e=>⟨o,k b o hc e⟩) (λ_ _ e=>e) (λ_ _ _ e=>e) (λb ps e=>⟨#[],by rw[e];simp⟩) (λm hm=>?_) (λb u e=>?_) I.bare
 ·obtain⟨_,f1,_,f3,f4,f5⟩:=hf b hb;exact⟨f3,f1,f4,f5⟩
 ·obtain⟨o,es,ep,ho,r⟩:=hm;exact⟨o,es,ep,k _ o (λz=>(hf _ z).2.1 rfl) ho,r⟩
 ·refine(I.hok b u e).stay (λc v hc q=>k c v ?_ q) (λ_ q=>q) λ_ _ q=>q;rcases hc with z|z
  ·rw[z];exact nit b u e
  ·exact nit c _ z
def SqB (b:Bool)(K:aa)(H:Hp)(l:ww)(xs:List V):Prop:=match b with|true=>SqL K H l xs|false=>SqT K H l xs
def Inv.obAt {pins:List (ww×Obj)}{σ:St}{H:Hp}{s:wv}{b:Bool}{l:ww}{xs:List V}(I:Inv X pins σ H s)(h:SqB b X.K H l xs):∃its:List wn,Vals xs its/\ObAt b s.heap l its.toArray/\xs.length<=cm:=by
 cases b with
 |true=>
  obtain⟨its,rv,pl,hz⟩:=I.list h;obtain⟨o,ho,hc,n,hd⟩:=pl.isList;exact⟨its,rv,⟨o,ho,hc,n,hd⟩,hz⟩
 |false=>
  obtain⟨its,rv,⟨o,ho,hc,n,hd⟩,hz⟩:=I.tuple h;exact⟨its,rv,⟨o,ho,hc,n,hd⟩,hz⟩
def Inv.sqB_inj {pins:List (ww×Obj)}{σ:St}{H:Hp}{s:wv}{b:Bool}{l:ww}{xs ys:List V}(I:Inv X pins σ H s)(h:SqB b X.K H l xs)(h':SqB b X.K H l ys):xs=ys:=by
 cases b with
 |true=>exact I.list_inj h h'
 |false=>exact I.tuple_inj h h'
def Itz (K:aa)(b1 b2:Bool)(l1 l2:ww):It :=
  ⟨λi H=>∃xs ys x y,SqB b1 K H l1 xs/\SqB b2 K H l2 ys/\xs[i]?=some x/\ys[i]?=some y,
   λi H v H'=>∃p x y,v=.ref p/\H p=none/\H'=upd H p (.tup [x,y])/\(∀xs,SqB b1 K H l1 xs->xs[i]?=some x)/\∀ys,SqB b2 K H l2 ys->ys[i]?=some y,
   λi H=>∃xs ys,SqB b1 K H l1 xs/\SqB b2 K H l2 ys/\(xs.length<=i\/ys.length<=i)⟩
def zTn (b1 b2:Bool)(z ti to i1 i2 l1 l2:ww)(i:Nat)(h:jp):Prop:=IsZip h z ti to .none/\xu h ti (.ref i1) (.ref i2)/\(∃u v,xu h to u v)/\ItAt b1 h i1 l1 i/\ItAt b2 h i2 l2 i
def aJn {K:aa}{es:List ut}{k:Nat}{pos:Pos}{b1 b2:Bool}{z ti to i1 i2 l1 l2:ww}(D:ZA z ti to i1 i2)(D1:ZP z to i1 i2 l1)(D2:ZP z to i1 i2 l2):
  aJB P w K (.Tuple es k pos) (Itz K b1 b2 l1 l2) [z,ti,to,i1,i2] z (zTn b1 b2 z ti to i1 i2 l1 l2) where
 mem:=by simp
 obj:=λi h ⟨h1,h2,⟨u,v,h3⟩,⟨o4,h4,_,d4⟩,⟨o5,h5,_,d5⟩⟩ b hb=>by
  simp only[b8,ja,or_false] at hb;rcases hb with rfl|rfl|rfl|rfl|rfl
  ·exact⟨_,h1,λv q=>by cases q⟩
  ·exact⟨_,h2,λv q=>by cases q⟩
  ·exact⟨_,h3,λv q=>by cases q⟩
  ·exact⟨_,h4,λv q=>by rw[d4] at q;cases q⟩
  ·exact⟨_,h5,λv q=>by rw[d5] at q;cases q⟩
 keep:=λi h h' ⟨h1,h2,⟨u,v,h3⟩,h4,h5⟩ kp=>⟨kp z (by simp) _ h1,kp ti (by simp) _ h2,⟨u,v,kp to (by simp) _ h3⟩,h4.keep λo e=>kp i1 (by simp) o e,h5.keep λo e=>kp i2 (by simp) o e⟩
 item:=by
  intro X hP hw hK hc i pins s σ H E I hf st hg;subst hP hw hK;obtain⟨h1,h2,⟨u0,v0,h3⟩,h4,h5⟩:=st;obtain⟨xs,ys,x,y,q1,q2,hx,hy⟩:=hg;obtain⟨us,r1,o1,z1⟩:=I.obAt q1;obtain⟨vs,r2,o2,z2⟩:=I.obAt q2;obtain⟨ux,hux,rx⟩:=r1.get hx;obtain⟨uy,huy,ry⟩:=r2.get hy;have hT:s.TypeIs (.ref z) "zip":=⟨_,h1,rfl⟩;unfold qf;refine ae (nq (fh (name:=i7 "__next__") hT vo (fi vo hT F.entry_zip_next (aIR D D1 D2 h1 h2 h3 h4 h5 o1 o2 (by simpa using hux) (by simpa using huy) λh' g1 g2 g3 g4 g5 g6 kp=>ao ⟨_,rfl,?g⟩) (F.args_zip_next_1 _))))
  case g=>
  refine wpAny_letOwnedTupleGo_zip (s:={s with heap:=h'}) g1 λh2' g1' sb=>?g
  case g=>
  have lt:∀b∈[z,ti,to,i1,i2],b<s.heap.objs.size:=λb hb=>by
   simp only[b8,ja,or_false] at hb;rcases hb with rfl|rfl|rfl|rfl|rfl
   ·exact bx h1
   ·exact bx h2
   ·exact bx h3
   ·exact h4.lt
   ·exact h5.lt
  have kb:∀c o,c∉[z,ti,to,i1,i2]->s.heap.get? c=some o->h'.get? c=some o:=λc o n e=>kp c o ⟨λq=>n (by simp[q]),λq=>n (by simp[q]),λq=>n (by simp[q]),λq=>n (by simp[q])⟩ e;have hn:H s.heap.objs.size=none:=I.hok.fresh (ar _);have I1:Inv X pins σ (upd H s.heap.objs.size (.tup [x,y])) {s with heap:=s.heap.push {cls:=.type "tuple",data:=.seq #[ux,uy]}}:=
   I.laid (t':=s.toks) (λb o e=>aj _ e) (ar _) (show ObjOk X.prog X.w _ _ _ (.tup [x,y]) from⟨C9,[ux,uy],.cons rx (.cons ry .nil),TupN.new _ _⟩)
  have hf1:∀b∈[z,ti,to,i1,i2],aBI X pins (upd H s.heap.objs.size (.tup [x,y])) b:=λb hb=>by
   obtain⟨f0,f⟩:=hf b hb;exact⟨by rw[aM (di (lt b hb))];exact f0,f⟩
  have I2:Inv X pins σ (upd H s.heap.objs.size (.tup [x,y])) {s with heap:=h'}:=I1.turnedL (t':=s.toks) hf1 λb o nb e=>by
   rcases AI e with⟨eb,eo⟩|e
   ·subst eb;subst eo;exact g5
   ·exact kb b o nb e
  have I3:Inv X pins σ (upd H s.heap.objs.size (.tup [x,y])) {s with heap:=h2'}:=I2.turnedL (t':=s.toks) hf1 λb o nb e=>sb.extBut _ _ (λq=>nb (by simp[q])) e;exact⟨.ref s.heap.objs.size,_,I3,rfl,⟨_,x,y,rfl,hn,rfl,λxs' e=>by rw[I.sqB_inj e q1];exact hx,λys' e=>by rw[I.sqB_inj e q2];exact hy⟩,
   ⟨g1',sb.extBut _ _ D.a1 (kp _ _ ⟨D.a1,D.a5,D.a6,D.a7⟩ h2),⟨_,_,sb.extBut _ _ D.a2 g2⟩,g3.keep λo e=>sb.extBut _ _ D.a3 e,g4.keep λo e=>sb.extBut _ _ D.a4 e⟩,λb hb=>(hf1 b hb).1⟩
 done:=by
  intro X hP hw hK hc i pins s σ H E I hf st hg;subst hP hw hK;obtain⟨h1,h2,⟨u0,v0,h3⟩,h4,h5⟩:=st;obtain⟨xs,ys,q1,q2,hl⟩:=hg;obtain⟨us,r1,o1,z1⟩:=I.obAt q1;obtain⟨vs,r2,o2,z2⟩:=I.obAt q2;have l1':=r1.length;have l2':=r2.length;have hT:s.TypeIs (.ref z) "zip":=⟨_,h1,rfl⟩;unfold qf;refine ae (nq (fh (name:=i7 "__next__") hT vo (fi vo hT F.entry_zip_next (aKq (I.ok.hd hc) D D1 D2 h1 h2 h3 h4 h5 o1 o2 (hl.elim (λh=>.inl (by simp;lia)) λh=>.inr (by simp;lia)) λh' e kp ⟨o,e1,e2⟩=>?g) (F.args_zip_next_1 _))))
  case g=>
  refine ae (qr (T:="StopIteration") (b:=true) ⟨o,e1,e2⟩ w5 (ao ⟨rfl,?g⟩))
  case g=>
  exact I.turnedL (t':=s.toks) hf λc o n e=>kp c o ⟨λq=>n (by simp[q]),λq=>n (by simp[q]),λq=>n (by simp[q]),λq=>n (by simp[q])⟩ e
 self:=λ_ _ _ _ _ st q=>wpAny_pyIter_zip st.1 q
abbrev zH1 (h:jp)(b1:Bool)(l1:ww):jp:=h.push (itO b1 l1)
abbrev zH2 (h:jp)(b1 b2:Bool)(l1 l2:ww):jp:=(zH1 h b1 l1).push (itO b2 l2)
abbrev zH3 (h:jp)(b1 b2:Bool)(l1 l2:ww):jp:=(zH2 h b1 b2 l1 l2).push {cls:=.type "tuple",data:=.seq #[.ref h.objs.size,.ref (zH1 h b1 l1).objs.size]}
abbrev zH4 (h:jp)(b1 b2:Bool)(l1 l2:ww):jp:=(zH3 h b1 b2 l1 l2).push {cls:=.type "tuple",data:=.seq #[.none,.none]}
abbrev zH5 (h:jp)(b1 b2:Bool)(l1 l2:ww):jp:=(zH4 h b1 b2 l1 l2).push {cls:=.type "zip",data:=.fields #[.none,.bool false,.bool false,.ref (zH2 h b1 b2 l1 l2).objs.size,.ref (zH3 h b1 b2 l1 l2).objs.size]}
def ObAt.push (x:ObAt b h l us)(o:Obj):ObAt b (h.push o) l us:=x.keep λ_ e=>aj _ e
def aKf (b1 b2:Bool)(l1 l2:ww)(xs ys:Array wn):
  Meets (Builtin.«zip.__new__» ⟨[.type "zip",.ref l1,.ref l2],[]⟩) (λ_ R s=>ObAt b1 s.heap l1 xs/\ObAt b2 s.heap l2 ys/\R (.ok (.ret (.ref (zH4 s.heap b1 b2 l1 l2).objs.size))) {s with heap:=zH5 s.heap b1 b2 l1 l2}):=
 .of_wp λprog w A R s h=>by
  obtain⟨hp,g,d,tk,os⟩:=s;obtain⟨m1,m2,q⟩:=h;have hsub:=sub_zip;have n1:ObAt b1 (Ce ⟨hp,g,d,tk,os⟩) l1 xs:=m1;have n2:ObAt b2 (Ce ⟨hp.push (itO b1 l1),g,d,tk,os⟩) l2 ys:=ObAt.push m2 _
  wp_walk using rO n1,rO n2
  exact⟨_,rfl,q⟩
def aHE {s:wv}{b1 b2:Bool}{l1 l2:ww}{xs ys:Array wn}(o1:ObAt b1 s.heap l1 xs)(o2:ObAt b2 s.heap l2 ys)(q:∀h',zTn b1 b2 (s.heap.objs.size+4) (s.heap.objs.size+2) (s.heap.objs.size+3) s.heap.objs.size (s.heap.objs.size+1) l1 l2 0 h'->(∀c o,s.heap.get? c=some o->h'.get? c=some o)->Q (.ref (s.heap.objs.size+4)) {s with heap:=h'}):
  v4 (v6 prog w) A (call (.type "zip") [.ref l1,.ref l2]) Q E s:=by
 refine BK F.called_zip (by decide) (F.typeCall_zip_2 _ _) (F.newCall_zip_2 _ _) (λob=>F.args_object_init_3 ob _ _) F.entry_zip_new (aKf b1 b2 l1 l2 xs ys) ⟨o1,o2,?g⟩
 case g=>
 have z1:(zH1 s.heap b1 l1).objs.size=s.heap.objs.size+1:=f6 ..;have z2:(zH2 s.heap b1 b2 l1 l2).objs.size=s.heap.objs.size+2:=by rw[f6,z1]
 have z3:(zH3 s.heap b1 b2 l1 l2).objs.size=s.heap.objs.size+3:=by rw[f6,z2]
 have z4:(zH4 s.heap b1 b2 l1 l2).objs.size=s.heap.objs.size+4:=by rw[f6,z3]
 have g5:(zH5 s.heap b1 b2 l1 l2).get? (zH4 s.heap b1 b2 l1 l2).objs.size=some _:=bg _ rfl;have g4:(zH5 s.heap b1 b2 l1 l2).get? (zH3 s.heap b1 b2 l1 l2).objs.size=some _:=aj _ (bg _ rfl);have g3:(zH5 s.heap b1 b2 l1 l2).get? (zH2 s.heap b1 b2 l1 l2).objs.size=some _:=aj _ (aj _ (bg _ rfl));have g2:(zH5 s.heap b1 b2 l1 l2).get? (zH1 s.heap b1 l1).objs.size=some _:=aj _ (aj _ (aj _ (bg _ rfl)));have g1:(zH5 s.heap b1 b2 l1 l2).get? s.heap.objs.size=some _:=aj _ (aj _ (aj _ (aj _ (bg _ rfl))));rw[z2,z3,z4] at g5;rw[z1,z2] at g3;rw[z3] at g4;rw[z1] at g2;show _/\_;rw[z4];exact⟨⟨_,g5,rfl⟩,q _ ⟨g5,g3,⟨_,_,g4⟩,⟨_,g1,rfl,rfl⟩,⟨_,g2,rfl,rfl⟩⟩ λc o x=>aj _ (aj _ (aj _ (aj _ (aj _ x))))⟩
def aKs (K:aa)(ta:TA):TI:=λσ H R=>ta σ H λvs H1=>∃l1 l2 b1 b2,vs=[.ref l1,.ref l2]/\(∃xs,SqB b1 K H1 l1 xs)/\(∃ys,SqB b2 K H1 l2 ys)/\R (Itz K b1 b2 l1 l2) H1
def aNW (n:Nat):ZA (n+4) (n+2) (n+3) n (n+1):=by
 constructor<;>(intro h;replace h:(_:Nat)=_:=h;lia)
def aKc {n l:Nat}(h:l<n):ZP (n+4) (n+3) n (n+1) l:=
 ⟨di (av h (jn _ _)),di (av h (jn _ _)),di h,di (av h (jn _ _))⟩
def aNt:fm "zip"=some (.type "zip"):=by decide+kernel
def aLb:fm "repr"=some (.builtin "repr"):=by decide+kernel
def aNC {es:List ut}{k:Nat}{po:Pos}{a b:ut}{ta:TA}{p pos:Pos}(hg:Gl X "zip")(hm:X.mg "zip"=none)(ha:PA X [a,b] ta)(hs:fv [a,b] X.env=[(false,eval a X.env),(false,eval b X.env)]:=by rfl)(hs2:fv [b] X.env=[(false,eval b X.env)]:=by rfl):
  PI X (.Tuple es k po) (.Call (.Name "zip" p) [a,b] [] pos) (aKs X.K ta):=by
 intro pins s σ H R I h;refine Call_ (tM I hg hm aNt (jx (thn (ha pos pins s σ H _ I h) λus s1 ⟨vs,H1,I1,r1,q1⟩=>?g) (by rw[hs,hs2]) (by rw[hs2];rfl)))
 case g=>
 obtain⟨l1,l2,b1,b2,e,⟨xs,q2⟩,⟨ys,q3⟩,q⟩:=q1;subst e;obtain⟨u1,u2,rfl,e1,e2⟩:=aMX r1;obtain rfl:u1=Value.ref l1:=e1;obtain rfl:u2=Value.ref l2:=e2;obtain⟨x1,v1,o1,_⟩:=I1.obAt q2;obtain⟨x2,v2,o2,_⟩:=I1.obAt q3;have a1:l1<s1.heap.objs.size:=let⟨_,e,_⟩:=o1;bx e;have a2:l2<s1.heap.objs.size:=let⟨_,e,_⟩:=o2;bx e;refine aHE o1 o2 λh' zt kp=>wpAny_pyIter_zip (s:={s1 with heap:=h'}) zt.1 ?g
 case g=>
 refine⟨_,[s1.heap.objs.size+4,s1.heap.objs.size+2,s1.heap.objs.size+3,s1.heap.objs.size,s1.heap.objs.size+1],_,_,H1,rfl,I1.kept (t':=s1.toks) kp,aJn (aNW _) (aKc a1) (aKc a2),zt,λb hb=>?g,q⟩
 case g=>
 have lb:s1.heap.objs.size<=b:=by
  simp only[b8,ja,or_false] at hb;rcases hb with rfl|rfl|rfl|rfl|rfl<;>first|exact jn _ _|exact ar _
 exact I1.fpOk lb (I1.hok.fresh lb)
def aGY {K:aa}{es:List ut}{k:Nat}{po:Pos}{a b:ut}{ta:TA}{p pos:Pos}(hK:X.K=K)(hg:Gl X "zip")(hm:X.mg "zip"=none)(ha:PA X [a,b] ta)(hs:fv [a,b] X.env=[(false,eval a X.env),(false,eval b X.env)]:=by rfl)(hs2:fv [b] X.env=[(false,eval b X.env)]:=by rfl):
  PI X (.Tuple es k po) (.Call (.Name "zip" p) [a,b] [] pos) (aKs K ta):=by subst hK;exact aNC hg hm ha hs hs2
def aKI {K:aa}{b1 b2:Bool}{l1 l2:ww}{xs ys:List V}{g:TG}{tb:TS}{D:xX}{σ:St}{H:Hp}(hlen:ys.length=xs.length)(Pv:Nat->St->Hp->Prop)(h0:Pv 0 σ H)(hl:∀i σ H,i<=xs.length->Pv i σ H->SqB b1 K H l1 xs/\SqB b2 K H l2 ys)(hs:∀i x y σ H p,xs[i]?=some x->ys[i]?=some y->H p=none->Pv i σ H->g (.ref p) σ (upd H p (.tup [x,y])) λσ2 H2=>tb {D with nx:=Pv (i+1),ct:=Pv (i+1),bk:=D.nx} σ2 H2)(hd:∀σ H,Pv xs.length σ H->D.nx σ H):
  dP (Itz K b1 b2 l1 l2) g tb D σ H:=by
 refine⟨λi m σ H=>m=xs.length-i/\i<=xs.length/\Pv i σ H,⟨xs.length,by simp,bh _,h0⟩,?g⟩
 case g=>
 rintro i m σ H ⟨rfl,hi,p⟩;obtain⟨q1,q2⟩:=hl i σ H hi p;by_cases hlt:i<xs.length
 ·refine .inr ⟨⟨xs,ys,xs[i],ys[i]'(by lia),q1,q2,by simp[hlt],by simp[show i<ys.length by lia]⟩,Pv (i+1),λσ' H' p'=>⟨xs.length-(i+1),by lia,rfl,hlt,p'⟩,λv H' ⟨a,x,y,e1,e2,e3,e4,e5⟩=>?g⟩
  case g=>
  subst e1;subst e3;exact hs i x y σ H a (e4 xs q1) (e5 ys q2) e2 p
 ·obtain rfl:i=xs.length:=by lia
  exact .inl ⟨⟨xs,ys,q1,q2,.inl (ar _)⟩,hd σ H p⟩
structure aRQ (mg:u8->Option wn):Prop extends Blt mg where
 zip:mg "zip"=none
 repr:mg "repr"=none
 enumerate:mg "enumerate"=none
 reversed:mg "reversed"=none
 str:mg "str"=none
def aCz {s:wv}{sl:ww}{t:Tok}{n:Nat}(hs:s.heap.IsSliceOf sl .none .none (.int (-1) t))(h:Q ((n:Int)-1,-1,n) s):v4 (v6 prog w) A (ma (.ref sl) (pure (n:Int))) Q E s:=by
 obtain⟨os,e1,e2,e3⟩:=id hs;unfold ma wz;refine ae (ae (gs e1 e3 (x:=.none) rfl (ae (gs e1 e3 (x:=.none) rfl (ae (gs e1 e3 (x:=.int (-1) t) rfl (ao ?g)))))))
 case g=>
 refine ae (HT.slicePart_ (IsPart.int (-1) t) ?g)
 case g=>
 show v4 _ _ (if((-1:Int)==0)=true then _ else _) _ _ s;rw[C4 (by decide)];refine ae (HT.slicePart_ IsPart.none (ae (HT.slicePart_ IsPart.none (ae (ao ?g)))))
 case g=>
 have ea:jh none none (-1) (n:Int)=((n:Int)-1,-1):=by
  unfold jh;simp
 have ep:ie ((n:Int)-1) (-1) (-1)=n:=by
  unfold ie;rw[C4 (by decide)];by_cases h0:(n:Int)-1 > -1
  ·rw[C5 h0];simp
  ·rw[C4 h0];simp;lia
 show v4 _ _ (match jh none none (-1) (n:Int) with|(lo,hi)=>pure (lo,(-1:Int),ie lo hi (-1))) _ _ s
 rw[ea];show v4 _ _ (pure ((n:Int)-1,(-1:Int),ie ((n:Int)-1) (-1) (-1))) _ _ s;rw[ep];exact ao h
def aIE (us:List wn):((bc us.length).filterMap λ(k:Nat)=>us.toArray[((us.length:Int)-1+(k:Int)*(-1)).toNat]?)=us.reverse:=by
 have e:∀k∈bc us.length,us.toArray[((us.length:Int)-1+(k:Int)*(-1)).toNat]?=us.reverse[k]?:=λk hk=>by
  have hk':k<us.length:=fc.mp hk;rw[List.getElem?_reverse hk',iz];congr 1;lia
 have e2:∀L:List Nat,(∀k∈L,us.toArray[((us.length:Int)-1+(k:Int)*(-1)).toNat]?=us.reverse[k]?)->(L.filterMap λ(k:Nat)=>us.toArray[((us.length:Int)-1+(k:Int)*(-1)).toNat]?)=L.filterMap λk=>us.reverse[k]?:=by
  intro L
  induction L with
  |nil=>intro _;rfl
  |cons k L ih=>
   intro h;rw[la,la,h k (by simp),ih λj hj=>h j (by simp[hj])]
 rw[e2 _ e];have hr:us.length=us.reverse.length:=(lh).symm;rw[hr];generalize us.reverse=vs;clear e e2 hr
 induction vs with
 |nil=>rfl
 |cons v vs ih=>
  rw[c5,l9,la,wa];show v::_=v::vs;congr 1
def aCu {s:wv}{t sl:ww}{us:List wn}{tk:Tok}(ht:IsTup s.heap t us.toArray)(hs:s.heap.IsSliceOf sl .none .none (.int (-1) tk))(hz:us.length<=cm)(h:Q (.ref s.heap.objs.size) {s with heap:=s.heap.push {cls:=.type "tuple",data:=.seq us.reverse.toArray}}):v4 (v6 prog w) A (Ag (.ref t) (.ref sl)) Q E s:=by
 obtain⟨os,e1,e2,e3⟩:=id hs;have hok:sizeOk (.seq us.reverse.toArray):=by show us.reverse.toArray.size<=cm;rw[ay,lh];exact hz
 unfold Ag;try with_reducible refine f9 ?_
 first|refine ae (ao ?_)|skip
 refine ae (xm ht.typeIs (by decide) (ae (fh (name:=i7 "__getitem__") ht.typeIs fq (fi fq ht.typeIs vg ?g (we _ _)))))
 case g=>
 show v4 _ _ (qb (.ref t) >>= _) _ _ s;refine ae (Bi ht (ae (ot (T:="slice") ⟨os,e1,e2⟩ ?g)))
 case g=>
 rw[C5 (by decide)];refine ae (aCz (n:=us.toArray.size) hs ?g)
 case g=>
 have no:¬((((us.toArray.size:Int)-1)==0&&(-1:Int)==1&&us.toArray.size==us.toArray.size)=true):=by simp
 show v4 _ _ (if(((us.toArray.size:Int)-1)==0&&(-1:Int)==1&&us.toArray.size==us.toArray.size)=true then _ else _) _ _ s;rw[C4 no];rw[show((bc us.toArray.size).filterMap λ(k:Nat)=>us.toArray[((us.toArray.size:Int)-1+(k:Int)*(-1)).toNat]?)=us.reverse by rw[ay];exact aIE us]
 first
  |exact ae (m:=gj _) (dz (ao ⟨_,rfl,ao h⟩) hok)
  |exact ae (m:=gj _) (dz (ae (ao (ao ⟨_,rfl,ao h⟩))) hok)
  |exact ae (ae (m:=gj _) (dz (ao (ao ⟨_,rfl,ao h⟩)) hok))
  |exact ae (ae (m:=gj _) (dz (ao ⟨_,rfl,ao h⟩) hok))
theorem Vals.rev:∀{xs:List V}{us:List wn},Vals xs us->Vals xs.reverse us.reverse
 |_,_,.nil=>.nil
 |_,_,.cons r t=>by
  rw[List.reverse_cons,List.reverse_cons];exact Vals.append (Vals.rev t) (.cons r .nil)
def aNM (K:aa)(te:TE):TE:=λσ H Q=>te σ H λx H1=>∃a xs,x=.ref a/\SqT K H1 a xs/\∀p,H1 p=none->Q (.ref p) (upd H1 p (.tup xs.reverse))
def aMB (he:PE X e te):PE X (.Subscript e (.Slice none none (some (.UnaryOp .USub (.Constant (.int 1) k p1) p3)) p2) pos) (aNM X.K te):=by
 intro pins s σ H Q I h;refine Bz (thn (he pins s σ H _ I h) λv s1 ⟨x,H1,I1,r1,q1⟩=>?g)
 case g=>
 obtain⟨a,xs,rfl,hx,q⟩:=q1;obtain rfl:v=Value.ref a:=r1;refine BZ ?g
 case g=>
 rw[ym];refine ao (ao ?g)
 case g=>
 rw[Bj];refine thn ((aLW aGz eP:PE X (.UnaryOp .USub (.Constant (.int 1) k p1) p3) (tUn pK (AC 1))) pins s1 σ H1 (λx H'=>x=.int (-1)/\H'=H1) I1 ⟨1,rfl,rfl,rfl⟩) λu s2 ⟨y,H2,I2,r2,q2⟩=>?g
 case g=>
 obtain⟨rfl,rfl⟩:=q2;obtain⟨t,rfl⟩:=r2;obtain⟨its,rv,pt,hz⟩:=I2.tuple hx;have hl:=rv.length;have I4:Inv X pins σ H2 {s2 with heap:=s2.heap.push {cls:=.type "slice",data:=.fields #[.none,.none,.int (-1) t]}}:=I2.kept (t':=s2.toks) λb ob q=>aj _ q;obtain⟨its',rv',pt',_⟩:=I4.tuple hx;have hl':=rv'.length;show v4 (v6 X.prog X.w) X.A (yn e (.Slice none none (some (.UnaryOp .USub (.Constant (.int 1) k p1) p3)) p2) (.ref a) (.ref s2.heap.objs.size)) (EP X pins σ Q) X.xe {s2 with heap:=s2.heap.push {cls:=.type "slice",data:=.fields #[.none,.none,.int (-1) t]}};refine tail_any (ops:=[.ref a,.ref s2.heap.objs.size]) pt'.typeIs fq.lookup (aCu pt' (wg ..) (by lia) ?g) (by with_unfolding_all rfl)
 case g=>
 refine⟨.ref _,_,I4.laid (t':=s2.toks) (o:=.tup xs.reverse) (λb ob q=>aj _ q) (ar _) ?g,rfl,q _ (I4.hok.fresh (ar _))⟩
 case g=>exact⟨by rw[lh];exact hz,_,Vals.rev rv',TupN.new _ _⟩
def aKJ {K:aa}{e:ut}{te:TE}{p1 p2 p3 pos:Pos}{k:Nat}(hK:X.K=K)(he:PE X e te):PE X (.Subscript e (.Slice none none (some (.UnaryOp .USub (.Constant (.int 1) k p1) p3)) p2) pos) (aNM K te):=by subst hK;exact aMB he
def aAt {K:aa}{o e:ut}{es:List ut}{to:TE}{t:TA}{name:u8}{apos cpos:Pos}{T id:String}{r:V->List V->Hp->VK->Prop}(hK:X.K=K)(pa:PlainAttrs T)(slot:Slot T name id)(hty:typeOf (.builtin id)=pure (.type "method_descriptor"))(hm:MtM X id r)(ho:PE X o to)(ha:PA X (e::es) t)(b1:attributeBase o name X.env (eval o X.env)=eval o X.env:=by rfl)(b2:((vc cpos (fv (e::es) X.env)).all (λx=>!x.1)&&(backToKw cpos (keywordEach [] X.env)).all (λx=>x.1.isSome)&&decide ((e::es).length+([]:List Keyword).length+(if([]:List Keyword).isEmpty then 0 else 1)<30))=true:=by rfl)(b3:(apos.endLine==cpos.line)=true:=by rfl)(b4:fv (e::es) X.env=(false,eval e X.env)::fv es X.env:=by rfl)(b5:(vc cpos (fv es X.env)).any (·.1)=false:=by rfl):
  PE X (.Call (.Attribute o name apos) (e::es) [] cpos) (tBM K T r to t):=by subst hK;exact aPG pa slot hty hm ho ha b1 b2 b3 b4 b5
def aPc:R2:=λx y H Q=>(∃a b,x=.bl a/\y=.bl b/\Q (.bl (a==b)) H)\/(y=.non/\Q (.bl (decide (x=.non))) H)
def xU:R2:=λx y H Q=>(∃a b,x=.bl a/\y=.bl b/\Q (.bl (!(a==b))) H)\/(y=.non/\Q (.bl (!decide (x=.non))) H)
def aNU:OpR X (iw .Is) aPc:=by
 refine OpR.or (λpins s σ H x y v u Q I rx ry h=>?g) aNX
 case g=>
 obtain⟨a,b,rfl,rfl,q⟩:=h;obtain rfl:v=Value.bool a:=rx;obtain rfl:u=Value.bool b:=ry;exact wpAny_is_plain (by cases a<;>cases b<;>rfl) (aDR I q (by cases a<;>cases b<;>rfl))
def aGN:OpR X (iw .IsNot) xU:=by
 refine OpR.or (λpins s σ H x y v u Q I rx ry h=>?g) aKr
 case g=>
 obtain⟨a,b,rfl,rfl,q⟩:=h;obtain rfl:v=Value.bool a:=rx;obtain rfl:u=Value.bool b:=ry;exact wpAny_isNot_plain (by cases a<;>cases b<;>rfl) (aDR I q (by cases a<;>cases b<;>rfl))
end L2
namespace L2
open PySem
def cB (p:Nat):V:=.int (p:Int)
def aW {c:Bool}{B:Prop}(e:c=true)(h:A):if c=true then A else B:=by rw[C5 e];exact h
def bB {c:Bool}{B:Prop}(e:c=false)(h:B):if c=true then A else B:=by subst e;exact aRu h
def aCh (h:SqT K H a xs)(hl:H l=some (.lst ys)):SqT K (upd H l o) a xs:=by
 have key:∀u,H a=some u->(∀zs,u≠.lst zs)->upd H l o a=some u:=λu e n=>by
  rw[aM]
  ·exact e
  ·intro z;rw[z,hl] at e;cases e;exact n _ rfl
 rcases h with(h|⟨u,h⟩)|h
 ·exact .inl (.inl (key _ h λ_ z=>by cases z))
 ·exact .inl (.inr ⟨u,key _ h λ_ z=>by cases z⟩)
 ·exact .inr h
def aQl {k n:Nat}(h:k<n):Bk (k:Int) n=some k:=by
 have e:Bk (k:Int) n=if(decide (0<=(if(k:Int)<0 then(k:Int)+(n:Int) else(k:Int)))&&decide ((if(k:Int)<0 then(k:Int)+(n:Int) else(k:Int))<(n:Int)))=true then some (if(k:Int)<0 then(k:Int)+(n:Int) else(k:Int)).toNat else none:=rfl;rw[e];simp only[show ¬(k:Int)<0 by lia,if_false];rw[C5 (by simp;lia)];rfl
def aFT {c:Int}{n:Nat}(h:1<=n):∃k:Nat,c % (n:Int)=(k:Int)/\k<n:=by
 have g0:=Ao c (show(n:Int)≠0 by lia);have g1:=Int.emod_lt_of_pos c (show(0:Int)<(n:Int) by lia);obtain⟨k,hk⟩:=Int.eq_ofNat_of_zero_le g0;exact⟨k,hk,by lia⟩
def Rows (K:aa)(H:Hp)(xs:List V)(T:List (List Int)):Prop:=xs.length=T.length/\∀(i:Nat) (row:List Int),T[i]?=some row->∃b,xs[i]?=some (.ref b)/\SqT K H b (row.map V.int)
def Rows.map (h:Rows K H xs T)(f:∀b row,SqT K H b row->SqT K H' b row):Rows K H' xs T:=⟨h.1,λi row e=>by
 obtain⟨b,e1,e2⟩:=h.2 i row e;exact⟨b,e1,f _ _ e2⟩⟩
def Rows.same (h:Rows K H xs T)(e:Same H H'):Rows K H' xs T:=h.map λ_ _ s=>e.tup s
def Rows.put (h:Rows K H xs T)(hl:H l=some (.lst ys)):Rows K (upd H l o) xs T:=h.map λ_ _ s=>aCh s hl
def Rows.nil:Rows K H [] []:=⟨rfl,λi row e=>by cases e⟩
def Rows.snoc (h:Rows K H xs T)(hb:SqT K H b (r.map V.int)):Rows K H (xs++[.ref b]) (T++[r]):=by
 refine⟨by rw[aq,aq,h.1];rfl,λi row e=>?_⟩;by_cases hi:i<T.length
 ·rw[dg hi] at e;obtain⟨b',e1,e2⟩:=h.2 i row e;exact⟨b',by rw[dg (by rw[h.1];exact hi)];exact e1,e2⟩
 ·rw[c9 (by lia)] at e;have:i-T.length=0:=by
   rcases hk:i-T.length with _|k
   ·rfl
   ·rw[hk] at e;cases e
  rw[this] at e;cases e;exact⟨b,by rw[c9 (by rw[h.1];lia),h.1,this];rfl,hb⟩
def Rows.sh (h:Rows K H xs T)(hl:SqL K H l xs):Sh K H (.lst (T.map λr=>Dt.tup (r.map Dt.int))) (.ref l):=⟨l,xs,rfl,hl,ShL.of_rows h.1 h.2⟩
def aFj (T:List (List Int)):dep (.lst (T.map λr=>Dt.tup (r.map Dt.int)))<=100:=by
 have hi:∀r:List Int,kZ (r.map Dt.int)=0:=λr=>by
  induction r with
  |nil=>rfl
  |cons a r ih=>rw[de,kZ,ih];rfl
 have:∀T:List (List Int),kZ (T.map λr=>Dt.tup (r.map Dt.int))<=1:=λT=>by
  induction T with
  |nil=>decide
  |cons r T ih=>rw[de,kZ,dep,hi];lia
 have:=this T;rw[dep];lia
end L2
namespace L2
open PySem PySem.Spec PyProof.Rows
def aGQ {E:wn->wv->Prop}{s:wv}{b:Bool}{z it l:ww}{k:Nat}{us:Array wn}{x u:wn}{Q:wn->wv->Prop}(hne:z≠it)(hz:Cf s.heap z it k u)(h1:ItAt b s.heap it l k)(o1:ObAt b s.heap l us)(hx:us[k]?=some x)(q:∀h',IsEnumOut h' z it ((k:Int)+1) x s.heap.objs.size->ItAt b h' it l (k+1)->h'.get? s.heap.objs.size=some {cls:=.type "tuple",data:=.seq #[.int k s.toks,x]}->h'.objs.size=s.heap.objs.size+1->(∀c o,c≠z->c≠it->s.heap.get? c=some o->h'.get? c=some o)->Q (.ref s.heap.objs.size) {s with heap:=h',toks:=s.toks+1}):
  v4 (v6 prog w) A (Builtin.«enumerate.__next__» ⟨[.ref z],[]⟩) (λfin s'=>∃r,fin=.done (.ret r)/\Q r s') E s:=by
 show v4 _ _ (field (.ref z) 2 >>= _) _ _ _;refine ae (gs hz rfl (x:=.ref it) rfl (ae (rB (b:=b) h1 o1 hx λH1 t1 s1=>?g)))
 case g=>
 have z1:Cf H1 z it k u:=s1.extBut _ _ hne hz;show v4 _ _ (field (.ref z) 3 >>= _) _ _ _;refine ae (gs z1 rfl (x:=jw k) rfl ?g)
 case g=>
 show v4 _ _ (field (.ref z) 4 >>= _) _ _ _;refine ae (gs z1 rfl (x:=.none) rfl ?g)
 case g=>
 show v4 _ _ (mkInt k >>= _) _ _ _;refine ae (wpAny_mkInt ?g)
 case g=>
 show v4 _ _ (Bn (.ref z) 3 (jw ((k:Int)+1)) >>= _) _ _ _;refine ae (iq z1 (by simp) λH2 z2 s2=>?g)
 case g=>
 replace z2:Cf H2 z it ((k:Int)+1) u:=z2;show v4 _ _ (Bn (.ref z) 4 .none >>= _) _ _ _;refine ae (iq z2 (by simp) λH3 z3 s3=>?g)
 case g=>
 replace z3:Cf H3 z it ((k:Int)+1) u:=z3;show v4 _ _ (newTuple [.int k s.toks,x] >>= _) _ _ _;refine ae (w4 ?g)
 case g=>
 have sz:H3.objs.size=s.heap.objs.size:=by rw[s3.1,s2.1,s1.1]
 have z4:Cf (H3.push {cls:=.type "tuple",data:=.seq #[.int k s.toks,x]}) z it ((k:Int)+1) u:=aj _ z3;have lz:z<H3.objs.size:=bx z3;show v4 _ _ (gv (.ref z) >>= _) _ _ _;unfold gv;refine ae (ae (gs z4 rfl (x:=.none) rfl (ao ?g)))
 case g=>
 simp only[if_true];refine ae (tv (ae (gs z4 rfl (x:=u) rfl (ae (iq z4 (by simp) λH5 z5 s5=>?g)))))
 case g=>
 replace z5:Cf H5 z it ((k:Int)+1) x:=z5;show v4 _ _ (ji (.ref z) (.ref H3.objs.size) >>= _) _ _ _;unfold ji;refine ae (ae (iq z5 (by simp) λH6 z6 s6=>?g))
 case g=>
 replace z6:IsEnumOut H6 z it ((k:Int)+1) x H3.objs.size:=z6;refine iq z6 (by simp) λH7 z7 s7=>?g
 case g=>
 replace z7:IsEnumOut H7 z it ((k:Int)+1) x H3.objs.size:=z7;have up:∀c o,c≠z->H3.get? c=some o->H7.get? c=some o:=λc o n e=>s7.extBut _ _ n (s6.extBut _ _ n (s5.extBut _ _ n (aj _ e)));have p7:H7.get? H3.objs.size=some {cls:=.type "tuple",data:=.seq #[.int k s.toks,x]}:=s7.extBut _ _ (jo lz) (s6.extBut _ _ (jo lz) (s5.extBut _ _ (jo lz) (bg _ rfl)));have n7:H7.objs.size=H3.objs.size+1:=by rw[s7.1,s6.1,s5.1,f6]
 rw[sz] at z7 p7 n7;refine ae (qv (ao ⟨_,rfl,(?g:Q (.ref H3.objs.size) _)⟩))
 case g=>
 rw[sz];refine q H7 z7 (t1.keep λo e=>up _ o hne.symm (s3.extBut _ _ hne.symm (s2.extBut _ _ hne.symm e))) p7 n7 λc o n m e=>up c o n (s3.extBut _ _ n (s2.extBut _ _ n (s1.extBut _ _ m e)))
def aIG {s:wv}{b:Bool}{z it l:ww}{k:Nat}{us:Array wn}{u:wn}(hh:A.handled=none)(hz:Cf s.heap z it k u)(h1:ItAt b s.heap it l k)(o1:ObAt b s.heap l us)(hx:us[k]?=none)(q:∀h' e,yp it s.heap h'->(∃o,h'.get? e=some o/\o.cls=.type "StopIteration")->E (.ref e) {s with heap:=h'}):
  v4 (v6 prog w) A (Builtin.«enumerate.__next__» ⟨[.ref z],[]⟩) Q E s:=by
 show v4 _ _ (field (.ref z) 2 >>= _) _ _ _;exact ae (gs hz rfl (x:=.ref it) rfl (ae (aCx (b:=b) hh h1 o1 hx q)))
def Ite (K:aa)(b:Bool)(l:ww):It :=
  ⟨λi H=>∃xs x,SqB b K H l xs/\xs[i]?=some x,
   λi H v H'=>∃p x,v=.ref p/\H p=none/\H'=upd H p (.tup [.int (i:Int),x])/\∀xs,SqB b K H l xs->xs[i]?=some x,
   λi H=>∃xs,SqB b K H l xs/\xs.length<=i⟩
def eTn (b:Bool)(z it l:ww)(i:Nat)(h:jp):Prop:=(∃u,Cf h z it i u)/\ItAt b h it l i
def aFQ {K:aa}{es:List ut}{k:Nat}{pos:Pos}{b:Bool}{z it l:ww}(hne:z≠it):
  aJB P w K (.Tuple es k pos) (Ite K b l) [z,it] z (eTn b z it l) where
 mem:=by simp
 obj:=λi h ⟨⟨u,h1⟩,⟨o2,h2,_,d2⟩⟩ c hb=>by
  simp only[b8,ja,or_false] at hb;rcases hb with rfl|rfl
  ·exact⟨_,h1,λv q=>by cases q⟩
  ·exact⟨_,h2,λv q=>by rw[d2] at q;cases q⟩
 keep:=λi h h' ⟨⟨u,h1⟩,h2⟩ kp=>⟨⟨u,kp z (by simp) _ h1⟩,h2.keep λo e=>kp it (by simp) o e⟩
 item:=by
  intro X hP hw hK hc i pins s σ H E I hf st hg;subst hP hw hK;obtain⟨⟨u0,h1⟩,h2⟩:=st;obtain⟨xs,x,q1,hx⟩:=hg;obtain⟨us,r1,o1,z1⟩:=I.obAt q1;obtain⟨ux,hux,rx⟩:=r1.get hx;have hT:s.TypeIs (.ref z) "enumerate":=⟨_,h1,rfl⟩;unfold qf;refine ae (nq (fh (name:=i7 "__next__") hT oz (fi oz hT zv (aGQ hne h1 h2 o1 (by simpa using hux) λh' g1 g2 g3 g4 kp=>ao ⟨_,rfl,?g⟩) (yr _))))
  case g=>
  refine wpAny_letOwnedTupleGo_enum (s:={s with heap:=h',toks:=s.toks+1}) g1 λh2' g1' sb=>?g
  case g=>
  have lt:∀c∈[z,it],c<s.heap.objs.size:=λc hb=>by
   simp only[b8,ja,or_false] at hb;rcases hb with rfl|rfl
   ·exact bx h1
   ·exact h2.lt
  have kb:∀c o,c∉[z,it]->s.heap.get? c=some o->h'.get? c=some o:=λc o n e=>kp c o (λq=>n (by simp[q])) (λq=>n (by simp[q])) e;have hn:H s.heap.objs.size=none:=I.hok.fresh (ar _);have I1:Inv X pins σ (upd H s.heap.objs.size (.tup [.int (i:Int),x])) {s with heap:=s.heap.push {cls:=.type "tuple",data:=.seq #[.int i s.toks,ux]},toks:=s.toks+1}:=
   I.laid (t':=s.toks+1) (λc o e=>aj _ e) (ar _) (show ObjOk X.prog X.w _ _ _ (.tup [.int (i:Int),x]) from⟨C9,[.int i s.toks,ux],.cons ⟨_,rfl⟩ (.cons rx .nil),TupN.new _ _⟩)
  have hf1:∀c∈[z,it],aBI X pins (upd H s.heap.objs.size (.tup [.int (i:Int),x])) c:=λc hb=>by
   obtain⟨f0,f⟩:=hf c hb;exact⟨by rw[aM (di (lt c hb))];exact f0,f⟩
  have I2:Inv X pins σ (upd H s.heap.objs.size (.tup [.int (i:Int),x])) {s with heap:=h',toks:=s.toks+1}:=I1.turnedL (t':=s.toks+1) hf1 λc o nb e=>by
   rcases AI e with⟨eb,eo⟩|e
   ·subst eb;subst eo;exact g3
   ·exact kb c o nb e
  have I3:Inv X pins σ (upd H s.heap.objs.size (.tup [.int (i:Int),x])) {s with heap:=h2',toks:=s.toks+1}:=I2.turnedL (t':=s.toks+1) hf1 λc o nb e=>sb.extBut _ _ (λq=>nb (by simp[q])) e;exact⟨.ref s.heap.objs.size,_,I3,rfl,⟨_,x,rfl,hn,rfl,λxs' e=>by rw[I.sqB_inj e q1];exact hx⟩,
   ⟨⟨_,by simpa using g1'⟩,g2.keep λo e=>sb.extBut _ _ hne.symm e⟩,λc hb=>(hf1 c hb).1⟩
 done:=by
  intro X hP hw hK hc i pins s σ H E I hf st hg;subst hP hw hK;obtain⟨⟨u0,h1⟩,h2⟩:=st;obtain⟨xs,q1,hl⟩:=hg;obtain⟨us,r1,o1,z1⟩:=I.obAt q1;have l1':=r1.length;have hT:s.TypeIs (.ref z) "enumerate":=⟨_,h1,rfl⟩;unfold qf;refine ae (nq (fh (name:=i7 "__next__") hT oz (fi oz hT zv (aIG (I.ok.hd hc) h1 h2 o1 (by simp;lia) λh' e kp ⟨o,e1,e2⟩=>?g) (yr _))))
  case g=>
  refine ae (qr (T:="StopIteration") (b:=true) ⟨o,e1,e2⟩ w5 (ao ⟨rfl,?g⟩))
  case g=>
  exact I.turnedL (t':=s.toks) hf λc o n e=>kp c o (λq=>n (by simp[q])) e
 self:=λ_ _ _ _ _ st q=>let⟨⟨_,h1⟩,_⟩:=st;wpAny_pyIter_enum h1 q
abbrev eH (h:jp)(b:Bool)(l:ww):jp:=(h.push (itO b l)).push {cls:=.type "enumerate",data:=.fields #[.none,.bool false,.ref h.objs.size,jw 0,.none,.none]}
def aHC (b:Bool)(l:ww)(xs:Array wn)(o:Obj):
  Meets (Builtin.«enumerate.__new__» ⟨[.type "enumerate",.ref l],[]⟩) (λ_ R s=>s.heap.get? l=some o/\ObAt b s.heap l xs/\R (.ok (.ret (.ref (s.heap.push (itO b l)).objs.size))) {s with heap:=eH s.heap b l}):=
 .of_wp λprog w A R s h=>by
  obtain⟨s1,s2,s3,s4,s5⟩:=s;obtain⟨m0,m1,q⟩:=h;have hsub:=sub_enumerate;have n1:ObAt b (Ce ⟨s1,s2,s3,s4,s5⟩) l xs:=m1
  wp_walk using jt m0
  refine wpAny_stack_any λst=>ao ?_;split
  ·rename_i cc _ _ _ _ _;cases (cc==Value.type "enumerate") <;>
   ·wp_walk using jt m0,rO n1
    exact⟨_,rfl,q⟩
  ·wp_walk using jt m0,rO n1
   exact⟨_,rfl,q⟩
def aGt {s:wv}{b:Bool}{l:ww}{xs:Array wn}(o1:ObAt b s.heap l xs)(q:∀h',eTn b (s.heap.objs.size+1) s.heap.objs.size l 0 h'->(∀c o,s.heap.get? c=some o->h'.get? c=some o)->Q (.ref (s.heap.objs.size+1)) {s with heap:=h'}):
  v4 (v6 prog w) A (call (.type "enumerate") [.ref l]) Q E s:=by
 obtain⟨o,e0,ec,n,ed⟩:=id o1;refine BK F.called_enumerate (by decide) (F.typeCall_enumerate_1 _) (F.newCall_enumerate_1 _) (λob=>AJ ob _) F.entry_enumerate_new (aHC b l xs o) ⟨e0,o1,?g⟩
 case g=>
 have z1:(s.heap.push (itO b l)).objs.size=s.heap.objs.size+1:=f6 ..;have g2:(eH s.heap b l).get? (s.heap.push (itO b l)).objs.size=some _:=bg _ rfl;have g1:(eH s.heap b l).get? s.heap.objs.size=some _:=aj _ (bg _ rfl);rw[z1] at g2;show _/\_;rw[z1];exact⟨⟨_,g2,rfl⟩,q _ ⟨⟨_,g2⟩,⟨_,g1,rfl,rfl⟩⟩ λc o x=>aj _ (aj _ x)⟩
def aFC (K:aa)(ta:TA):TI:=λσ H R=>ta σ H λvs H1=>∃l b,vs=[.ref l]/\(∃xs,SqB b K H1 l xs)/\R (Ite K b l) H1
def aBp:fm "enumerate"=some (.type "enumerate"):=by decide+kernel
def aKw (hg:Gl X "enumerate")(hm:X.mg "enumerate"=none)(ha:PA X [a] ta)(hs:fv [a] X.env=[(false,eval a X.env)]:=by rfl):
  PI X (.Tuple es k po) (.Call (.Name "enumerate" p) [a] [] pos) (aFC X.K ta):=by
 intro pins s σ H R I h;refine Call_ (tM I hg hm aBp (jx (thn (ha pos pins s σ H _ I h) λus s1 ⟨vs,H1,I1,r1,q1⟩=>?g) hs rfl))
 case g=>
 obtain⟨l,b,e,⟨xs,q2⟩,q⟩:=q1;subst e;obtain⟨u1,rfl,e1⟩:=aAv r1;obtain rfl:u1=Value.ref l:=e1;obtain⟨x1,v1,o1,_⟩:=I1.obAt q2;refine aGt o1 λh' zt kp=>?g
 case g=>
 obtain⟨⟨u0,zt1⟩,zt2⟩:=id zt;refine wpAny_pyIter_enum (s:={s1 with heap:=h'}) zt1 ?g
 case g=>
 refine⟨_,[s1.heap.objs.size+1,s1.heap.objs.size],_,_,H1,rfl,I1.kept (t':=s1.toks) kp,aFQ (jo (j6 _)),zt,λc hb=>?g,q⟩
 case g=>
 have lb:s1.heap.objs.size<=c:=by
  simp only[b8,ja,or_false] at hb;rcases hb with rfl|rfl<;>first|exact jn _ _|exact ar _
 exact I1.fpOk lb (I1.hok.fresh lb)
def aIq {K:aa}{es:List ut}{k:Nat}{po:Pos}{a:ut}{ta:TA}{p pos:Pos}(hK:X.K=K)(hg:Gl X "enumerate")(hm:X.mg "enumerate"=none)(ha:PA X [a] ta)(hs:fv [a] X.env=[(false,eval a X.env)]:=by rfl):
  PI X (.Tuple es k po) (.Call (.Name "enumerate" p) [a] [] pos) (aFC K ta):=by subst hK;exact aKw hg hm ha hs
def aDU {K:aa}{b:Bool}{l:ww}{xs:List V}{g:TG}{tb:TS}{D:xX}{σ:St}{H:Hp}(Pv:Nat->St->Hp->Prop)(h0:Pv 0 σ H)(hl:∀i σ H,i<=xs.length->Pv i σ H->SqB b K H l xs)(hs:∀i x σ H p,xs[i]?=some x->H p=none->Pv i σ H->g (.ref p) σ (upd H p (.tup [.int (i:Int),x])) λσ2 H2=>tb {D with nx:=Pv (i+1),ct:=Pv (i+1),bk:=D.nx} σ2 H2)(hd:∀σ H,Pv xs.length σ H->D.nx σ H):
  dP (Ite K b l) g tb D σ H:=by
 refine⟨λi m σ H=>m=xs.length-i/\i<=xs.length/\Pv i σ H,⟨xs.length,by simp,bh _,h0⟩,?g⟩
 case g=>
 rintro i m σ H ⟨rfl,hi,p⟩;have q1:=hl i σ H hi p;by_cases hlt:i<xs.length
 ·refine .inr ⟨⟨xs,xs[i],q1,by simp[hlt]⟩,Pv (i+1),λσ' H' p'=>⟨xs.length-(i+1),by lia,rfl,hlt,p'⟩,λv H' ⟨a,x,e1,e2,e3,e4⟩=>?g⟩
  case g=>
  subst e1;subst e3;exact hs i x σ H a (e4 xs q1) e2 p
 ·obtain rfl:i=xs.length:=by lia
  exact .inl ⟨⟨xs,q1,ar _⟩,hd σ H p⟩
end L2
namespace L2
open PySem
def dM (ha:PE X (.Constant c k p) te)(hr:PA X es t):PA X (.Constant c k p::es) (aA te t):=dB ha hr
def aQ (ha:PE X (.Name n p) te)(hr:PA X es t):PA X (.Name n p::es) (aA te t):=dB ha hr
def aHI (ha:PE X (.List l p) te)(hr:PA X es t):PA X (.List l p::es) (aA te t):=dB ha hr
def rD (ha:PE X (.Tuple l k p) te)(hr:PA X es t):PA X (.Tuple l k p::es) (aA te t):=dB ha hr
def rX (ha:PE X (.BinOp a o b p) te)(hr:PA X es t):PA X (.BinOp a o b p::es) (aA te t):=dB ha hr
def aIN (ha:PE X (.UnaryOp o a p) te)(hr:PA X es t):PA X (.UnaryOp o a p::es) (aA te t):=dB ha hr
def rN (ha:PE X (.Subscript a b p) te)(hr:PA X es t):PA X (.Subscript a b p::es) (aA te t):=dB ha hr
def dJ (ha:PE X (.Call a l kw p) te)(hr:PA X es t):PA X (.Call a l kw p::es) (aA te t):=dB ha hr
mutual
def aHX:Dt->Bool
 |.tup ds=>decide (ds.length<64)&&aCN ds
 |.lst ds=>aCN ds
 |_=>true
def aCN:List Dt->Bool
 |[]=>true
 |d::ds=>aHX d&&aCN ds
end
def okM (m e:Nat)(d:Dt):Prop:=(toP d).showable=true/\(toP d).leavesShort 1930=true/\(toP d).bulk<=m/\dep d<=e/\aHX d=true
def oE (h:x∈eK xs lo hi):x∈xs:=uz (qe h)
def aDg {c:Int}{n k:Nat}{H:Hp}(h:1<=n)(e:c % (n:Int)=(k:Int))(q:Q (.int (k:Int)) H):aBL (.int c) (.int (n:Int)) H Q:=⟨_,_,rfl,rfl,by lia,by show Q (.int (c % (n:Int))) H;rw[e];exact q⟩
end L2
namespace L2
open PySem PySem.Spec PyProof.Rows
inductive wY:List (wn×wn)->List (Int×Int)->Prop
 |nil:wY [] []
 |cons (a b:Int) (t u:Tok) {r:List (wn×wn)}{zs:List (Int×Int)}:wY r zs->wY ((.int a t,.int b u)::r) ((a,b)::zs)
def aDJ (f:Bool):List (Int×Int)->Bool
 |[]=>f
 |(a,b)::r=>if a=b then aDJ f r else decide (a<b)
def aAV (h:Q (.bool (decide (a<b))) s):v4 (v6 prog w) A (yk .Lt (.int a t) (.int b u)) Q E s:=lt_int h
def aFS (l b:ww)(us vs:Array wn)(n n2:Nat)(dd dd2:Option ww)(sl sl2:Array (Option wn))(zs:List (Int×Int))(hz:wY (us.toList.zip vs.toList) zs):
  Meets (Builtin.«tuple.__lt__» ⟨[.ref l,.ref b],[]⟩)
   (λ_ R s=>s.heap.get? l=some {cls:=.type "tuple",dict:=dd,data:=.seq us n,slots:=sl}/\s.heap.get? b=some {cls:=.type "tuple",dict:=dd2,data:=.seq vs n2,slots:=sl2}/\R (.ok (.ret (.bool (aDJ (decide (us.size<vs.size)) zs)))) s):=
 .of_wp λprog w A R s h=>by
  obtain⟨s1,s2,s3,s4,s5⟩:=s;obtain⟨gl,gb,h⟩:=h;have f2:=xl
  wp_walk using jt gl,jt gb,qq _ (λrest b s'=>b.1=none/\s'=⟨s1,s2,s3,s4,s5⟩/\∃ys,wY rest ys/\R (.ok (.ret (.bool (aDJ (decide (us.size<vs.size)) ys)))) ⟨s1,s2,s3,s4,s5⟩) _
  case turn=>
   rintro⟨y,x⟩ rest b s' ⟨hb',rfl,ys,hy,hR⟩;cases hy with
   |cons p q t u hr=>
    refine ae (wpAny_eqBool_int ?_);by_cases e:p=q
    ·rw[show(p==q)=true by simpa using e];rw[aDJ,C5 e] at hR
     wp_walk
     exact⟨rfl,rfl,_,hr,hR⟩
    ·rw[show(p==q)=false by simpa using e];rw[aDJ,C4 e] at hR
     wp_walk using aAV
     exact⟨_,rfl,hR⟩
  case fin=>
   rintro⟨b1,b2⟩ s' ⟨hb',rfl,ys,hy,hR⟩;simp only at hb';subst hb';cases hy
   wp_walk
   exact⟨_,rfl,hR⟩
  case h=>
   exact⟨rfl,rfl,zs,hz,h⟩
def aQs (prog:zn)(w:xj)(A:xz)(kp:jp->Prop)(P:Nat->wn->Prop)(bt:Nat->Nat->Bool):Prop:=
 ∀i j x y (s:wv) (Q:wn->wv->Prop) (E:wn->wv->Prop),kp s.heap->P i x->P j y->Q (.bool (bt i j)) s->v4 (v6 prog w) A (yk .Lt x y) Q E s
def Kp (kp:jp->Prop)(wr:List ww)(z:ww):Prop:=∀h h',kp h->(∀b o,b∉wr->b≠z->h.get? b=some o->h'.get? b=some o)->kp h'
def aRM {R:BG->wv->Prop}{It:ww}{fp wr:List ww}{n:Nat}{St:Nat->jp->Prop}(W:Walks prog w A.in1 It fp wr n P St)(bt:Nat->Nat->Bool){kp:jp->Prop}(z:ww)(hz:z∉fp)(kk:Kp kp wr z)(hc:aQs prog w A.in1 kp P bt):
  ∀(k j:Nat) (s:wv) (x:wn) (c:Nat),n-(j+1)=k->j+1<=n->kp s.heap->St (j+1) s.heap->P (ou bt j) x->s.heap.get? z=some {cls:=.type "list",dict:=none,data:=.seq #[x,x] c,slots:=#[]} ->
  (∀v h' tk,P (ou bt (n-1)) v->(∀b o,b∉wr->b≠z->s.heap.get? b=some o->h'.get? b=some o)->R (.ok (.ret v)) {s with heap:=h',toks:=tk}) ->
  ve (v6 prog w) A (.builtin "min.loop" ⟨[.ref It,.none,.ref z],[]⟩) R s:=by
 have zw:z∉wr:=λh=>hz (W.sub _ h);have nm:(ug "min"++ug ".loop":String)="min.loop":=by decide
 intro k
 induction k with
 |zero=>
  intro j s x c hk hj kp0 st px gz hR;have en:j+1=n:=by lia
  refine gh zh ?g
  case g=>
  rw[fz mf _];show v4 _ A.in1 (Bl (.ref z) >>= _) _ _ s;refine ae (i9 gz rfl ?g)
  case g=>
  show v4 _ A.in1 (tryCatch (qf (.ref It)) _ >>= _) _ _ s;refine ae (w6 (W.done s _ _ (en▸st) λh' tk kh=>?g))
  case g=>
  show v4 _ A.in1 (updateSeq z (λ_=>#[]) >>= _) _ _ _;refine ae (Aq (kh z _ zw gz) rfl (ae (qv (ao ?g))))
  case g=>
  exact hR x _ tk (by rw[<- en];exact px) λb o bw bz e=>(lx _ _ (gf bz)).trans (kh b o bw e)
 |succ k ih=>
  intro j s x c hk hj kp0 st px gz hR;have lt:j+1<n:=by lia
  refine gh zh ?g
  case g=>
  rw[fz mf _];show v4 _ A.in1 (Bl (.ref z) >>= _) _ _ s;refine ae (i9 gz rfl ?g)
  case g=>
  show v4 _ A.in1 (tryCatch (qf (.ref It)) _ >>= _) _ _ s;refine ae (w6 (W.item (j+1) s _ _ lt st λv h' tk pv st' kh=>?g))
  case g=>
  have gz':=kh z _ zw gz;have kp1:kp h':=kk _ _ kp0 λb o bw _ e=>kh b o bw e;show v4 _ A.in1 (tryCatch (AX [v,v] (yk .Lt v x >>= _)) _ >>= _) _ _ _;refine ae (w6 (f9 (ae (hc (j+1) (ou bt j) v x _ _ _ kp1 pv px ?g))))
  case g=>
  refine ae (f9 (jc (ae (qv (ao ?g)))))
  case g=>
  cases hb:bt (j+1) (ou bt j) with
  |true=>
   simp only[if_true];refine ae (Aq gz' rfl (ae (qv ?g)))
   case g=>
   have up:∀b o,b≠z->h'.get? b=some o->(h'.update z (j4 λ_=>#[v,v])).get? b=some o:=λb o bz e=>(lx _ _ (gf bz)).trans e;rw[nm];refine ao ⟨kq mf _,ih (j+1) _ v _ (by lia) lt (kk _ _ kp1 λb o _ bz e=>up b o bz e) (W.frame _ _ _ st' λb bf o e=>up b o (λq=>hz (by rw[<- q];exact bf)) e) (by simp only[ou,hb,if_true];exact pv) (iy _ gz' rfl) λv' h2 tk2 pv' kh2=>?g⟩
   case g=>
   exact hR v' h2 tk2 pv' λb o bw bz e=>kh2 b o bw bz (up b o bz (kh b o bw e))
  |false=>
   simp only[gm,if_false];refine ae (qv ?g)
   case g=>
   rw[nm];refine ao ⟨kq mf _,ih (j+1) _ x c (by lia) lt kp1 st' (by simp only[ou,hb,gm,if_false];exact px) gz' λv' h2 tk2 pv' kh2=>?g⟩
   case g=>
   exact hR v' h2 tk2 pv' λb o bw bz e=>kh2 b o bw bz (kh b o bw e)
def aRD {R:BG->wv->Prop}{It:ww}{fp wr:List ww}{n:Nat}{St:Nat->jp->Prop}(W:Walks prog w A.in1 It fp wr n P St)(bt:Nat->Nat->Bool){kp:jp->Prop}(z:ww)(hz:z∉fp)(kk:Kp kp wr z)(hc:aQs prog w A.in1 kp P bt)(hn:0<n){s:wv}{c:Nat}(kp0:kp s.heap)(st:St 0 s.heap)(gz:s.heap.get? z=some {cls:=.type "list",dict:=none,data:=.seq #[] c,slots:=#[]})(hR:∀v h' tk,P (ou bt (n-1)) v->(∀b o,b∉wr->b≠z->s.heap.get? b=some o->h'.get? b=some o)->R (.ok (.ret v)) {s with heap:=h',toks:=tk}):
  ve (v6 prog w) A (.builtin "min.loop" ⟨[.ref It,.none,.ref z],[]⟩) R s:=by
 have zw:z∉wr:=λh=>hz (W.sub _ h);have nm:(ug "min"++ug ".loop":String)="min.loop":=by decide
 refine gh zh ?g
 case g=>
 rw[fz mf _];show v4 _ A.in1 (Bl (.ref z) >>= _) _ _ s;refine ae (i9 gz rfl ?g)
 case g=>
 show v4 _ A.in1 (tryCatch (qf (.ref It)) _ >>= _) _ _ s;refine ae (w6 (W.item 0 s _ _ hn st λv h' tk pv st' kh=>?g))
 case g=>
 have gz':=kh z _ zw gz;have kp1:kp h':=kk _ _ kp0 λb o bw _ e=>kh b o bw e;have up:∀b o,b≠z->h'.get? b=some o->(h'.update z (j4 λ_=>#[v,v])).get? b=some o:=λb o bz e=>(lx _ _ (gf bz)).trans e;show v4 _ A.in1 (updateSeq z (λ_=>#[v,v]) >>= _) _ _ _;refine ae (Aq gz' rfl ?g)
 case g=>
 rw[nm];refine ao ⟨kq mf _,aRM W bt z hz kk hc _ 0 _ v _ rfl hn (kk _ _ kp1 λb o _ bz e=>up b o bz e) (W.frame _ _ _ st' λb bf o e=>up b o (λq=>hz (by rw[<- q];exact bf)) e) pv (iy _ gz' rfl) λv' h2 tk2 pv' kh2=>?g⟩
 case g=>
 exact hR v' h2 tk2 pv' λb o bw bz e=>kh2 b o bw bz (up b o bz (kh b o bw e))
def aEh (h:v4 (v6 prog w) A.in1 (AQ x) (λit s₂=>∃It fp wr n P St bt,∃kp:jp->Prop,it = .ref It/\Walks prog w A.in1 It fp wr n P St/\St 0 s₂.heap/\(∀b∈fp,b<s₂.heap.objs.size)/\0<n/\kp s₂.heap/\(∀z,s₂.heap.objs.size<=z->Kp kp wr z)/\aQs prog w A.in1 kp P bt /\
   ∀v h' tk,P (ou bt (n-1)) v->(∀b o,b∉wr->s₂.heap.get? b=some o->h'.get? b=some o)->Q v {s₂ with heap:=h',toks:=tk}) E s):
  v4 (v6 prog w) A (call (.builtin "min") [x]) Q E s:=by
 have nm:(ug "min"++ug ".loop":String)="min.loop":=by decide
 refine call_function_tree F.kind_min F.plain_min F.entry_min (F.args_min1 _) ?g
 case g=>
 show v4 _ A.in1 (vp "min" ["key","default"] 0 ⟨[],[]⟩ >>= _) _ _ s;refine ae (qu (show vp "min" ["key","default"] 0 ⟨[],[]⟩=pure [none,none] from rfl) (ae (ao (ae (jf h (λit s2 h2=>?g) λ_ _ e=>e)))))
 case g=>
 obtain⟨It,fp,wr,n,P,St,bt,kp,rfl,W,st,hf,hn,kp0,kk,hc,hQ⟩:=h2;refine ae (dz ?g)
 case g=>
 have zf:s2.heap.objs.size∉fp:=λm=>kn _ (hf _ m);have kz:=kk s2.heap.objs.size (ar _);rw[nm];refine ao ⟨kq mf _,aRD W bt s2.heap.objs.size zf kz hc hn (kz _ _ kp0 λb o _ _ e=>aj _ e) (W.frame _ _ _ st λb _ o e=>aj _ e) (bg _ rfl) λv h' tk pv kh=>?g⟩
 case g=>
 exact hQ v h' tk pv λb o bw e=>kh b o bw (di (bx e)) (aj _ e)
def lexL:List Int->List Int->Bool
 |[],[]=>false
 |[],_::_=>true
 |_::_,[]=>false
 |a::r,b::q=>if a=b then lexL r q else decide (a<b)
theorem aCq:∀(ns ms:List Int),aDJ (decide (ns.length<ms.length)) (ns.zip ms)=lexL ns ms
 |[],[]=>rfl
 |[],m::ms=>by simp[aDJ,lexL]
 |n::ns,[]=>by simp[aDJ,lexL]
 |n::ns,m::ms=>by
  rw[oa,aDJ,lexL,<- aCq ns ms];have:decide ((n::ns).length<(m::ms).length)=decide (ns.length<ms.length):=by
   by_cases h:ns.length<ms.length<;>simp[h]
  rw[this]
theorem jF:∀ns:List Int,lexL ns ns=false
 |[]=>rfl
 |n::ns=>by rw[lexL,C5 rfl];exact jF ns
theorem jO:∀{a b c:List Int},lexL a b=true->lexL b c=true->lexL a c=true
 |[],[],_,h,_=>by cases h
 |[],_::_,[],_,h=>by cases h
 |[],_::_,_::_,_,_=>rfl
 |_::_,[],_,h,_=>by cases h
 |_::_,_::_,[],_,h=>by cases h
 |x::a,y::b,z::c,h1,h2=>by
  rw[lexL] at h1 h2 ⊢;by_cases e1:x=y<;>by_cases e2:y=z
  ·subst e1 e2;rw[C5 rfl] at h1 h2 ⊢;exact jO h1 h2
  ·subst e1;rw[C4 e2] at h2 ⊢;exact h2
  ·subst e2;rw[C4 e1] at h1 ⊢;exact h1
  ·rw[C4 e1] at h1;rw[C4 e2] at h2;have g1:=C0 h1;have g2:=C0 h2;rw[C4 (by lia)];exact At (by lia)
theorem kM {bt:Nat->Nat->Bool}(irr:∀i,bt i i=false)(tr:∀i j k,bt i j=true->bt j k=true->bt i k=true):∀k j,j<=k->bt j (ou bt k)=false
 |0,j,h=>by
  obtain rfl:j=0:=by lia
  exact irr 0
 |k+1,j,h=>by
  unfold ou;by_cases c:bt (k+1) (ou bt k)=true
  ·rw[C5 c];by_cases e:j=k+1
   ·subst e;exact irr _
   ·refine Bool.eq_false_iff.mpr λq=>?_;have:=kM irr tr k j (by lia);rw[tr _ _ _ q c] at this;cases this
  ·rw[C4 c];by_cases e:j=k+1
   ·subst e;simpa using c
   ·exact kM irr tr k j (by lia)
theorem aJX:∀{ns ms:List Int}{us vs:List wn},IntsAre us ns->IntsAre vs ms->wY (us.zip vs) (ns.zip ms)
 |[],_,_,_,h,_=>by cases h;exact .nil
 |_::_,[],_,_,h,g=>by cases g;cases h;exact .nil
 |n::ns,m::ms,_,_,h,g=>by
  cases h with
  |cons _ t h=>
   cases g with
   |cons _ u g=>exact .cons n m t u (aJX h g)
def aES (hu:A.units<cLine)(ha:IsTup s.heap a us.toArray)(hb:IsTup s.heap b vs.toArray)(h1:IntsAre us ns)(h2:IntsAre vs ms)(q:Q (.bool (lexL ns ms)) s):
  v4 (v6 prog w) A (yk .Lt (.ref a) (.ref b)) Q E s:=by
 obtain⟨⟨oc,od,odt,osl⟩,e1,c1,n1,d1⟩:=ha;obtain⟨⟨pc,pd,pdt,psl⟩,e2,c2,n2,d2⟩:=hb;subst c1 d1 c2 d2;refine zq (op:=.Lt) ⟨_,e1,rfl⟩ ⟨_,e2,rfl⟩ F.slot_tuple_lt F.entry_tuple_lt (F.args_tuple_lt_2 _ _) (aFS a b us.toArray vs.toArray n1 n2 od pd osl psl (ns.zip ms) (aJX h1 h2)) ⟨e1,e2,?g⟩ hu
 case g=>
 have l1:=IntsAre.len h1;have l2:=IntsAre.len h2;rw[ay,ay,l1,l2,aCq];exact⟨λz=>(by cases z),q⟩
def aLk (K:aa):List V->Hp->VK->Prop:=λvs H Q=>∃(a:ww) (xs:List V) (T:List (List Int)),vs=[.ref a]/\Sq K H a xs/\Rows K H xs T/\T≠[]/\∀(i:Nat) (b:ww) (row:List Int),xs[i]?=some (.ref b)->T[i]?=some row->SqT K H b (row.map V.int)->(∀r∈T,lexL r row=false)->Q (.ref b) H
def aHf (hr:Room k X.A)(hc:X.calm=true):CallR X (.builtin "min") (aLk X.K):=by
 intro pins s σ H vs us Q I r ⟨a,xs,T,e,hq,hR,hne,q⟩;subst e;obtain⟨u,rfl,ru⟩:=r.one;obtain rfl:u=Value.ref a:=ru;refine aEh (mW (I.ok.hd hc) I hq λits It fp wr S s2 rv hz W st hf hI=>?g)
 case g=>
 have hl:its.length=T.length:=by rw[<- rv.length,hR.1]
 have hpos:0<T.length:=A1.mpr hne;have item:∀(i:Nat) (v:wn),its[i]?=some v->∃b row,v=.ref b/\T[i]?=some row/\xs[i]?=some (.ref b)/\SqT X.K H b (row.map V.int):=λi v hv=>by
  obtain⟨x,hx,rx⟩:=rv.getR hv;have hi:i<T.length:=by rw[<- hR.1];exact(ai.mp hx).1
  obtain⟨b,e1,e2⟩:=hR.2 i _ (ah hi);rw[e1] at hx;cases hx;exact⟨b,_,rx,ah hi,e1,e2⟩
 refine⟨It,fp,wr,its.length,_,S,λi j=>lexL (T.getD i []) (T.getD j []),λh=>∀b o,b∉wr->s2.heap.get? b=some o->h.get? b=some o,rfl,W,st,hf,by lia,λb o _ e=>e,λz hz0 h h' k1 k2 b o bw e=>k2 b o bw (λq0=>Nat.not_lt.mpr hz0 (q0▸bx e)) (k1 b o bw e),λi j vi vj s' Q' E' kp hi hj hQ'=>?g,λv h' tk hv hk=>?h⟩
 case g=>
  obtain⟨b1,r1,rfl,t1,_,q1⟩:=item i vi hi;obtain⟨b2,r2,rfl,t2,_,q2⟩:=item j vj hj;have I':=hI s'.heap s'.toks kp;obtain⟨us1,v1,p1,_⟩:=I'.tuple q1;obtain⟨us2,v2,p2,_⟩:=I'.tuple q2;refine aES (ns:=r1) (ms:=r2) (us:=us1) (vs:=us2) (by have:=hr.un;show X.A.units+1<cLine;lia) p1 p2 (dD v1) (dD v2) ?g
  case g=>
  have e1:T.getD i []=r1:=by rw[ak,t1];rfl
  have e2:T.getD j []=r2:=by rw[ak,t2];rfl
  have hQ2:Q' (Value.bool (lexL (T.getD i []) (T.getD j []))) s':=hQ';rw[e1,e2] at hQ2;exact hQ2
 case h=>
  obtain⟨b,row,rfl,t1,e1,q1⟩:=item _ v hv;refine⟨.ref b,H,hI h' tk hk,rfl,q _ b row e1 t1 q1 λr0 hr0=>?g⟩
  case g=>
  obtain⟨j,hj,rfl⟩:=nr hr0;have:=kM (bt:=λi j=>lexL (T.getD i []) (T.getD j [])) (λi=>jF _) (λi j k=>jO) (its.length-1) j (by lia);have e1:T.getD j []=T[j]:=by rw[ak,ah hj];rfl
  have e2:T.getD (ou (λi j=>lexL (T.getD i []) (T.getD j [])) (its.length-1)) []=row:=by rw[ak,t1];rfl
  have g:lexL (T.getD j []) (T.getD (ou (λi j=>lexL (T.getD i []) (T.getD j [])) (its.length-1)) [])=false:=this;rw[e1,e2] at g;exact g
def aEo {K:aa}{k:Nat}(hK:X.K=K)(hr:Room k X.A)(hc:X.calm=true):CallR X (.builtin "min") (aLk K):=by subst hK;exact aHf hr hc
abbrev aIL (K:aa):List V->Hp->VK->Prop:=λvs H Q=>aQK K vs H Q\/aLk K vs H Q
def nU {K:aa}{k:Nat}(hK:X.K=K)(hr:Room k X.A)(hc:X.calm=true):CallR X (.builtin "min") (aIL K):=by
 intro pins s σ H vs us Q I r h;rcases h with h|h
 ·exact aFg hK hc pins s σ H vs us Q I r h
 ·exact aEo hK hr hc pins s σ H vs us Q I r h
def aCV {s:wv}{r:ww}{a b c:Int}{t u v:Tok}{n:Nat}(hh:A.handled=none)(hr:IsRange s.heap r a b c t u v)(hsmall:A3 a b c=true)(hn:rk a b c=n)(hlen:n<=2^24)(hQ:∀h' tk acc',(∀b o,s.heap.get? b=some o->h'.get? b=some o)->Cg (λi v=>∃t,v=.int (a+i*c) t) acc' n->Q acc'.toList {s with heap:=h',toks:=tk}):v4 (v6 prog w) A (A2 (.ref r)) Q E s:=by
 unfold A2;refine ae (qi (gh uk ?g))
 case g=>
 rw[fz um _];show v4 _ A.in1 (Cb [] >>= λl=>again (.builtin "list.__iadd__" ⟨[l,.ref r],[]⟩)) _ _ s;refine ae (dz (ao ⟨kq m9 _,gh xw ?g⟩))
 case g=>
 rw[fz m9 _];show v4 _ A.in1 (jy (.ref s.heap.objs.size) (.ref r) (.ref s.heap.objs.size)) _ _ _;have gS:(s.heap.push {cls:=.type "list",data:=.seq ([]:List wn).toArray}).get? s.heap.objs.size=some {cls:=.type "list",dict:=none,data:=.seq #[] 0,slots:=#[]}:=bg _ rfl;refine jf (wpAny_extend_range (A:=A) (R:=λx s'=>x=.ok (.ret (.ref s.heap.objs.size))/\∃h' tk acc' c',s'={s with heap:=h',toks:=tk}/\(∀b o,s.heap.get? b=some o->h'.get? b=some o)/\h'.get? s.heap.objs.size=some {cls:=.type "list",dict:=none,data:=.seq acc' c',slots:=#[]}/\Cg (λi v=>∃t,v=.int (a+i*c) t) acc' n) (s:={s with heap:=s.heap.push {cls:=.type "list",data:=.seq ([]:List wn).toArray}}) hh (aj _ hr) hsmall hn hlen s.heap.objs.size (.ref s.heap.objs.size) 0 gS λh' tk acc' c' hk hS' hacc=>⟨rfl,h',tk,acc',c',rfl,λb o e=>hk b o (di (bx e)) (aj _ e),hS',hacc⟩) (λfin s' h=>?g) (λe s' h=>?h)
 case h=>exact absurd h.1 (by simp)
 case g=>
 cases fin with
 |done f=>
  obtain⟨e,h',tk,acc',c',rfl,hk,hS',hacc⟩:=h;cases e;show v4 _ A (load s.heap.objs.size >>= _) _ _ _;exact ae (xk hS' (ao (hQ h' tk acc' hk hacc)))
 |again c0=>
  refine⟨h.1,jq h.2 λx s2 hx=>?g⟩
  case g=>
  obtain⟨rfl,h',tk,acc',c',rfl,hk,hS',hacc⟩:=hx;show v4 _ A (load s.heap.objs.size >>= _) _ _ _;exact ae (xk hS' (ao (hQ h' tk acc' hk hacc)))
def aAb {r:ww}{a b c:Int}{t u v:Tok}{n:Nat}(hsmall:A3 a b c=true)(hn:rk a b c=n)(hlen:n<=1000000):
  Meets (Builtin.«tuple.__new__» ⟨[.type "tuple",.ref r],[]⟩) (λA R s=>A.handled=none/\IsRange s.heap r a b c t u v/\∀(h':jp) (tk:Nat) (acc':Array wn),(∀b o,s.heap.get? b=some o->h'.get? b=some o)->Cg (λi v=>∃t,v=.int (a+i*c) t) acc' n->R (.ok (.ret (.ref h'.objs.size))) {s with heap:=h'.push {cls:=.type "tuple",data:=.seq acc'},toks:=tk}):=
 .of_wp λprog w A R s h=>by
  obtain⟨s1,s2,s3,s4,s5⟩:=s;obtain⟨hh,m0,h⟩:=h;have hsub:=sub_tuple_self;have hinit:=init_tuple_lookup;have hmh:=madeHere_tuple;have hh1:A.in1.handled=none:=hh;have hT:Bo ⟨s1,s2,s3,s4,s5⟩ (.ref r) "range":=⟨_,m0,rfl⟩
  wp_walk using jt m0,ot hT,aCV hh1 m0 hsmall hn (bo hlen (by decide))
  intro h' tk acc' hk hacc;show v4 _ _ (gj acc'.toList.toArray >>= λv=>ret v) _ _ _;unfold gj;have hz:acc'.size<=cm:=by rw[hacc.1];exact bo hlen (by decide)
  refine ae (dz (ao ⟨_,rfl,?g⟩) (by show acc'.toList.toArray.size<=cm;simpa using hz))
  case g=>
  have e:acc'.toList.toArray=acc':=by simp
  rw[e];exact h h' tk acc' hk hacc
def wI (hc:X.calm=true):CallR X (.type "tuple") (λvs H Q=>∃(a:ww) (lo hi:Int),vs=[.ref a]/\H a=some (.rng lo hi)/\(-(2^62)<=lo/\lo<2^62/\-(2^62)<=hi/\hi<2^62/\hi-lo<=1000000) /\
  ∀p,H p=none->Q (.ref p) (upd H p (.tup ((aAl lo hi).map V.int)))):=by
 intro pins s σ H xs us Q I r ⟨a,lo,hi,e,ha,⟨b1,b2,b3,b4,b5⟩,q⟩;subst e;obtain⟨u,rfl,ru⟩:=r.one;obtain rfl:u=Value.ref a:=ru;obtain⟨t,u,v,hr⟩:=I.hok a _ ha;refine BK F.called_tuple (by decide) (F.typeCall_tuple_1 _) (F.newCall_tuple_1 _) (λobj=>AJ obj _) F.entry_tuple_new
  (aAb (a:=lo) (b:=hi) (c:=1) (n:=(hi-lo).toNat) (small_one b1 b2 b3 b4) (by rw[Bf];split<;>lia) (by lia)) ⟨I.ok.hd hc,hr,λh' tk acc' hk hI=>⟨⟨_,bg _ rfl,rfl⟩,?g⟩⟩
 case g=>
 have g1:((aAl lo hi).map V.int).length<=cm:=by
  rw[af];unfold aAl;rw[af,e8];exact bo (show(hi-lo).toNat<=1000000 by lia) (by decide)
 have g2:Vals ((aAl lo hi).map V.int) acc'.toList:=by
  refine Vals.of_get ?_ λi x u hx hu=>?_
  ·have el:acc'.toList.length=(hi-lo).toNat:=by rw[<- hI.1];simp
   rw[af,el];unfold aAl;rw[af,e8]
  ·obtain⟨t,rfl⟩:=hI.2 i u (by simpa using hu);rw[bp] at hx;unfold aAl at hx;rw[bp] at hx;cases hi':(bc (hi-lo).toNat)[i]? with
   |none=>rw[hi'] at hx;cases hx
   |some j=>
    rw[hi'] at hx;have:j=i:=by
     obtain⟨h1,h2⟩:=ai.mp hi';simpa using h2.symm
    subst this;obtain rfl:V.int (lo+(j:Int))=x:=by simpa using hx
    exact⟨t,by rw[oo]⟩
 have I1:Inv X pins σ H {s with heap:=h',toks:=tk}:=I.kept (t':=tk) hk;have I2:Inv X pins σ (upd H h'.objs.size (.tup ((aAl lo hi).map V.int))) {s with heap:=h'.push {cls:=.type "tuple",data:=.seq acc'},toks:=tk}:=
  I1.laid (t':=tk) (λb o e=>aj _ e) (ar _) (show ObjOk X.prog X.w _ _ _ (.tup ((aAl lo hi).map V.int)) from⟨g1,acc'.toList,g2,⟨_,bg _ rfl,rfl,⟨0,by simp⟩,rfl⟩⟩)
 exact⟨.ref h'.objs.size,_,I2,rfl,q _ (I1.hok.fresh (ar _))⟩
def aFl:List V->Hp->VK->Prop:=λvs H Q=>∃(a:ww) (lo hi:Int),vs=[.ref a]/\H a=some (.rng lo hi)/\(-(2^62)<=lo/\lo<2^62/\-(2^62)<=hi/\hi<2^62/\hi-lo<=1000000)/\∀p,H p=none->Q (.ref p) (upd H p (.tup ((aAl lo hi).map V.int)))
def aEJ (hc:X.calm=true):CallR X (.type "tuple") aFl:=wI hc
def aBO:isSubtype (.type "tuple") (.type "set")=pure false:=by rw[uh];kernel_rfl
def aBY:isSubtype (.type "tuple") (.type "frozenset")=pure false:=by rw[uh];kernel_rfl
theorem aGW:∀{ns:List Int}{us:List wn},Vals (ns.map V.int) us->IntsAre us ns
 |[],us,r=>by cases r;exact .nil
 |n::ns,us,r=>by
  cases r with
  |cons h t=>
   obtain⟨tk,rfl⟩:=h;exact .cons n tk (aGW t)
end L2
namespace L2
open PySem
structure aRy (mg:u8->Option wn):Prop extends aRQ mg where
 set:mg "set"=none
def aJY:fm "set"=some (.type "set"):=by decide+kernel
structure lY (mg:u8->Option wn):Prop extends aRy mg where
 abs:mg "abs"=none
def aOc:fm "abs"=some (.builtin "abs"):=by decide+kernel
def aCF:List V->Hp->VK->Prop:=λxs H Q=>∃i:Int,xs=[.int i]/\Q (.int (if i<0 then -i else i)) H
def aGy:CallR X (.builtin "abs") aCF:=aIZ
def EmR (K:aa)(vars:List Nat)(tb:TS)(acc:ww)(σ:St)(H:Hp)(L:List (List Int)):Prop:=
 ∀(D:xX) (pre:List V) (R:List (List Int)),H acc=some (.lst pre)->Rows K H pre R->R.length+L.length<=100000->(∀σ' H' pre',σ'.length=σ.length->Agree vars σ σ'->SameX acc H H'->H' acc=some (.lst pre')->Rows K H' pre' (R++L)->D.nx σ' H')->tb D σ H
def EmR.cast (h:EmR K vars tb acc σ H L)(e:L=L'):EmR K vars tb acc σ H L':=e▸h
def aHh (hr:r.length<=100)(h:∀Q:List V->Hp->Prop,Q (r.map V.int) H->ta σ H Q):EmR K vars (bG (bH ta) acc) acc σ H [r]:=by
 intro D pre R ha hR hz hd;refine h _ ⟨by rw[af];exact bo hr (by decide),λt ht=>?_⟩;have st:=aD ht (.tup (r.map V.int));have ha':=st _ _ ha;refine⟨pre,ha',bj (show pre.length<=100000 by rw[hR.1];lia) (by decide),?_⟩;exact hd σ _ _ rfl (Agree.refl _ _) (st.x.trans (SameX.put _)) aB (Rows.snoc (Rows.put (hR.same st) ha') (aCh (.of aB) ha'))
def yR (hj:j∈vars)(hjl:j<σ.length)(h:∀i σ' H',i<n->σ'.length=σ.length->Agree vars σ σ'->σ'[j]?=some (some (.int (lo+(i:Int))))->SameX acc H H'->EmR K vars tb acc σ' H' (L i)):
  EmR K vars (dP (Itr lo n) (aE j) tb) acc σ H ((bc n).flatMap L):=by
 intro D pre R ha hR hz hd;refine bR (lo:=lo) (n:=n) (g:=aE j) (D:=D) (λi σ' H'=>i<=n/\σ'.length=σ.length/\Agree vars σ σ'/\SameX acc H H'/\∃pre',H' acc=some (.lst pre')/\Rows K H' pre' (R++(bc i).flatMap L)) ⟨bh _,rfl,Agree.refl _ _,SameX.refl _ _,pre,ha,by simpa using hR⟩ (λi σ1 H1 hi ⟨_,hl1,ag1,sx1,pre1,h1,r1⟩=>?_) λσ1 H1 ⟨_,hl1,ag1,sx1,pre1,h1,r1⟩=>hd σ1 H1 pre1 hl1 ag1 sx1 h1 r1;have hle:=bV L (show i+1<=n from hi);rw[aK,aq] at hle;refine h i (σ1.set j (some (.int (lo+(i:Int))))) H1 hi (by rw[dw];exact hl1) (ag1.trans (Agree.set hj _)) (gG (by lia)) sx1 _ pre1 _ h1 r1 (by rw[aq];lia) λσ' H' pre' hl ag sx h2 r2=>⟨hi,hl.trans ((dw ..).trans hl1),(ag1.trans (Agree.set hj _)).trans ag,sx1.trans sx,pre',h2,by rw[aK,<- gx];exact r2⟩
def aKy (hti:∀R:It->Hp->Prop,R (Itr lo n) H->ti σ H R)(hj:j∈vars)(hjl:j<σ.length)(h:∀i σ' H',i<n->σ'.length=σ.length->Agree vars σ σ'->σ'[j]?=some (some (.int (lo+(i:Int))))->SameX acc H H'->EmR K vars tb acc σ' H' (L i)):
  EmR K vars (iJ ti (aE j) tb) acc σ H ((bc n).flatMap L):=by
 intro D pre R ha hR hz hd;exact hti _ (yR hj hjl h D pre R ha hR hz hd)
def aDk (vars:List Nat)(L:List (List Int))(ha:H acc=none)(hz:L.length<=100000)(h:EmR K vars (dP J g tb) acc σ (upd H acc (.lst [])) L)(q:∀σ' H' pre,Same H H'->H' acc=some (.lst pre)->Rows K H' pre L->D.nx σ' H'):dP J g tb D σ (upd H acc (.lst [])):=
 h _ [] [] aB Rows.nil (by simpa using hz) λσ' H' pre' _ _ sx h1 h2=>q σ' H' pre' (cE ha sx) h1 (by simpa using h2)
end L2
namespace L2
open PySem PySem.Spec PyProof.Rows
open PySem.SeqAt
def EqA (A:xz)(s:wv)(u v:wn)(b:Bool):Prop:=∀(prog:zn) (w:xj) (E:wn->wv->Prop) (Q:Bool->wv->Prop),Q b s->v4 (v6 prog w) A (eqBool u v) Q E s
theorem eE:∀r:List Int,kZ (r.map Dt.int)=0
 |[]=>rfl
 |a::r=>by rw[de,kZ,eE r];rfl
theorem rH:∀{r q:List Int},eqL (r.map Dt.int) (q.map Dt.int)=true->r=q
 |[],[],_=>rfl
 |[],_::_,h=>by simp[eqL] at h
 |_::_,[],h=>by simp[eqL] at h
 |a::r,b::q,h=>by
  rw[de,de,eqL,cz] at h;have h1:a=b:=by have:=h.1;rw[eqD] at this;exact xn this
  rw[h1,rH h.2]
theorem aCR:∀{us:List wn}{ns:List Int},IntsAre us ns->∀j (h:j<us.length),∃t,us[j]=.int (ns.getD j 0) t
 |_,_,.nil,j,h=>absurd h (i5 _)
 |_,_,.cons n t h,0,_=>⟨t,rfl⟩
 |_,_,.cons n t h,j+1,hj=>by
  obtain⟨t',e⟩:=aCR h j (by simpa using hj);exact⟨t',by simpa using e⟩
theorem aDG:∀{us:List wn}{ns ms:List Int},IntsAre us ns->IntsAre us ms->ns=ms
 |_,_,_,.nil,.nil=>rfl
 |_,_,_,.cons n t h,.cons _ _ g=>by rw[aDG h g]
def aCf (hu:A.units<cLine)(hc:IsTup s.heap c us.toArray)(hd:IsTup s.heap d vs.toArray)(h1:IntsAre us r)(h2:IntsAre vs q):EqA A s (.ref c) (.ref d) (eqL (r.map Dt.int) (q.map Dt.int)):=by
 by_cases hcd:c=d
 ·subst hcd;have e:us=vs:=by
   obtain⟨o,e1,_,n,e2⟩:=hc;obtain⟨o',e3,_,m,e4⟩:=hd;rw[e1] at e3;cases e3;rw[e2] at e4;have e5:us=vs/\n=m:=by simpa using e4
   exact e5.1
  subst e;rw[aDG h1 h2,eQ];exact EqAt.same _
 ·have l1:=IntsAre.len h1;have l2:=IntsAre.len h2;have he:∀(j:Nat) (h1:j<us.toArray.size) (h2:j<vs.toArray.size),EqAt A.in1 s us.toArray[j] vs.toArray[j] (eqD ((r.map Dt.int).getD j .non) ((q.map Dt.int).getD j .non)):=λj g1 g2=>by
   have g1:j<us.length:=by simpa using g1
   have g2:j<vs.length:=by simpa using g2
   obtain⟨t1,e1⟩:=aCR h1 j g1;obtain⟨t2,e2⟩:=aCR h2 j g2;have q1:(r.map Dt.int).getD j .non=.int (r.getD j 0):=by
    rw[ak,bp,ak,ah (by lia)];rfl
   have q2:(q.map Dt.int).getD j .non=.int (q.getD j 0):=by
    rw[ak,bp,ak,ah (by lia)];rfl
   have e1':us.toArray[j]=.int (r.getD j 0) t1:=by simpa using e1
   have e2':vs.toArray[j]=.int (q.getD j 0) t2:=by simpa using e2
   rw[q1,q2,e1',e2',eqD];exact EqAt.int_int _ _ _ _
  have rc:=RcAt.tuples (A:=A) hc hd hu he;rw[ay,ay,l1,l2] at rc;have:=pA (r.map Dt.int) (q.map Dt.int);rw[af,af] at this;rw[this] at rc;exact EqAt.of_refs hcd rc
abbrev aJZ:List wn:=[.type "ValueError",.type "Exception",.type "BaseException",.type "object"]
def aLu {K:aa}{h:jp}{C:ww}{bmB:List wn}{newId:String}(X:K.In h)(q:kr K C bmB newId=true):
  ∃bm N nm qn bs hdct sn sub ab col dd k0 k1 k2 k3 k5 mN,h.get? C=some (excClassObj nm qn C N bs bm hdct sn sub ab col dd k0 k1 k2 k3 k5 newId)/\h.Ns N mN/\mN "__init__"=none/\OwnTail h bmB bm:=by
 unfold kr at q;split at q
 ·rename_i dd cd sl ho;split at q
  ·rename_i C' bm k0 k1 k2 k3 n k5 hm hs;simp only[cz,beq_iff_eq,t9] at q;obtain⟨⟨⟨⟨⟨rfl,rfl⟩,hdel⟩,ht⟩,hok⟩,hni⟩:=q;obtain⟨nm,bs,mro,ns,qn,hd,sn,sub,ab,col,del⟩:=cd;dsimp only at hm hdel hok hni;subst hm hdel;have hsl:sl=#[k0,k1,k2,k3,some (.builtin n),k5]:=by
    obtain⟨l⟩:=sl;simp only at hs;rw[hs]
   subst hsl;exact⟨bm,ns,nm,qn,bs,hd,sn,sub,ab,col,dd,k0,k1,k2,k3,k5,_,X _ _ ho,.of_isNs (PySem.W.isNs_of_in X hok),PySem.W.nsMap_none_of_in X hok hni,PySem.W.tail_of_in X ht⟩
  ·cases q
 ·cases q
def aFr (X:Cx)(E:XK):Prop:=∀(pins:List (ww×Obj)) (σ:St) (H:Hp) (s:wv) (cls:wn) (e:ww) (vs:List wn) (h':jp),Inv X pins σ H s->E cls none H->Heap.MadeExcOf s.heap h' e cls vs->X.xe (.ref e) {s with heap:=h'}
def wU (C:ww)(E:XK):TS:=λ_ _ H=>E (.ref C) none H
def aHF (T:aFr X E)(hc:X.calm=true)(hg:Gl X x)(hm:X.mg x=some (.ref C))(q:kr X.K C aJZ "ValueError.__new__"=true)(hdb:(x==("__debug__":u8))=false:=by decide):
  PS X (.Raise (some (.Call (.Name x np) [.Constant (.str m) j p] [] cpos)) none pos) (wU C E):=by
 intro pins s σ H D I h;obtain⟨bm,N,nm,qn,bs,hdct,sn,sub,ab,col,dd,k0,k1,k2,k3,k5,mN,hC,hN,hni,TL⟩:=aLu I.kIn q;refine wpAny_Raise_call_subT (C:=C) (nm:=nm) (q:=qn) (N:=N) (bs:=bs) (bm:=bm) (hdct:=hdct) (sn:=sn) (sub:=sub) (ab:=ab) (col:=col) (dd:=dd) (k0:=k0) (k1:=k1) (k2:=k2) (k3:=k3) (k5:=k5)
  AK (mN:=mN) (TL.hasType AK.hasBase) (I.ok.hd hc) rfl hni (aCd I hg hm ⟨rfl,?_⟩ hdb)
 refine AH (Calls.spliced_cons (Calls.Constant_str (k:=j) (pos:=p) (Calls.spliced_nil ⟨rfl,?_,hC,hN,TL,λh' e hx=>?_⟩)))
 ·show 1<=cm;decide
 ·exact T pins σ H _ _ e _ h' (I.tok _) h hx
def aBH (P:zn)(w:xj):CXT:=λouter H s E e s'=>
 ∃(a:ww) (cls a0:wn) (H':Hp) (B:jp),e=.ref a/\s'.os=s.os/\yh s'.gens/\Un (frs outer) [] H H' s.heap s'.heap/\HOk P w H' s'.heap /\
  Heap.FlyingW B outer a cls a0 s'.heap/\(∀b o,s'.heap.get? b=some o->b∉frs outer->(H' b≠none\/∃o',s.heap.get? b=some o')->B.get? b=some o)/\E cls none H'
def ObjOk.there:∀{o:HO},ObjOk P w H h a o->∃u,h.get? a=some u
 |.lst _,⟨_,_,_,_,e⟩=>⟨_,e⟩
 |.tup _,⟨_,_,_,o,e,_⟩=>⟨_,e⟩
 |.dK _,⟨_,_,_,_,o,_,_,e,_⟩=>⟨_,e⟩
 |.dT _,⟨_,_,_,_,o,_,_,e,_⟩=>⟨_,e⟩
 |.set _ _,⟨o,_,_,_,e,_⟩=>⟨_,e⟩
 |.ins _ _ _,⟨_,_,_,e,_⟩=>⟨_,e⟩
 |.own _,⟨_,e⟩=>⟨_,e⟩
 |.xd _,⟨_,⟨_,_,_,e,_⟩,_⟩=>⟨_,e⟩
 |.rng _ _,⟨_,_,_,e⟩=>⟨_,e⟩
 |.frz _ _,⟨e,_⟩=>⟨_,e⟩
 |.tbl _,e=>⟨_,e⟩
 |.met _ _,e=>⟨_,e⟩
 |.ext _,⟨_,e,_⟩=>e
def aDZ {pins:List (ww×Obj)}{σ:St}{H:Hp}{s:wv}{a:ww}{cls a0:wn}{B h2:jp}(hex:X.ex=[])(J:Inv X pins σ H s)(hfl:Heap.FlyingW B X.outer a cls a0 h2)(up:s.heap.UpToSlots h2)(cov:∀b o,s.heap.get? b=some o->b∉frs X.stack->(H b≠none\/∃o',X.s₀.heap.get? b=some o')->B.get? b=some o)(hE:E cls none H):aBH X.prog X.w X.outer X.H₀ X.s₀ E (.ref a) {s with heap:=h2}:=by
 have neL:∀b o,X.s₀.heap.get? b=some o->b≠X.env.locals:=λb o e=>di (av (bx e) J.ok.above);have nx:∀b:ww,b∉X.ex:=λb z=>by rw[hex] at z;cases z
 have nst:∀b,b≠X.env.locals->b∉frs X.outer->b∉frs X.stack:=λb h1 h2 z=>(b8.mp (J.stkSub b z)).elim h1 h2;have tr:∀b u o,H b=some u->s.heap.get? b=some o->h2.get? b=some o:=λb u o e q=>
  hfl.1 b o (cov b o q (λz=>by rw[J.stkFree b z] at e;cases e) (.inl (by rw[e];exact λz=>by cases z)))
 have ko:∀b o,X.s₀.heap.get? b=some o->∀o1,s.heap.get? b=some o1->b∉frs X.outer->h2.get? b=some o1:=λb o e o1 q n=>hfl.1 b o1 (cov b o1 q (nst b (neL b o e) n) (.inr ⟨o,e⟩));refine⟨a,cls,a0,H,B,rfl,J.os,J.bare,⟨λb o e n hb _=>?_,λb o e n hb _=>?_,λb o e n _=>?_,λb o e _=>?_,J.base.tups,J.base.frzs,J.base.tbls⟩,λb u e=>?_,hfl,λb o e n hc=>?_,hE⟩
 ·exact ko b o e o (J.base.keep b o e n hb (nx b)) hb
 ·obtain⟨sl,e1⟩:=J.base.slot b o e n hb (nx b);obtain⟨_,o2,e2,nf⟩:=J.funs.mem hb;rw[e1] at e2;cases e2;obtain⟨sl',e3⟩:=up b _ e1 nf;exact⟨sl',e3⟩
 ·exact J.base.free b o e n (nx b)
 ·obtain⟨o1,e1⟩:=J.base.there b o e (nx b);by_cases hb:b∈frs X.outer
  ·obtain⟨_,o2,e2,nf⟩:=J.funs.mem hb;obtain⟨sl',e3⟩:=up b _ e2 nf;exact⟨_,e3⟩
  ·exact⟨o1,ko b o e o1 e1 hb⟩
 ·refine(J.hok b u e).stay (λc v hc q=>?_) (λ_ q=>q) λ_ _ q=>q;rcases hc with z|z
  ·rw[z] at q ⊢;exact tr b u v e q
  ·exact tr c _ v z q
 ·rcases hc with hc|⟨o',e'⟩
  ·cases hu:H b with
   |none=>exact absurd hu hc
   |some u=>
    obtain⟨o1,e1⟩:=(J.hok b u hu).there;have e2:=tr b u o1 hu e1;rw[e] at e2;cases e2;exact cov b o e1 (λz=>by rw[J.stkFree b z] at hu;cases hu) (.inl hc)
  ·obtain⟨o1,e1⟩:=J.base.there b o' e' (nx b);have e2:=ko b o' e' o1 e1 n;rw[e] at e2;cases e2;exact cov b o e1 (nst b (neL b o' e') n) (.inr ⟨o',e'⟩)
def aEi {K:aa}{N:List u8}{qual:u8}{scope:Scope}{f:ww}{cd:wn}{outer:List Env}{s₀:wv}{H₀:Hp}:aFr (aBK (aBH P w) P w K mg base N qual scope f cd A outer s₀ H₀ E) E:=by
 intro pins σ H s cls e vs h' I hE hx;have hin:∀env∈(aBK (aBH P w) P w K mg base N qual scope f cd A outer s₀ H₀ E).stack,∀b,env.frame=some b->b∈frs (aBK (aBH P w) P w K mg base N qual scope f cd A outer s₀ H₀ E).stack:=λenv he b hb=>rq.mpr ⟨env,he,hb⟩;show v4 _ _ _ _ _ _;refine wpAny_leaves_madeW (base:=PySem.W.hideAll s.heap (frs (aBK (aBH P w) P w K mg base N qual scope f cd A outer s₀ H₀ E).stack)) I.ok.frames rfl (λb o q=>PySem.W.of_hideAll _ q) (PySem.W.funFrames_hide I.stack hin) hx λh2 t x1 _ _ x4=>?_;exact aDZ (s:={s with heap:=s.heap}) rfl I x1 ((Heap.UpToSlots.of_keeps hx.keeps).trans x4) (λb o q n _=>AW _ q n) hE
def xL {K:aa}{N:List u8}{qual:u8}{scope:Scope}{f:ww}{cd:wn}{outer:List Env}{s₀:wv}{H₀:Hp}:uE (aBH P w) (aBK (aBH P w) P w K mg base N qual scope f cd A outer s₀ H₀ E) E:=by
 intro pins σ H s e s' I ⟨a,cls,a0,H',B,he,os,bare,un,hok,hfl,cov,hE⟩;subst he;have J:Inv (aBK (aBH P w) P w K mg base N qual scope f cd A outer s₀ H₀ E) pins σ H' s':=I.call' os un hok bare (λb z=>absurd z (by simp));show v4 _ _ _ _ _ _;refine wpAny_leaves_onW I.ok.frames rfl hfl λh2 x1 x2=>?_;exact aDZ rfl J x1 x2 (λb o q n hc=>cov b o q n (hc.elim .inl λ⟨o',z⟩=>.inr (I.base.there b o' z (by simp[aBK])))) hE
def PS.nox {st:Stmt}{t:TS}(h:PS X.nox st t):PS X st t:=λpins s σ H D I hw=>
 jf (h pins s σ H D (I.wish _) hw) (λ_ _ q=>q.unwish) λ_ _ z=>mz z
def aEP {x:u8}{np pos cpos p:Pos}{C:ww}{m:u8}{j:Nat}{K:aa}(hK:X.K=K)(T:aFr X E)(hc:X.calm=true)(hg:Gl X x)(hm:X.mg x=some (.ref C))(q:kr K C aJZ "ValueError.__new__"=true)(hdb:(x==("__debug__":u8))=false:=by decide):
  PS X (.Raise (some (.Call (.Name x np) [.Constant (.str m) j p] [] cpos)) none pos) (wU C E):=aHF T hc hg hm (by rw[hK];exact q) hdb
structure DefX (P:zn)(w:xj)(K:aa)(mg:u8->Option wn)(base:jp)(x:u8)(k:Nat)(ps:List u8)(sp:Sp):Prop where
 ex:∃(f:ww) (fd:FuncData),FnOk P w K mg base (aBH P w) k f fd ps sp/\mg x=some (.ref f)/\qg K (.ref f)=true/\Binds K fd ps []
def DefX.mono {K:aa}{x:u8}{j k:Nat}{ps:List u8}{sp:Sp}(D:DefX P w K mg base x j ps sp)(h:j<=k):DefX P w K mg base x k ps sp:=by
 obtain⟨f,fd,F,r⟩:=D.ex;exact⟨f,fd,F.mono h,r⟩
def aGF {x:u8}{k:Nat}{ps:List u8}{sp:Sp}{p pos:Pos}{e:ut}{es:List ut}{t:TA}(D:DefX X.prog X.w X.K X.mg X.base x k ps sp)(hr:Room k X.A)(hg:Gl X x)(hx:uE (aBH X.prog X.w) X E)(ha:PA X (e::es) t)(hdb:(x==("__debug__":u8))=false:=by decide)(he:fv (e::es) X.env=(false,eval e X.env)::fv es X.env:=by rfl)(hpl:(vc pos (fv es X.env)).any (·.1)=false:=by rfl):
  PE X (.Call (.Name x p) (e::es) [] pos) (aL sp [] E t):=by
 obtain⟨f,fd,F,hm,hk,hb⟩:=D.ex;exact aGV F hr hg hm hk hb .nil hx ha hdb he hpl
def Fun.okX {K: aa}{x qual: u8}{st: Stmt}{f: ww}{fd: FuncData}{N ps: List u8}{k: Nat}{sp: Sp}(F:Fun K x qual st f fd)(S:oX N ps (bI st))(len:∀vs H Q E,sp vs H Q E->vs.length=ps.length)(hbody:∀(cdv:wn) (A:xz) (outer:List Env) (s:wv) (H:Hp) (vs:List V) (Q:VK) (E:XK),Room k (A.deeper (Af qual (bI st) s.heap.objs.size f cdv))->sp vs H Q E ->
   ∃t,PSs (aBK (aBH P w) P w K mg base N qual (bI st) f cdv A outer s H E) (dW st) t/\t {nx:=λ_ H'=>Q .non H',rt:=Q} (bC N vs) H):FnOk P w K mg base (aBH P w) (k+1) f fd ps sp:=by
 obtain⟨oc,od,kV,doc,pm,an,cdv,ct,osl,rfl,lk,hcd⟩:=F.ex;exact aOb lk hcd S len λA outer s H vs Q E hr hsp=>hbody cdv A outer s H vs Q E hr hsp
end L2
namespace L2
open PySem
def aKS:uE (aBH X.prog X.w) X E0:=λ_ _ _ _ _ _ _ ⟨_,_,_,_,_,_,_,_,_,_,_,_,h⟩=>h.elim
end L2
namespace L2
open PySem PySem.Spec PyProof.Rows
def OkN (P:zn)(w:xj)(K:aa)(mg:u8->Option wn)(base:jp)(x:u8)(st:Stmt)(k:Nat)(N ps:List u8)(T:TS):Prop:=
 ∀(f:ww) (fd:FuncData) (sp:Sp),Fun K x x st f fd->(∀vs H Q E,sp vs H Q E->vs.length=ps.length)->(∀vs H Q E,sp vs H Q E->T {nx:=λ_ H'=>Q .non H',rt:=Q} (bC N vs) H)->FnOk P w K mg base CX0 k f fd ps sp
def OkX (P:zn)(w:xj)(K:aa)(mg:u8->Option wn)(base:jp)(x:u8)(st:Stmt)(k:Nat)(N ps:List u8)(T:XK->TS):Prop:=
 ∀(f:ww) (fd:FuncData) (sp:Sp),Fun K x x st f fd->(∀vs H Q E,sp vs H Q E->vs.length=ps.length)->(∀vs H Q E,sp vs H Q E->T E {nx:=λ_ H'=>Q .non H',rt:=Q} (bC N vs) H)->FnOk P w K mg base (aBH P w) k f fd ps sp
inductive FnIn (K:aa) (nm x:u8) (st:Stmt):Prop
 |mk {f:ww}{od an:Option ww}{sl:Array (Option wn)}{oc kV dc pm cd ct:wn} (a:ft K dt nm=some (some (.ref f))) (l:K.lookup f=some ⟨oc,od,.func (ky x x (gX st) (dW st) (bI st) .none kV dc pm an cd ct),sl⟩) (c:wx K cd x=true) (k:qg K (.ref f)=true):FnIn K nm x st
structure ZIn (K:aa):Prop where
 z0:ft K dt "len"=some none
 z1:ft K dt "all"=some none
 z2:ft K dt "min"=some none
 z3:ft K dt "max"=some none
 z4:ft K dt "sum"=some none
 z5:ft K dt "isinstance"=some none
 z6:ft K dt "sorted"=some none
 z7:ft K dt "tuple"=some none
 z8:ft K dt "list"=some none
 z9:ft K dt "range"=some none
 z10:ft K dt "int"=some none
 z11:ft K dt "bool"=some none
 z12:ft K dt "zip"=some none
 z13:ft K dt "repr"=some none
 z14:ft K dt "enumerate"=some none
 z15:ft K dt "reversed"=some none
 z16:ft K dt "str"=some none
 z17:ft K dt "set"=some none
 z18:ft K dt "abs"=some none
def xP (g:Nat->wn):Nat->List u8->List wn
 |_,[]=>[]
 |i,_::ps=>g i::xP g (i+1) ps
theorem aDF (g:Nat->wn):∀(ps:List u8) (us:List wn) (i:Nat),us.length=ps.length->(∀j,us.getD j .none=g (i+j))->us=xP g i ps
 |[],us,i,h,_=>su.mp h
 |p::ps,[],i,h,_=>by cases h
 |p::ps,u::us,i,h,q=>by
  show u::us=g i::xP g (i+1) ps;rw[show g i=u from(q 0).symm,<- aDF g ps us (i+1) (Nat.succ.inj h) λj=>by rw[show i+1+j=i+(j+1) by lia,<- q (j+1)];rfl]
def okN {K:aa}{x:u8}{st:Stmt}{k:Nat}{N ps:List u8}{T:TS}(hb:∀(f:ww) (cdv:wn) (A:xz) (outer:List Env) (s:wv) (H:Hp) (E:XK),N.Nodup->Room k (A.deeper (Af x (bI st) s.heap.objs.size f cdv))->PSs (aBK CX0 P w K mg base N x (bI st) f cdv A outer s H E).nox (dW st) T)(S:oX N ps (bI st):=by exact⟨rfl,rfl,rfl,by decide+kernel,rfl,by decide+kernel,by decide+kernel⟩):OkN P w K mg base x st (k+1) N ps T:=
 λf fd sp F len rd=>F.ok S len λcdv A outer s H vs Q E hr h=>⟨_,hb f cdv A outer s H E S.nd hr,rd vs H Q E h⟩
def okX {K:aa}{x:u8}{st:Stmt}{k:Nat}{N ps:List u8}{T:XK->TS}(hb:∀(f:ww) (cdv:wn) (A:xz) (outer:List Env) (s:wv) (H:Hp) (E:XK),N.Nodup->Room k (A.deeper (Af x (bI st) s.heap.objs.size f cdv))->PSs (aBK (aBH P w) P w K mg base N x (bI st) f cdv A outer s H E) (dW st) (T E))(S:oX N ps (bI st):=by exact⟨rfl,rfl,rfl,by decide+kernel,rfl,by decide+kernel,by decide+kernel⟩):OkX P w K mg base x st (k+1) N ps T:=
 λf fd sp F len rd=>F.okX S len λcdv A outer s H vs Q E hr h=>⟨_,hb f cdv A outer s H E S.nd hr,rd vs H Q E h⟩
def aDS {K:aa}{x:u8}{st:Stmt}{ps:List u8}{f:ww}{fd:FuncData}(F:Fun K x x st f fd)(b:∀(kV doc pm:wn) (an:Option ww) (cdv ct:wn) (g:Nat->wn),Bg (ky x x (gX st) (dW st) (bI st) .none kV doc pm an cdv ct) ⟨xP g 0 ps,[]⟩=pure (ps.zip (xP g 0 ps))):Binds K fd ps []:=
 F.binds λkV doc pm an cdv ct us hl=>by rw[aDF (λi=>us.getD i .none) ps us 0 hl λj=>by rw[Nat.zero_add]];exact b ..
def FnIn.dN {K:aa}{h:jp}{x nm:u8}{st:Stmt}{k:Nat}{N ps:List u8}{sp:Sp}{T:TS}(F:FnIn K nm x st)(P:zn)(w:xj)(base:jp)(X:K.In h)(G:h.Ns dt mg)(o:OkN P w K mg base x st k N ps T)(rd:∀vs H Q E,sp vs H Q E->T {nx:=λ_ H'=>Q .non H',rt:=Q} (bC N vs) H)(len:∀vs H Q E,sp vs H Q E->vs.length=ps.length:=by(intro _ _ _ _ h;first|(cases h;subst_vars;rfl;done)|repeat (first|(obtain⟨rfl,_⟩:=h;rfl)|obtain⟨_,h⟩:=h)))(b:∀(kV doc pm:wn) (an:Option ww) (cdv ct:wn) (g:Nat->wn),Bg (ky x x (gX st) (dW st) (bI st) .none kV doc pm an cdv ct) ⟨xP g 0 ps,[]⟩=pure (ps.zip (xP g 0 ps)):=by intros;rfl):Def P w K mg base nm k ps sp:=by
 obtain⟨a,l,c,kk⟩:=F;have F:=aFw l c kk;exact⟨_,_,o _ _ _ F len rd,mq X G a,kk,aDS F b⟩
def FnIn.dX {K:aa}{h:jp}{x nm:u8}{st:Stmt}{k:Nat}{N ps:List u8}{sp:Sp}{T:XK->TS}(F:FnIn K nm x st)(P:zn)(w:xj)(base:jp)(X:K.In h)(G:h.Ns dt mg)(o:OkX P w K mg base x st k N ps T)(rd:∀vs H Q E,sp vs H Q E->T E {nx:=λ_ H'=>Q .non H',rt:=Q} (bC N vs) H)(len:∀vs H Q E,sp vs H Q E->vs.length=ps.length:=by(intro _ _ _ _ h;first|(cases h;subst_vars;rfl;done)|repeat (first|(obtain⟨rfl,_⟩:=h;rfl)|obtain⟨_,h⟩:=h)))(b:∀(kV doc pm:wn) (an:Option ww) (cdv ct:wn) (g:Nat->wn),Bg (ky x x (gX st) (dW st) (bI st) .none kV doc pm an cdv ct) ⟨xP g 0 ps,[]⟩=pure (ps.zip (xP g 0 ps)):=by intros;rfl):DefX P w K mg base nm k ps sp:=by
 obtain⟨a,l,c,kk⟩:=F;have F:=aFw l c kk;exact⟨_,_,o _ _ _ F len rd,mq X G a,kk,aDS F b⟩
def FnIn.law {K:aa}{h:jp}{st:Stmt}{k:Nat}{N:List u8}{fa:ww}{sp:Sp}(F:FnIn K "law" "law" st)(X:K.In h)(G:h.Ns dt mg)(hfa:mg "law"=some (.ref fa)){T:TS}(o:∀base:jp,OkN P w K mg base "law" st k N ["script"] T)(rd:∀vs H Q E,sp vs H Q E->T {nx:=λ_ H'=>Q .non H',rt:=Q} (bC N vs) H)(len:∀vs H Q E,sp vs H Q E->vs.length=1:=by(intro _ _ _ _ h;first|(cases h;subst_vars;rfl;done)|repeat (first|(obtain⟨rfl,_⟩:=h;rfl)|obtain⟨_,h⟩:=h)))(b:∀(kV doc pm:wn) (an:Option ww) (cdv ct:wn) (v:wn),Bg (ky "law" "law" (gX st) (dW st) (bI st) .none kV doc pm an cdv ct) ⟨[v],[]⟩=pure [(("script":u8),v)]:=by intros;rfl):
  ∃fd:FuncData,(∀(s:wv) (v:wn),By s fd ⟨[v],[]⟩ [("script",v)])/\∀base:jp,K.In base->base.Ns dt mg->FnOk P w K mg base CX0 k fa fd ["script"] sp:=by
 obtain⟨a,l,c,kk⟩:=F;have e:=hfa.symm.trans (mq X G a);cases e;exact⟨_,λs v=>.of_eq (b ..),λbase _ _=>o base _ _ _ (aFw l c kk) len rd⟩
def ZIn.blt {K:aa}{h:jp}(Z:ZIn K)(X:K.In h)(G:h.Ns dt mg):lY mg:=
 let m {x} (z:ft K dt x=some none):=PySem.W.mg_none_of X G z
 ⟨⟨⟨⟨m Z.z0,m Z.z1,m Z.z2,m Z.z3,m Z.z4,m Z.z5,m Z.z6,m Z.z7,m Z.z8,m Z.z9,m Z.z10,m Z.z11⟩,m Z.z12,m Z.z13,m Z.z14,m Z.z15,m Z.z16⟩,m Z.z17⟩,m Z.z18⟩
end L2
namespace L2
open PySem
def bO (h:H p=none)(s:Same H H'):Same H (upd H' p o):=λb u e=>by rw[aM (aJ e h)];exact s _ _ e
open PySem.SeqAt
end L2
namespace L2
open PySem PySem.W PyProof.Rows
section
variable (r:Nat->Int)
def rlt (i j:Nat):Bool:=decide (r i<r j)
def aO:KasT α->α
 |.ret a=>a
 |.ask i j k=>aO (k (rlt r i j))
theorem eA:∀t:KasT α,aO r (t.bind f)=aO r (f (aO r t))
 |.ret _=>rfl
 |.ask i j k=>by
  show aO r ((k (rlt r i j)).bind f)=_;exact eA (k (rlt r i j))
def Kr (p:Array Nat)(i:Nat):Int:=r (p.getD i 0)
def Srt (p:Array Nat)(n:Nat):Prop:=∀i j,i<=j->j<n->Kr r p i<=Kr r p j
def Dsc (p:Array Nat)(n:Nat):Prop:=∀i j,i<=j->j<n->Kr r p j<=Kr r p i
variable {r}
def lH (h:p[i]?=q[j]?):Kr r p i=Kr r q j:=by
 unfold Kr;rw[dh,dh,h]
def aGJ (h:Kr r p a<Kr r p b):rlt r (p.getD a 0) (p.getD b 0)=true:=At h
def aGg (h:¬Kr r p a<Kr r p b):¬rlt r (p.getD a 0) (p.getD b 0)=true:=λe=>h (C0 e)
def aKW (hj:j<=p.size)(k:Nat):Kr r (uu p i j) k=if i<=k/\k<j then Kr r p (i+j-1-k) else Kr r p k:=by
 have:=getElem?_mirror_all (i:=i) hj k;by_cases c:i<=k/\k<j
 ·rw[C5 c] at this ⊢;exact lH this
 ·rw[C4 c] at this ⊢;exact lH this
def aPH (hs:src<p.size)(hd:d<=src)(k:Nat):Kr r (bubble p src d) k=if k=src-d then Kr r p src else if src-d<k/\k<=src then Kr r p (k-1) else Kr r p k:=by
 have:=getElem?_bubble hs d hd k;by_cases c:k=src-d
 ·rw[C5 c] at this ⊢;exact lH this
 ·rw[C4 c] at this ⊢;by_cases e:src-d<k/\k<=src
  ·rw[C5 e] at this ⊢;exact lH this
  ·rw[C4 e] at this ⊢;exact lH this
def eX (p:Array Nat)(i j:Nat):(uu p i j).Perm p:=mirror_perm _ _ _ _
theorem aCp:∀f n,1<=n->Srt r p n->n<=aO r (yt p f n)/\aO r (yt p f n)<=n+f/\Srt r p (aO r (yt p f n))/\(aO r (yt p f n)<n+f->Kr r p (aO r (yt p f n))<Kr r p (aO r (yt p f n)-1))
 |0,n,h1,hs=>⟨ar _,ar _,hs,λh=>absurd h (kn _)⟩
 |f+1,n,h1,hs=>by
  have e:aO r (yt p (f+1) n)=aO r (if rlt r (p.getD n 0) (p.getD (n-1) 0)=true then .ret n else yt p f (n+1)):=rfl;rw[e];by_cases c:Kr r p n<Kr r p (n-1)
  ·rw[C5 (aGJ c)];exact⟨ar _,jn _ _,hs,λ_=>c⟩
  ·rw[C4 (aGg c)];obtain⟨a1,a2,a3,a4⟩:=aCp (p:=p) f (n+1) (by lia) λi j hij hj=>by
    by_cases e1:j=n
    ·subst e1;by_cases e2:i=j
     ·subst e2;lia
     ·have:=hs i (j-1) (by lia) (by lia);lia
    ·exact hs i j hij (by lia)
   exact⟨by lia,by lia,a3,λh=>a4 (by lia)⟩
def zF (hj:j<=p.size)(h:∀k,i<=k->k<j->Kr r p k=Kr r p (j-1))(k:Nat):Kr r (uu p i j) k=Kr r p k:=by
 rw[aKW hj];split
 ·next c=>rw[h _ (by lia) (by lia),h k c.1 c.2]
 ·rfl
theorem rA:∀f (p:Array Nat) n q,1<=n->n+f<=p.size->q<n->Dsc r p n->(∀i,n-(q+1)<=i->i<n->Kr r p i=Kr r p (n-1))->∀R,R=aO r (wk f p n q) ->
  R.1.size=p.size/\R.1.Perm p/\n<=R.2.1/\R.2.1<=n+f/\R.2.2<R.2.1/\Dsc r R.1 R.2.1/\∀i,R.2.1-(R.2.2+1)<=i->i<R.2.1->Kr r R.1 i=Kr r R.1 (R.2.1-1)
 |0,p,n,q,h1,hz,hq,hd,he,R,hR=>by subst hR;exact⟨rfl,td _,ar _,ar _,hq,hd,he⟩
 |f+1,p,n,q,h1,hz,hq,hd,he,R,hR=>by
  have e:aO r (wk (f+1) p n q)=aO r (if rlt r (p.getD n 0) (p.getD (n-1) 0)=true then(if q > 0 then wk f (uu p (n-(q+1)) n) (n+1) 0 else wk f p (n+1) 0) else .ask (p.getD (n-1) 0) (p.getD n 0) λd=>if d=true then .ret (p,n,q) else wk f p (n+1) (q+1)):=rfl;rw[e] at hR;by_cases c:Kr r p n<Kr r p (n-1)
  ·rw[C5 (aGJ c)] at hR;have hd1:Dsc r p (n+1):=λi j hij hj=>by
    by_cases e1:j=n
    ·subst e1;by_cases e2:i=j
     ·subst e2;lia
     ·have:=hd i (j-1) (by lia) (by lia);lia
    ·exact hd i j hij (by lia)
   by_cases c2:q > 0
   ·rw[C5 c2] at hR;have kk:=λk=>zF (r:=r) (p:=p) (i:=n-(q+1)) (j:=n) (by lia) he k;have sz:(uu p (n-(q+1)) n).size=p.size:=A4 _ _ _ _;obtain⟨a1,a2,a3,a4,a5,a6,a7⟩:=rA f (uu p (n-(q+1)) n) (n+1) 0 (by lia) (by rw[sz];lia) (by lia) (λi j hij hj=>by rw[kk,kk];exact hd1 i j hij hj) (λi h2 h3=>by rw[show i=n by lia];rfl) R hR;exact⟨a1.trans sz,a2.trans (eX _ _ _),by lia,by lia,a5,a6,a7⟩
   ·rw[C4 c2] at hR;obtain⟨a1,a2,a3,a4,a5,a6,a7⟩:=rA f p (n+1) 0 (by lia) (by lia) (by lia) hd1 (λi h2 h3=>by rw[show i=n by lia];rfl) R hR;exact⟨a1,a2,by lia,by lia,a5,a6,a7⟩
  ·rw[C4 (aGg c)] at hR;have e2:aO r (KasT.ask (p.getD (n-1) 0) (p.getD n 0) λd=>if d=true then .ret (p,n,q) else wk f p (n+1) (q+1))=aO r (if rlt r (p.getD (n-1) 0) (p.getD n 0)=true then .ret (p,n,q) else wk f p (n+1) (q+1)):=rfl;rw[e2] at hR;by_cases d:Kr r p (n-1)<Kr r p n
   ·rw[C5 (aGJ d)] at hR;subst hR;exact⟨rfl,td _,ar _,jn _ _,hq,hd,he⟩
   ·rw[C4 (aGg d)] at hR;obtain⟨a1,a2,a3,a4,a5,a6,a7⟩:=rA f p (n+1) (q+1) (by lia) (by lia) (by lia) (λi j hij hj=>by
     by_cases e1:j=n
     ·subst e1;by_cases e2:i=j
      ·subst e2;lia
      ·have:=hd i (j-1) (by lia) (by lia);lia
     ·exact hd i j hij (by lia)) (λi h2 h3=>by
     show Kr r p i=Kr r p n;by_cases e1:i=n
     ·rw[e1]
     ·have:=he i (by lia) (by lia);lia) R hR
    exact⟨a1,a2,by lia,by lia,a5,a6,a7⟩
def aHS (r:Nat->Int)(nrem n:Nat)(p:Array Nat)(R:Nat×Array Nat):Prop:=R.2.size=p.size/\R.2.Perm p/\n<=R.1/\R.1<=nrem/\Srt r R.2 R.1
def aAX (h1:1<=n)(hn:n<=nrem)(hz:nrem<=p.size)(hd:Dsc r p n):aHS r nrem n p (aO r (Ci n nrem p)):=by
 unfold Ci;rw[eA];have hs:Srt r (uu p 0 n) n:=λi j hij hj=>by
  rw[aKW (by lia),aKW (by lia),C5 ⟨by lia,by lia⟩,C5 ⟨by lia,hj⟩];exact hd _ _ (by lia) (by lia)
 obtain⟨a1,a2,a3,_⟩:=aCp (p:=uu p 0 n) (nrem-n) n h1 hs;exact⟨A4 _ _ _ _,eX _ _ _,a1,by show aO r _<=_;lia,a3⟩
def pS (hn:n+1<=nrem)(hz:nrem<=p.size)(hd:Dsc r p (n+1)):aHS r nrem 1 p (aO r (wm n nrem p)):=by
 unfold wm;rw[eA];obtain⟨a1,a2,a3,a4,a5,a6,a7⟩:=rA (nrem-(n+1)) p (n+1) 0 (by lia) (by lia) (by lia) hd (λi h2 h3=>by rw[show i=n by lia];rfl) _ rfl;generalize aO r (wk (nrem-(n+1)) p (n+1) 0)=R at a1 a2 a3 a4 a5 a6 a7 ⊢;by_cases c:R.2.2 > 0
 ·rw[C5 c];have kk:=λk=>zF (r:=r) (p:=R.1) (i:=R.2.1-(R.2.2+1)) (j:=R.2.1) (by lia) a7 k;have sz:(uu R.1 (R.2.1-(R.2.2+1)) R.2.1).size=R.1.size:=A4 _ _ _ _;obtain⟨b1,b2,b3,b4,b5⟩:=aAX (r:=r) (n:=R.2.1) (nrem:=nrem) (p:=uu R.1 (R.2.1-(R.2.2+1)) R.2.1) (by lia) (by lia) (by rw[sz];lia) λi j hij hj=>by rw[kk,kk];exact a6 i j hij hj
  exact⟨b1.trans (sz.trans a1),b2.trans ((eX _ _ _).trans a2),by lia,b4,b5⟩
 ·rw[C4 c];obtain⟨b1,b2,b3,b4,b5⟩:=aAX (r:=r) (n:=R.2.1) (nrem:=nrem) (p:=R.1) (by lia) (by lia) (by lia) a6;exact⟨b1.trans a1,b2.trans a2,by lia,b4,b5⟩
def aFe (h1:1<=nrem)(hz:nrem<=p.size):aHS r nrem 1 p (aO r (Bp nrem p)):=by
 unfold Bp;rw[eA];obtain⟨a1,a2,a3,a4⟩:=aCp (r:=r) (p:=p) (nrem-1) 1 (ar _) λi j hij hj=>by rw[show i=j by lia];lia
 generalize aO r (yt p (nrem-1) 1)=n at a1 a2 a3 a4 ⊢;by_cases c:(n==nrem)=true
 ·rw[C5 c];exact⟨rfl,td _,a1,by show n<=nrem;lia,a3⟩
 ·rw[C4 c];have cn:n≠nrem:=λe=>c (by rw[e];exact beq_self_eq_true _);have lt:=a4 (by lia);by_cases d:n > 1
  ·rw[C5 d];show aHS r nrem 1 p (aO r (if rlt r (p.getD 0 0) (p.getD (n-1) 0)=true then .ret (n,p) else wm n nrem (uu p 0 n)));by_cases e:Kr r p 0<Kr r p (n-1)
   ·rw[C5 (aGJ e)];exact⟨rfl,td _,a1,by show n<=nrem;lia,a3⟩
   ·rw[C4 (aGg e)];have eq:∀k,0<=k->k<n->Kr r p k=Kr r p (n-1):=λk _ hk=>by
     have g1:=a3 0 k (by lia) hk;have g2:=a3 k (n-1) (by lia) (by lia);lia
    have kk:=λk=>zF (r:=r) (p:=p) (i:=0) (j:=n) (by lia) eq k;have sz:(uu p 0 n).size=p.size:=A4 _ _ _ _;obtain⟨b1,b2,b3,b4,b5⟩:=pS (r:=r) (n:=n) (nrem:=nrem) (p:=uu p 0 n) (by lia) (by rw[sz];lia) λi j hij hj=>by
     rw[kk,kk];by_cases e1:j=n
     ·subst e1;by_cases e2:i=j
      ·subst e2;lia
      ·have:=eq i (by lia) (by lia);lia
     ·have g1:=eq i (by lia) (by lia);have g2:=eq j (by lia) (by lia);lia
    exact⟨b1.trans sz,b2.trans (eX _ _ _),b3,b4,b5⟩
  ·rw[C4 d];refine pS (by lia) hz λi j hij hj=>?_;have:n=1:=by lia
   subst this;by_cases e2:i=j
   ·subst e2;lia
   ·rw[show i=0 by lia,show j=1 by lia];exact o6 lt
theorem tV (hs:Srt r p k):∀f l q,l<=q->q<=k->q-l<=f->(∀i,i<l->Kr r p i<=Kr r p k)->(∀i,q<=i->i<k->Kr r p k<Kr r p i) ->
  ∀m,m=aO r (ql p k f l q)->m<=k/\(∀i,i<m->Kr r p i<=Kr r p k)/\∀i,m<=i->i<k->Kr r p k<Kr r p i
 |0,l,q,h1,h2,h3,ha,hb,m,hm=>by
  obtain rfl:m=l:=hm;exact⟨by lia,ha,λi hi hk=>hb i (by lia) hk⟩
 |f+1,l,q,h1,h2,h3,ha,hb,m,hm=>by
  have e:aO r (ql p k (f+1) l q)=aO r (if l≥q then .ret l else .ask (p.getD k 0) (p.getD ((l+q) / 2) 0) λc=>if c=true then ql p k f l ((l+q) / 2) else ql p k f ((l+q) / 2+1) q):=rfl;rw[e] at hm;by_cases c:l≥q
  ·rw[C5 c] at hm;obtain rfl:m=l:=hm;exact⟨by lia,ha,λi hi hk=>hb i (by lia) hk⟩
  ·rw[C4 c] at hm;have e2:aO r (KasT.ask (p.getD k 0) (p.getD ((l+q) / 2) 0) λc=>if c=true then ql p k f l ((l+q) / 2) else ql p k f ((l+q) / 2+1) q)=aO r (if rlt r (p.getD k 0) (p.getD ((l+q) / 2) 0)=true then ql p k f l ((l+q) / 2) else ql p k f ((l+q) / 2+1) q):=rfl;rw[e2] at hm;by_cases d:Kr r p k<Kr r p ((l+q) / 2)
   ·rw[C5 (aGJ d)] at hm;exact tV hs f l ((l+q) / 2) (by lia) (by lia) (by lia) ha (λi hi hk=>by have:=hs ((l+q) / 2) i hi hk;lia) m hm
   ·rw[C4 (aGg d)] at hm;exact tV hs f ((l+q) / 2+1) q (by lia) h2 (by lia) (λi hi=>by have:=hs i ((l+q) / 2) (by lia) (by lia);lia) hb m hm
theorem aGo:∀f (p:Array Nat) k,k+f<=p.size->Srt r p k->(aO r (Cj f p k)).Perm p/\(aO r (Cj f p k)).size=p.size/\Srt r (aO r (Cj f p k)) (k+f)
 |0,p,k,hz,hs=>⟨td _,rfl,hs⟩
 |f+1,p,k,hz,hs=>by
  have e:aO r (Cj (f+1) p k)=aO r (Cj f (bubble p k (k-aO r (ql p k k 0 k))) (k+1)):=eA (r:=r) _;rw[e];obtain⟨a1,a2,a3⟩:=tV hs k 0 k (by lia) (by lia) (by lia) (λi hi=>by lia) (λi h1 h2=>by lia) _ rfl;generalize aO r (ql p k k 0 k)=l at a1 a2 a3 ⊢;have sz:(bubble p k (k-l)).size=p.size:=bubble_size _ _ _;have kb:=λi=>aPH (r:=r) (p:=p) (src:=k) (d:=k-l) (by lia) (by lia) i;obtain⟨b1,b2,b3⟩:=aGo f (bubble p k (k-l)) (k+1) (by rw[sz];lia) λi j hij hj=>by
   rw[kb,kb];have g1:∀i,i<l->Kr r p i<=Kr r p k:=a2;have g2:∀i,l<=i->i<k->Kr r p k<Kr r p i:=a3;by_cases i1:i=k-(k-l)<;>by_cases j1:j=k-(k-l)
   ·rw[C5 i1,C5 j1];lia
   ·rw[C5 i1,C4 j1,C5 ⟨by lia,by lia⟩];exact o6 (g2 _ (by lia) (by lia))
   ·rw[C4 i1,C5 j1,C4 (by lia)];exact g1 i (by lia)
   ·rw[C4 i1,C4 j1];by_cases i2:k-(k-l)<i/\i<=k
    ·rw[C5 i2,C5 ⟨by lia,by lia⟩];exact hs _ _ (by lia) (by lia)
    ·rw[C4 i2];by_cases j2:k-(k-l)<j/\j<=k
     ·rw[C5 j2];exact hs _ _ (by lia) (by lia)
     ·rw[C4 j2];exact hs _ _ hij (by lia)
  exact⟨b1.trans (bubble_perm _ _ _),b2.trans sz,by rw[show k+(f+1)=k+1+f by lia];exact b3⟩
def aDz (h1:1<=n):(aO r (mr n)).Perm (ju (bc n))/\(aO r (mr n)).size=n/\Srt r (aO r (mr n)) n:=by
 unfold mr;rw[eA];have hz:(ju (bc n)).size=n:=by simp
 obtain⟨a1,a2,a3,a4,a5⟩:=aFe (r:=r) (nrem:=n) (p:=ju (bc n)) h1 (by lia);generalize aO r (Bp n (ju (bc n)))=R at a1 a2 a3 a4 a5 ⊢;by_cases c:R.1<n
 ·rw[C5 c];obtain⟨b1,b2,b3⟩:=aGo (r:=r) (n-max R.1 1) R.2 (max R.1 1) (by lia) (by rw[show max R.1 1=R.1 by lia];exact a5);exact⟨b1.trans a2,by lia,by rw[show max R.1 1+(n-max R.1 1)=n by lia] at b3;exact b3⟩
 ·rw[C4 c];exact⟨a2,by show R.2.size=n;lia,by rw[show R.1=n by lia] at a5;exact a5⟩
end
def Bnd (N:Nat)(p:Array Nat):Prop:=∀k,p.getD k 0<N
def Bnd.perm (hN:0<N)(h:Bnd N p)(e:q.Perm p):Bnd N q:=λk=>by
 rw[dh];by_cases c:k<q.size
 ·rw[c8 c];have hm:q[k]∈p:=e.mem_iff.mp (xx c);obtain⟨i,hi,e2⟩:=Array.getElem_of_mem hm;have:=h i;rw[dh,c8 hi] at this;show q[k]<N;rw[<- e2];exact this
 ·rw[ij (by lia)];exact hN
def AskP (N:Nat){α:Type}(P:α->Prop):KasT α->Prop
 |.ret a=>P a
 |.ask i j k=>i<N/\j<N/\∀b,AskP N P (k b)
theorem AskP.bind {N:Nat}{α β:Type}{f:α->KasT β}{P:α->Prop}{Q:β->Prop}(hf:∀a,P a->AskP N Q (f a)):∀t:KasT α,AskP N P t->AskP N Q (t.bind f)
 |.ret a,h=>hf a h
 |.ask i j k,h=>⟨h.1,h.2.1,λb=>AskP.bind hf (k b) (h.2.2 b)⟩
def AskP.ite[Decidable c](h1:c->AskP N P t)(h2:¬c->AskP N P u):AskP N P (if c then t else u):=by
 by_cases h:c
 ·rw[C5 h];exact h1 h
 ·rw[C4 h];exact h2 h
theorem aBX (hb:Bnd N p):∀f n,AskP N (λ_=>True) (yt p f n)
 |0,n=>trivial
 |f+1,n=>⟨hb _,hb _,λb=>AskP.ite (λ_=>trivial) λ_=>aBX hb f (n+1)⟩
theorem rK (hN:0<N):∀f (p:Array Nat) n q,Bnd N p->AskP N (λR=>Bnd N R.1) (wk f p n q)
 |0,p,n,q,hb=>hb
 |f+1,p,n,q,hb=>⟨hb _,hb _,λb=>AskP.ite (λ_=>AskP.ite (λ_=>rK hN f _ _ _ (hb.perm hN (eX _ _ _))) λ_=>rK hN f _ _ _ hb) λ_=>⟨hb _,hb _,λd=>AskP.ite (λ_=>hb) λ_=>rK hN f _ _ _ hb⟩⟩
def aAB (hN:0<N)(hb:Bnd N p):AskP N (λR:Nat×Array Nat=>Bnd N R.2) (Ci n nrem p):=by
 unfold Ci;refine AskP.bind (P:=λ_=>True) (λa _=>?_) _ (aBX (hb.perm hN (eX _ _ _)) _ _);exact hb.perm hN (eX _ _ _)
def pH (hN:0<N)(hb:Bnd N p):AskP N (λR:Nat×Array Nat=>Bnd N R.2) (wm n nrem p):=by
 unfold wm;refine AskP.bind (λR hR=>?_) _ (rK hN _ _ _ _ hb);exact AskP.ite (λ_=>aAB hN (Bnd.perm hN hR (eX _ _ _))) λ_=>aAB hN hR
def aGC (hN:0<N)(hb:Bnd N p):AskP N (λR:Nat×Array Nat=>Bnd N R.2) (Bp nrem p):=by
 unfold Bp;refine AskP.bind (P:=λ_=>True) (λn _=>?_) _ (aBX hb _ _);refine AskP.ite (λ_=>?_) λ_=>AskP.ite (λ_=>⟨hb _,hb _,λc=>AskP.ite (λ_=>?_) λ_=>pH hN (hb.perm hN (eX _ _ _))⟩) λ_=>pH hN hb
 ·exact hb
 ·exact hb
theorem sV (hb:Bnd N p):∀f l q,AskP N (λ_=>True) (ql p k f l q)
 |0,l,q=>trivial
 |f+1,l,q=>AskP.ite (λ_=>trivial) λ_=>⟨hb _,hb _,λc=>AskP.ite (λ_=>sV hb f _ _) λ_=>sV hb f _ _⟩
theorem aGX (hN:0<N):∀f (p:Array Nat) k,Bnd N p->AskP N (λ_=>True) (Cj f p k)
 |0,p,k,hb=>trivial
 |f+1,p,k,hb=>AskP.bind (λl _=>aGX hN f _ _ (hb.perm hN (bubble_perm _ _ _))) _ (sV hb _ _ _)
def aDj (hN:0<N):AskP N (λ_=>True) (mr N):=by
 have hb:Bnd N (ju (bc N)):=λk=>by
  rw[dh];by_cases c:k<N
  ·simp[c]
  ·simp[c,hN]
 unfold mr;refine AskP.bind (λR hR=>?_) _ (aGC hN hb);refine AskP.ite (λ_=>aGX hN _ _ _ hR) λ_=>?_;exact trivial
theorem aHc (hc:∀i j C,i<N->j<N->C (rlt r i j) s->cmp i j C s):∀t:KasT α,AskP N P t->Q (aO r t) s->t.kasWp cmp Q s
 |.ret a,_,h=>h
 |.ask i j k,ha,h=>hc i j _ ha.1 ha.2.1 (aHc hc (k (rlt r i j)) (ha.2.2 _) h)
theorem aDl:∀{a b:List Int},lexL a b=false->lexL b a=false->a=b
 |[],[],_,_=>rfl
 |[],_::_,h,_=>by cases h
 |_::_,[],_,h=>by cases h
 |x::a,y::b,h1,h2=>by
  rw[lexL] at h1 h2;by_cases e:x=y
  ·subst e;rw[C5 rfl] at h1 h2;rw[aDl h1 h2]
  ·rw[C4 e] at h1;rw[C4 (gf e)] at h2;have g1:=of_decide_eq_false h1;have g2:=of_decide_eq_false h2;lia
def qD (R:List (List Int))(i:Nat):Int:=((R.countP λq=>lexL q (R.getD i [])):Nat)
theorem aBf:∀{l:List (List Int)},(∀x∈l,p x=true->q x=true)->(∃x∈l,p x=false/\q x=true)->l.countP p<l.countP q
 |[],_,⟨_,h,_⟩=>by cases h
 |a::l,h,⟨x,hx,h1,h2⟩=>by
  have mono:l.countP p<=l.countP q:=Ar λx hx=>h x (bq _ hx);rw[List.countP_cons,List.countP_cons];rcases b8.mp hx with e|hx
  ·subst e;rw[h1,h2];simp;lia
  ·have ih:=aBf (λx hx=>h x (bq _ hx)) ⟨x,hx,h1,h2⟩;have ha:=h a (c7 ..);cases e1:p a with
   |false=>simp;split<;>lia
   |true=>rw[ha e1];simp;lia
def oV (hi:i<R.length)(hj:j<R.length):(qD R i<qD R j)↔lexL (R.getD i []) (R.getD j [])=true:=by
 have mem:∀k,k<R.length->R.getD k []∈R:=λk hk=>by
  rw[ak,ah hk];exact f7 hk
 unfold qD;constructor
 ·intro h;cases e:lexL (R.getD i []) (R.getD j []) with
  |true=>rfl
  |false=>
   exfalso;have:R.countP (λq=>lexL q (R.getD j []))<=R.countP (λq=>lexL q (R.getD i [])):=Ar λx _ hx=>by
    cases e2:lexL (R.getD j []) (R.getD i []) with
    |true=>exact jO hx e2
    |false=>rw[aDl e e2];exact hx
   lia
 ·intro h;have:=aBf (l:=R) (p:=λq=>lexL q (R.getD i [])) (q:=λq=>lexL q (R.getD j [])) (λx _ hx=>jO hx h) ⟨_,mem i hi,jF _,h⟩;lia
def TupsAt (h:jp)(vs:List wn)(R:List (List Int)):Prop:=vs.length=R.length/\∀(i:Nat) (row:List Int),R[i]?=some row->∃x us,vs[i]?=some (.ref x)/\IsTup h x us.toArray/\IntsAre us row
theorem aJT:∀{us vs:List wn}{ns ms:List Int} (i:Nat),IntsAre us ns->IntsAre vs ms->Q (aDJ fin (ns.zip ms)) s->KatLex prog w A true fin Q (us.zip vs) i s
 |[],_,_,_,i,.nil,_,h=>by rw[List.zip_nil_left];exact kat_nil (by simpa[aDJ] using h)
 |_::_,[],_,_,i,.cons _ _ _,.nil,h=>by rw[List.zip_nil_right];exact kat_nil (by simpa[aDJ] using h)
 |_::us,_::vs,_::ns,_::ms,i,.cons n t h1,.cons m u h2,h=>by
  rw[oa,aDJ] at h;rw[oa];refine kat_cons (v9 n t m u prog w _ _ ?_);by_cases c:n=m
  ·rw[C5 c] at h;rw[show(n==m)=true from by rw[c];exact beq_self_eq_true _];exact kat_yes (aJT (i+1) h1 h2 h)
  ·rw[C4 c] at h;rw[show(n==m)=false from beq_false_of_ne c];refine kat_no ?_;by_cases z:i=0
   ·subst z;exact oneLt_int h
   ·rw[show(true&&i==0)=false by simp[z]];exact kat_one _ _ (aAV h)
def aKg (hv:TupsAt s.heap vs R)(hi:i<R.length)(hj:j<R.length)(h:C (rlt (qD R) i j) s):kas_ask prog w A (A5 true) vs i j C s:=by
 have at':∀k,k<R.length->∃x us,vs.getD k Value.none=.ref x/\IsTup s.heap x us.toArray/\IntsAre us (R.getD k []):=λk hk=>by
  obtain⟨x,us,e1,e2,e3⟩:=hv.2 k R[k] (ah hk);refine⟨x,us,by rw[ak,e1];rfl,e2,?_⟩;rw[ak,ah hk];exact e3
 obtain⟨x,us,e1,⟨ox,a1,_,n1,d1⟩,b1⟩:=at' i hi;obtain⟨y,vs',e2,⟨oy,a2,_,n2,d2⟩,b2⟩:=at' j hj;show v4 (v6 prog w) A (keyLt' (A5 true) (vs.getD i Value.none) (vs.getD j Value.none)) C (λ_ _=>False) s;rw[e1,e2];refine kat_lt a1 d1 a2 d2 ?_;have hl1:us.length=(R.getD i []).length:=IntsAre.len b1;have hl2:vs'.length=(R.getD j []).length:=IntsAre.len b2;have e:rlt (qD R) i j=aDJ (decide (us.toArray.size<vs'.toArray.size)) ((R.getD i []).zip (R.getD j [])):=by
  rw[ay,ay,hl1,hl2,aCq];unfold rlt;by_cases c:lexL (R.getD i []) (R.getD j [])=true
  ·rw[c];exact At ((oV hi hj).mpr c)
  ·rw[jb _ |>.mp c];exact Au λz=>c ((oV hi hj).mp z)
 exact aJT 0 b1 b2 (by rw[<- e];exact h)
theorem mU:∀{vs:List wn}{R:List (List Int)},TupsAt h vs R->(∀q∈R,q≠[])->∃fs,KatTups h vs fs/\fs.length=R.length/\∀v∈fs,∃i t,v=.int i t
 |[],[],_,_=>⟨[],trivial,rfl,λ_ z=>by cases z⟩
 |[],_::_,hv,_=>by cases hv.1
 |_::_,[],hv,_=>by cases hv.1
 |v::vs,q::R,hv,hne=>by
  obtain⟨x,us,e1,⟨o,a1,a2,n,a3⟩,b⟩:=hv.2 0 q rfl;obtain⟨fs,k,l,f⟩:=mU (vs:=vs) (R:=R) ⟨by simpa using hv.1,λi row hr=>hv.2 (i+1) row hr⟩ λq hq=>hne q (bq _ hq);obtain rfl:v=.ref x:=by simpa using e1
  cases b with
  |nil=>exact absurd rfl (hne [] (c7 ..))
  |cons m t r=>
   exact⟨.int m t::fs,⟨⟨x,o,_,n,rfl,a1,a2,a3,rfl⟩,k⟩,by simp[l],λv hv'=>by
    rcases b8.mp hv' with e|hv'
    ·exact⟨m,t,e⟩
    ·exact f v hv'⟩
def TupsAt.keep (hv:TupsAt h vs R)(k:∀x us,IsTup h x us->IsTup h' x us):TupsAt h' vs R:=
 ⟨hv.1,λi row hr=>by obtain⟨x,us,e1,e2,e3⟩:=hv.2 i row hr;exact⟨x,us,e1,k _ _ e2,e3⟩⟩
def Put (R:List (List Int))(p:Array Nat):Prop:=p.Perm (ju (bc R.length))/\∀i j,i<=j->j<R.length->lexL (R.getD (p.getD j 0) []) (R.getD (p.getD i 0) [])=false
def yD (ho:s.heap.get? a=some (kd "list" vs.toArray n))(hv:TupsAt s.heap vs R)(hne:∀q∈R,q≠[])(h64:vs.length<64)(h:∀p,Put R p->P (.done (.ret .none)) {s with heap:=BD s.heap a vs (ju (p.toList.map λi=>vs.getD i Value.none))}):v4 (v6 prog w) A (Builtin.«list.sort» ⟨[.ref a],[]⟩) P E s:=by
 have ha:=bx ho;have hz:vs.length<=cm:=by rw[ka];lia
 obtain⟨e1,ho1⟩:∃e1,(s.heap.update a (j4 λ_=>#[])).get? a=some (kd "list" #[] e1):=⟨_,Am ho λ_=>#[]⟩;rw[list_sort_plain];refine ae (Ak ho rfl (ae (u6 ho rfl ?g1 (by rw[ay];exact hz) (bh _))))
 case g1=>
 refine ae (A7 ho1 rfl (ae (w4 ?g2 (by show vs.length<=_;exact hz))))
 case g2=>
 refine ae (sv (f9 ?g3) (bh _))
 case g3=>
 obtain⟨h3,eh⟩:∃h3,h3=((s.heap.update a (j4 λ_=>(#[]:Array wn))).push (kd "tuple" vs.toArray 0)).push (kd "list" #[] 0):=⟨_,rfl⟩;show v4 (v6 prog w) A _ P E {s with heap:=((s.heap.update a (j4 λ_=>#[])).push (kd "tuple" vs.toArray 0)).push (kd "list" #[] 0)};rw[<- eh];have ho3:h3.get? a=some (kd "list" #[] e1):=by
  rw[eh];exact aj _ (aj _ ho1)
 have hv3:TupsAt h3 vs R:=hv.keep λx us ⟨o,b1,b2,b3⟩=>by
  have hx:x≠a:=λe=>by
   subst e;rw[ho] at b1;cases b1;exact absurd (Value.type.inj (show Value.type "list"=Value.type "tuple" from b2)) (by decide)
  refine⟨o,?_,b2,b3⟩;rw[eh];exact aj _ (aj _ (by rw[vq _ _ _ _ hx];exact b1))
 dsimp only;have fin:∀(p:Array Nat) (st':SortSt),Put R p->p.size=vs.length->arrOf st'=p.map (kas_item (vs.toArray.zip vs.toArray))->Bq st'=none->v4 (v6 prog w) A (do
   let touched:=(<- seqEpoch a) != e1
   yu (.ref a) λ_=>(arrOf st').map (·.2)
   if let some e:=Bq st' then rule "list.sort.comparison-raised";throw e
   if touched then rule "list.sort.modified";raiseError "ValueError" "list modified during sort"
   ret .none) P E {s with heap:=h3}:=λp st' hp hsz har hf=>by
  rw[kat_snds rfl har,hf];refine ae (A7 ho3 rfl (ae (u6 ho3 rfl ?g4 (bh _) ?g5)))
  case g5=>
   show(ju _).size<=_;rw[ay,af,da];lia
  case g4=>
   simp only[bne_self_eq_false,gm,if_false];have:=h p hp;unfold BD at this;rw[<- eh] at this;exact ao this
 by_cases c:vs.toArray.size<2
 ·rw[C5 c,C5 c];refine ae (ao ?g6)
  case g6=>
  rw[StateT.run_pure];refine ae (ao ?g7)
  case g7=>
  have e2:(vs.toArray.zip vs.toArray).size=vs.length:=by simp
  refine fin (ju (bc vs.length)) (SortSt.mk' general' (vs.toArray.zip vs.toArray) #[] 7 none) ⟨by rw[hv.1],λi j hij hj=>?_⟩ (by simp) ?_ rfl
  ·have hl:R.length<2:=by rw[<- hv.1];simpa using c
   rw[show i=j by lia];exact jF _
  ·have:=kas_range (vs.toArray.zip vs.toArray);rw[e2] at this;exact this.symm
 ·rw[C4 c,C4 c];have h2:2<=vs.length:=by simpa using c
  obtain⟨fs,k1,k2,k3⟩:=mU hv3 hne;refine ae (kat_kind (s:={s with heap:=h3}) (T:=.type "int") k1 (by have:=hv.1;lia) (λv hv'=>?g8) (by decide) ?g9)
  case g8=>
   obtain⟨i,t,rfl⟩:=k3 v hv';exact Looks.of_pure rfl
  case g9=>
  obtain⟨q1,q2,q3⟩:=aDz (r:=qD R) (n:=vs.length) (by lia);refine ae (jf (kat_run (ks:=vs) (vs:=vs) (s:={s with heap:=h3}) (κ:=A5 true) (Q:=λst' s'=>s'={s with heap:=h3}/\arrOf st'=(aO (qD R) (mr vs.length)).map (kas_item (vs.toArray.zip vs.toArray))/\Bq st'=none) (G:=λp' s'=>p'=aO (qD R) (mr vs.length)/\s'={s with heap:=h3}) rfl h2 h64 (λp' st' s' a1 a2 a3 a4=>⟨a4.2,by rw[<- a4.1];exact a2,a3⟩)
   (aHc (N:=vs.length) (r:=qD R) (λi j C hi hj hC=>aKg (s:={s with heap:=h3}) hv3 (by rw[<- hv.1];exact hi) (by rw[<- hv.1];exact hj) hC) _ (aDj (by lia)) ⟨rfl,rfl⟩)) ?_ λ_ _ e=>e)
  rintro⟨⟨⟩,st'⟩ s' ⟨rfl,har,hf⟩;refine fin _ st' ⟨by rw[<- hv.1];exact q1,λi j hij hj=>?_⟩ q2 har hf;have hle:=q3 i j hij (by rw[hv.1];exact hj);have bd:∀k,k<vs.length->(aO (qD R) (mr vs.length)).getD k 0<R.length:=λk hk=>by
   rw[dh,c8 (by lia)];have:=q1.mem_iff.mp (xx (show k<(aO (qD R) (mr vs.length)).size by lia));rw[<- hv.1];simpa using this
  have hlt:=oV (R:=R) (bd j (by rw[hv.1];exact hj)) (bd i (by rw[hv.1];lia));cases z:lexL (R.getD ((aO (qD R) (mr vs.length)).getD j 0) []) (R.getD ((aO (qD R) (mr vs.length)).getD i 0) []) with
  |false=>rfl
  |true=>
   have:=hlt.mpr z;unfold Kr at hle;lia
def aDn (h:Put R p):(p.toList.map λi=>R.getD i []).Perm R/\(p.toList.map λi=>R.getD i []).Pairwise (λa b=>lexL b a=false):=by
 have pl:p.toList.Perm (bc R.length):=by simpa using qc.mp h.1
 have e:(bc R.length).map (λi=>R.getD i [])=R:=by
  apply qt
  ·simp
  ·intro i h1 h2;rw[j7,og,ak,ah h2];rfl
 have hl:p.size=R.length:=by rw[<- da,pl.length_eq,e8]
 refine⟨by have:=pl.map λi=>R.getD i [];rw[e] at this;exact this,?_⟩;rw[qm];intro i j hi hj hij;rw[af,da] at hi hj;have:=h.2 i j (by lia) (by lia);rw[dh,c8 hj,dh,c8 hi] at this;rw[j7,j7,u3,u3];exact this
end L2
namespace L2
open PySem PyProof.Rows
def xT (r q:List Int):eqD (.tup (r.map Dt.int)) (.tup (q.map Dt.int))=decide (r=q):=by
 by_cases h:r=q
 ·subst h;rw[aDI,At rfl]
 ·rw[Au h];cases e:eqD (.tup (r.map Dt.int)) (.tup (q.map Dt.int)) with
  |false=>rfl
  |true=>rw[eqD] at e;exact absurd (rH e) h
def aRn (K:aa)(neg:Bool):R2:=λx y H Q=>∃(b p:ww) (r:List Int) (xs:List V) (R:List (List Int)),x=.ref b/\y=.ref p/\SqT K H b (r.map V.int)/\Sq K H p xs/\Rows K H xs R/\Q (.bl (if neg then !decide (r∈R) else decide (r∈R))) H
def aDo {pins:List (ww×Obj)}{σ:St}{H:Hp}{s:wv}{b:ww}{r:List Int}{xs:List V}{R:List (List Int)}{its:List wn}(hu:X.A.units+103<cLine)(I:Inv X pins σ H s)(hb:SqT X.K H b (r.map V.int))(hR:Rows X.K H xs R)(rv:Vals xs its):
  ∃e:wn->Bool,(∀u,u∈its->ig X.A.in1 s u (.ref b) (e u))/\its.any e=decide (r∈R):=by
 classical
 have hl:=rv.length;have row_of:∀i (hi:i<its.length),∃c,∃hR':i<R.length,its[i]=.ref c/\SqT X.K H c (R[i].map V.int):=λi hi=>by
  have hR':i<R.length:=by rw[<- hR.1,hl];exact hi
  obtain⟨c,e1,e2⟩:=hR.2 i R[i] (ah hR');obtain⟨u,eu,rU⟩:=rv.get e1;rw[ah hi] at eu;cases eu;exact⟨c,hR',rU,e2⟩
 refine⟨λu=>decide (∃c,u=.ref c/\SqT X.K H c (r.map V.int)),λu hu'=>?_,?_⟩
 ·obtain⟨i,hi,rfl⟩:=nr hu';obtain⟨c,hR',e1,e2⟩:=row_of i hi;rw[e1];have sh:∀(q:List Int) (a:ww),SqT X.K H a (q.map V.int)->Sh X.K H (.tup (q.map Dt.int)) (.ref a):=λq a h=>⟨a,_,rfl,h,ShL.ints q⟩;have g:=(I.eq_sh 100 X.A.in1 (.tup (R[i].map Dt.int)) (.tup (r.map Dt.int)) (.ref c) (.ref b) (.ref c) (.ref b) (by rw[dep,eE];decide) (by show X.A.units+1+100<cLine;lia) rfl rfl (sh _ _ e2) (sh _ _ hb)).2;rw[xT] at g;have ee:decide (R[i]=r)=decide (∃c',Value.ref c=.ref c'/\SqT X.K H c' (r.map V.int)):=by
   by_cases h:R[i]=r
   ·rw[At h,At ⟨c,rfl,h▸e2⟩]
   ·rw[Au h,Au];rintro⟨c',e,h'⟩;cases e;have:=I.tuple_inj e2 h';exact h ((wo λa b z=>V.int.inj z).mp this)
  show ig X.A.in1 s (Value.ref c) (Value.ref b) (decide (∃c',Value.ref c=.ref c'/\SqT X.K H c' (r.map V.int)));rw[<- ee];exact g
 ·by_cases h:r∈R
  ·rw[At h];obtain⟨i,hi,e⟩:=nr h;have hi':i<its.length:=by rw[<- hl,hR.1];exact hi
   obtain⟨c,_,e1,e2⟩:=row_of i hi';rw[List.any_eq_true];exact⟨its[i],f7 _,by rw[e1];exact At ⟨c,rfl,e▸e2⟩⟩
  ·rw[Au h,xy];intro u hu';obtain⟨i,hi,rfl⟩:=nr hu';obtain⟨c,hR',e1,e2⟩:=row_of i hi;rw[decide_eq_true_iff];rintro⟨c',e,h'⟩;rw[e1] at e;cases e;have:=I.tuple_inj e2 h';exact h ((wo λa b z=>V.int.inj z).mp this▸f7 hR')
def aHe (hu:X.A.units+103<cLine):OpR X (iw .NotIn) (aRn X.K true):=by
 intro pins s σ H x y v u Q I rx ry ⟨b,p,r,xs,R,e1,e2,hb,hq,hR,q⟩;subst e1 e2;cases rx;cases ry;rcases hq with hq|hq
 ·obtain⟨its,rv,pl,_⟩:=I.list hq;obtain⟨e,h1,h2⟩:=aDo hu I hb hR rv;refine SeqAt.notIn_listAt e pl.isList (λw hw=>h1 w (by simpa using hw)) ⟨.bl _,H,I,rfl,?_⟩;rw[show its.toArray.any e=its.any e by simp,h2];exact q
 ·obtain⟨its,rv,pl,_⟩:=I.tuple hq;obtain⟨e,h1,h2⟩:=aDo hu I hb hR rv;refine AZ e pl (λw hw=>h1 w (by simpa using hw)) ⟨.bl _,H,I,rfl,?_⟩;rw[show its.toArray.any e=its.any e by simp,h2];exact q
def aMb (K:aa)(neg:Bool):R2:=λx y H Q=>rIn K neg x y H Q\/aRn K neg x y H Q
def aEb {K:aa}{k:Nat}(hK:X.K=K)(hr:Room k X.A):OpR X (iw .NotIn) (aMb K true):=by
 subst hK;exact OpR.or pQ (aHe (by have:=hr.un;lia))
end L2
namespace L2
open PySem PySem.Spec PyProof.Rows
def CMulG (i j:Int):Prop:=i.natAbs<2^8000/\j.natAbs<2^8000
def aFo (h:k.natAbs<2^8000):qw k<=8000:=by
 unfold qw;split
 ·exact bh _
 ·rename_i c;have hk:k.natAbs≠0:=λe=>c (by simp[Int.natAbs_eq_zero.mp e]);have:=(yv hk).mpr h;lia
def CMulG.ok (h:CMulG i j):IntMulOk i j:=by
 unfold IntMulOk Builtin.Int.intTooBig;have h1:=aFo h.1;have h2:=aFo h.2;have:¬(((qw i+qw j:Nat):Int) > (bitsLine:Int)):=by
  have:(16000:Int)<=(bitsLine:Int):=by decide
  lia
 intro e;rw[cz] at e;have:=C0 e.2;lia
def cM:R2:=λx y H Q=>match x,y with
 |.int i,.int j=>(CMul i j\/CMulG i j)/\Q (.int (i*j)) H
 |.ref a,.int k=>aPd (.ref a) (.int k) H Q
 |_,_=>False
def xQ:OpR X (mh .Mult) cM:=by
 intro pins s σ H x y v u Q I rx ry h;unfold cM at h;split at h
 ·rcases h with⟨h|h,q⟩
  ·exact aJN (X:=X) pins s σ H _ _ v u Q I rx ry ⟨_,_,rfl,rfl,h,q⟩
  ·exact(opI λ_ _ _ _ _ _ _ hc q=>mul_int q hc.ok:OpR X (mh .Mult) (rI CMulG λi j=>.int (i*j))) pins s σ H _ _ v u Q I rx ry ⟨_,_,rfl,rfl,h,q⟩
 ·exact aJt (X:=X) pins s σ H _ _ v u Q I rx ry h
 ·exact h.elim
def aOg (i j:Int):Prop:=0<j/\j.natAbs<2^8000
abbrev qA:R2:=rI aOg λi j=>.int (i / j)
def aDX:OpR X (mh .FloorDiv) qA:=opI λi j _ _ _ _ _ hc q=>by
 have h1:(0:Int)<j:=hc.1;refine floordiv_int (by lia) (by rw[Int.fdiv_eq_ediv_of_nonneg i (by lia)];exact q) (.inl (PyProof.noPylong_of_log2 ?_));have:=(yv (show j.natAbs≠0 by lia)).mpr hc.2;lia
def aFH:Nat->List (List Nat)
 |0=>[[]]
 |n+1=>aFH n++(aFH n).map (· ++ [n])
def sK:List (List Nat):=aFH 8
theorem jB:∀(n:Nat) (ks:List Nat),ks.Pairwise (· < ·)->(∀k∈ks,k<n)->ks∈aFH n
 |0,ks,_,h=>by
  cases ks with
  |nil=>exact br.mpr rfl
  |cons k ks=>exact absurd (h k (c7 ..)) (i5 _)
 |n+1,ks,hp,h=>by
  rw[aFH,cg,cw];rcases List.eq_nil_or_concat ks with rfl|⟨l,x,rfl⟩
  ·exact .inl (jB n [] .nil λk z=>by cases z)
  ·rw[List.concat_eq_append] at hp h ⊢;have hl:=(my.mp hp);have hx:x<n+1:=h x (du _ (br.mpr rfl));by_cases c:x=n
   ·subst c;exact .inr ⟨l,jB _ l hl.1 λk hk=>hl.2.2 k hk _ (br.mpr rfl),rfl⟩
   ·refine .inl (jB n _ hp λk hk=>?_);rcases cg.mp hk with hk|hk
    ·have:=hl.2.2 k hk x (br.mpr rfl);lia
    ·rw[br.mp hk];lia
def smT (led:Bool)(ks:List Nat):SetTable:={mask:=if ks.length<=4 then 7 else 31,place:=ks.toArray,dummies:=#[],finger:=0,led:=led,moves:=if ks.length<=4 then 0 else 1,plain:=true}
def wB (ks:List Nat)(k:Nat):List Nat:=ks.take (b7 ks.toArray k)++k::ks.drop (b7 ks.toArray k)
def smP (led:Bool)(ks:List Nat)(k:Nat):SetTable:={smT led ks with place:=(wB ks k).toArray}
def aOH (ks:List Nat):Bool:=decide (ks.Pairwise (· < ·))&&ks.all (λk=>decide (k<8))&&decide (ks.length<=8)
def aOS (led:Bool)(ks:List Nat)(k:Nat):Bool:=ks.contains k||(decide ((smT led ks).freeSlot (Int.ofNat k)=some (k,false))&&decide ((smT led ks).put k=(smP led ks k,b7 ks.toArray k))&&(smP led ks k).fits (ks.length+1)
 && aOH (wB ks k)&&decide ((smP led ks k).tooFull=(ks.length==4))&&(if ks.length=4 then decide ((smP led ks k).relaid ((wB ks k).map Int.ofNat).toArray (ui 5)=some (smT led (wB ks k),#[0,1,2,3,4])) else decide (smP led ks k=smT led (wB ks k))))
def aNA:(sK.all λks=>(bc 8).all λk=>aOS true ks k&&aOS false ks k)=true:=by decide+kernel
def aIX (h:ks∈sK)(hk:k<8)(hn:k∉ks):(smT led ks).freeSlot (Int.ofNat k)=some (k,false)/\(smT led ks).put k=(smP led ks k,b7 ks.toArray k)/\(smP led ks k).fits (ks.length+1)=true/\wB ks k∈sK/\(smP led ks k).tooFull=(ks.length==4) /\
  (ks.length=4->(smP led ks k).relaid ((wB ks k).map Int.ofNat).toArray (ui 5)=some (smT led (wB ks k),#[0,1,2,3,4]))/\(ks.length≠4->smP led ks k=smT led (wB ks k)):=by
 have a:=dk.mp (dk.mp aNA ks h) k (fc.mpr hk);have b:aOS led ks k=true:=by
  rw[cz] at a;cases led
  ·exact a.2
  ·exact a.1
 unfold aOS at b;have c:ks.contains k=false:=by rw[<- jb];intro z;exact hn (uo.mp z)
 rw[c,Br] at b;simp only[cz,decide_eq_true_eq] at b;obtain⟨⟨⟨⟨⟨b1,b2⟩,b3⟩,b4⟩,b5⟩,b6⟩:=b;refine⟨b1,b2,b3,?_,b5,λz=>?_,λz=>?_⟩
 ·unfold aOH at b4;simp only[cz,decide_eq_true_eq,dk] at b4;exact jB 8 _ b4.1.1 b4.1.2
 ·rw[C5 z] at b6;exact C0 b6
 ·rw[C4 z] at b6;exact C0 b6
def aQP (ks:List Nat):Bool:=decide (b7 ks.toArray 0=0)&&(bc ks.length).all λi=>decide (b7 ks.toArray (ks.getD i 0+1)=i+1)
def aOZ:sK.all aQP=true:=by decide+kernel
def aKv (h:ks∈sK):b7 ks.toArray 0=0/\∀i<ks.length,b7 ks.toArray (ks.getD i 0+1)=i+1:=by
 have a:=dk.mp aOZ ks h;unfold aQP at a;rw[cz,dk] at a;exact⟨C0 a.1,λi hi=>C0 (a.2 i (fc.mpr hi))⟩
def aQD:sK.all aOH=true:=by decide+kernel
def kA (h:ks∈sK):ks.Pairwise (· < ·)/\(∀k∈ks,k<8)/\ks.length<=8:=by
 have a:=dk.mp aQD ks h;unfold aOH at a;simp only[cz,decide_eq_true_eq,dk] at a;exact⟨a.1.1,λk hk=>a.1.2 k hk,a.2⟩
def vE (ks:List Nat)(k:Nat):(wB ks k).Perm (k::ks):=by
 unfold wB;refine zj.trans ?_;rw[As]
theorem xC {α:Type}:∀{l:List α}{i:Nat} (h:i<l.length),([l[i]]++l.eraseIdx i).Perm l
 |x::l,0,_=>.refl _
 |x::l,i+1,h=>by
  have h':i<l.length:=by simpa using h
  have:=xC h';rw[List.eraseIdx_cons_succ,List.getElem_cons_succ];exact(List.Perm.swap _ _ _).trans (List.Perm.cons x this)
theorem aFX (f:Nat->Nat):∀(n k:Nat) (l:List α) (o:Array α),l.length=n->(BL f n k l o).toList.Perm (o.toList++l)
 |0,_,[],o,_=>by rw[BL,ia]
 |n+1,k,l,o,h=>by
  have hl:f k % l.length<l.length:=Nat.mod_lt _ (by lia);rw[BL,ah hl];refine(aFX f n (k+1) _ _ (by rw[List.length_eraseIdx,C5 hl];lia)).trans ?_;rw[Array.toList_push,gx];exact Av _ (xC hl)
def aFy (f:Nat->Nat)(xs:Array α):(pickOrder f xs).toList.Perm xs.toList:=by
 have:=aFX f xs.size 0 xs.toList #[] (da ..);simpa[pickOrder] using this
def byT (w:xj):Bool:=w.params.followText "set-order"
abbrev smO (w:xj)(es:Array (Int×wn))(ep:Nat)(ks:List Nat):Obj:={cls:=.type "set",dict:=none,data:=.set es ep (smT (!byT w) ks)}
def SmE (es:Array (Int×wn))(ks:List Nat):Prop:=ks∈sK/\es.toList.map (·.1)=ks.map Int.ofNat/\∀e∈es.toList,∃tk,e.2=.int e.1 tk
def aCc (w:xj)(a:ww)(ks:List Nat)(h:jp):Prop:=∃es ep,h.get? a=some (smO w es ep ks)/\SmE es ks
def jN (h:ks∈sK)(led:Bool):(smT led ks).fits ks.length=true:=by
 have:=(kA h).2.2;simp only[smT,SetTable.fits,Bt,ay,lg,BM,cz,beq_self_eq_true,true_and,decide_eq_true_eq];split<;>lia
def SmE.size (h:SmE es ks):es.size=ks.length:=by
 have:=congrArg AY h.2.1;simpa using this
def xE:∀k:Nat,k<8->Cr (Int.ofNat k)=Int.ofNat k:=by decide+kernel
def SmE.elems (h:SmE es ks):ElemsOf (j8 prog w) es.toList:=by
 intro e he;obtain⟨tk,z⟩:=h.2.2 e he;have m:e.1∈ks.map Int.ofNat:=by rw[<- h.2.1];exact kc he
 obtain⟨k,hk,ek⟩:=cw.mp m;refine⟨⟨e.1,by rw[z];exact ya _ _ _ _,?_⟩,by rw[z];rfl⟩;show e.1=Cr e.1;rw[<- ek,xE k ((kA h.1).2.1 k hk)]
def SmE.mem (h:SmE es ks)(k:Nat):k∈ks↔∃e∈es.toList,(j8 prog w).is (Int.ofNat k) e.2=true:=by
 constructor
 ·intro hk;have m:Int.ofNat k∈es.toList.map (·.1):=by rw[h.2.1];exact kc hk
  obtain⟨e,he,ee⟩:=cw.mp m;obtain⟨tk,z⟩:=h.2.2 e he;exact⟨e,he,by rw[z,ee];exact ya _ _ _ _⟩
 ·rintro⟨e,he,hi⟩;obtain⟨tk,z⟩:=h.2.2 e he;have q:Int.ofNat k=e.1:=(j8 prog w).inj e.2 _ _ hi (by rw[z];exact ya _ _ _ _);have m:e.1∈ks.map Int.ofNat:=by rw[<- h.2.1];exact kc he
  obtain⟨j,hj,ej⟩:=cw.mp m;rw[<- q] at ej;rw[<- Bu ej];exact hj
def SmE.put (h:SmE es ks)(hk:k<8)(hn:k∉ks)(t:Tok):SmE (nc es (b7 ks.toArray k) (Int.ofNat k,.int (Int.ofNat k) t)) (wB ks k):=by
 refine⟨(aIX (led:=true) h.1 hk hn).2.2.2.1,?_,?_⟩
 ·rw[rf,c4,de,pg,u5,h.2.1];unfold wB;rw[c4,de,pg,u5]
 ·intro e he;rw[(zx es _ _).mem_iff,Array.toList_push,cg,br] at he;rcases he with he|rfl
  ·exact h.2.2 e he
  ·exact⟨t,rfl⟩
def aMg (h:SmE es ks)(hk:k<8)(hn:k∉ks)(led:Bool)(x:wn):layNew (smT led ks) es (Int.ofNat k) x=(nc es (b7 ks.toArray k) (Int.ofNat k,x),smP led ks k,false,false):=by
 obtain⟨a1,a2,a3,_⟩:=aIX (led:=led) h.1 hk hn;have sz:(nc es (b7 ks.toArray k) (Int.ofNat k,x)).size=ks.length+1:=by
  rw[<- da,(zx es _ _).length_eq,da,Array.size_push,h.size]
 unfold layNew;rw[a1];dsimp only;rw[a2];dsimp only;rw[sz];unfold SetTable.orStandIn;rw[a3,C5 rfl];rfl
def aJa (h:SmE es (wB ks k))(h0:ks∈sK)(hk:k<8)(hn:k∉ks)(h4:ks.length=4)(led:Bool):relayAll (smP led ks k) es (ui es.size)=(es,smT led (wB ks k),false):=by
 obtain⟨_,_,_,b1,_,a6,_⟩:=aIX (led:=led) h0 hk hn;have l5:(wB ks k).length=5:=by rw[(vE ks k).length_eq,c5,h4]
 have sz:es.size=5:=by rw[h.size,l5]
 have eh:es.map (·.1)=((wB ks k).map Int.ofNat).toArray:=by
  apply nz.mp;rw[Array.toList_map,h.2.1]
 have ef:(#[0,1,2,3,4]:Array Nat).filterMap (es[·]?)=es:=by
  apply nz.mp;rw[zy];have:=filterMap_getElem?_range es;rw[sz] at this;exact this
 unfold relayAll;rw[eh,sz,a6 h4];dsimp only;rw[ef,sz];have c1:coversAll #[0,1,2,3,4] 5=true:=by decide
 have c2:(smT led (wB ks k)).fits 5=true:=by rw[<- l5];exact jN b1 led
 rw[c1,c2];rfl
def zW (ks:List Nat)(k:Nat):List Nat:=if k∈ks then ks else wB ks k
def zT {h:jp}{a:ww}{es es':Array (Int×wn)}{ep:Nat}{ks:List Nat}{t t':SetTable}{o:Obj}(ho:h.get? a=some o)(ed:o.data=.set es ep t):(h.update a (BE es' t')).get? a=some {o with data:=.set es' (ep+1) t'}:=by
 have:=iy (BE es' t') ho (by rw[putSet_of es' t' ed];rfl);rw[putSet_of es' t' ed] at this;exact this
def aNz (hS:aCc w a ks s.heap)(hk:k<8)(h:∀h' b,gp a s.heap h'->aCc w a (zW ks k) h'->Q b {s with heap:=h'}):v4 (v6 prog w) A (Aw a (.int (Int.ofNat k) t) (Cr (Int.ofNat k))) Q E s:=by
 obtain⟨es,ep,ho,hE⟩:=hS;have hel:ElemsOf (j8 prog w) es.toList:=hE.elems;have l8:=(kA hE.1).2.2;have hf:(smT (!byT w) ks).fits es.size=true:=by rw[hE.size];exact jN hE.1 _
 have hb:es.size<scanBound:=by rw[hE.size];unfold scanBound;lia
 have hkey:=ya prog w (Int.ofNat k) t;unfold Aw setAddHashedIn;refine f9 (ae (gy ho rfl hf ?_));dsimp only;rw[byScan_of (knd:=j8 prog w) rfl hb hel];simp only[↓reduceIte];unfold setAddByScan;refine ae ?_;refine ae (tv ?_);refine ae (wpAny_setScan_of (knd:=j8 prog w) hkey ho rfl hf hel ?_);cases hr:List.findIdx? (λe=>(j8 prog w).is (Int.ofNat k) e.2) es.toList with
 |some j=>
  dsimp only;obtain⟨hj,hpj,_⟩:=List.findIdx?_eq_some_iff_getElem.mp hr;have hin:k∈ks:=(hE.mem (prog:=prog) (w:=w) k).mpr ⟨_,f7 hj,hpj⟩;refine ao (ao ?_);have e:s={s with heap:=s.heap}:=by cases s;rfl
  rw[e];exact h s.heap _ (Heap.SameBut.refl a s.heap) ⟨es,ep,by rw[zW,C5 hin];exact ho,by rw[zW,C5 hin];exact hE⟩
 |none=>
  dsimp only;have hn:k∉ks:=λz=>by
   obtain⟨e,he,hp⟩:=(hE.mem (prog:=prog) (w:=w) k).mp z;have:=List.findIdx?_eq_none_iff.mp hr e he;rw[hp] at this;exact Bool.noConfusion this
  rw[xE k hk,aMg hE hk hn];dsimp only;refine ae (ao ?_);have hE1:=hE.put hk hn t;generalize he1:nc es (b7 ks.toArray k) (Int.ofNat k,Value.int (Int.ofNat k) t)=es1 at hE1 ⊢;have l5:(wB ks k).length=ks.length+1:=by rw[(vE ks k).length_eq,c5]
  have hz:es1.size<=cm:=by rw[hE1.size,l5,ka];lia
  obtain⟨_,_,_,_,a5,_,a7⟩:=aIX (led:=!byT w) hE.1 hk hn;rw[C5 (show(smP (!byT w) ks k).plain=true from rfl),hashByValue_scannable 8 rfl];refine ae (ao ?_);rw[C5 (show plainKind (.int (Int.ofNat k) t)=true from rfl)];refine ae (ua ho rfl ?_ hz);have ho1:=zT (ks:=ks) (es':=es1) (t':=smP (!byT w) ks k) ho rfl;have sb1:=gu s.heap a (BE es1 (smP (!byT w) ks k));rw[a5];by_cases h4:ks.length=4
  ·rw[C5 (by rw[h4];rfl),aJa hE1 hE.1 hk hn h4];dsimp only;refine ae (ao (ae (ua ho1 rfl ?_ hz)));have ho2:=zT (ks:=ks) (es':=es1) (t':=smT (!byT w) (wB ks k)) ho1 rfl;exact ao (ao (h _ _ (sb1.trans (gu _ a _)) ⟨es1,_,by rw[zW,C4 hn];exact ho2,by rw[zW,C4 hn];exact hE1⟩))
  ·rw[C4 (by simp[h4])];rw[a7 h4] at ho1 sb1 ⊢;exact ao (ao (h _ _ sb1 ⟨es1,_,by rw[zW,C4 hn];exact ho1,by rw[zW,C4 hn];exact hE1⟩))
def aGc:j∈zW ks k↔j∈ks\/j=k:=by
 unfold zW;split
 ·rename_i h;exact⟨.inl,λz=>z.elim id λe=>e▸h⟩
 ·rw[(vE ks k).mem_iff,b8];exact⟨λz=>z.elim .inr .inl,λz=>z.elim .inr .inl⟩
def aLi {R:BG->wv->Prop}{I:ww}{fp wr:List ww}{G:Array GenState->Array GenState->Prop}{n:Nat}{St:Nat->wv->Prop}(W:WalksS prog w A.in1 I fp wr G n P St)(S:ww)(hSf:S∉fp)(val:Nat->Nat)(hval:∀i v,i<n->P i v->∃t,v=.int (Int.ofNat (val i)) t)(h8:∀i,i<n->val i<8):
  ∀(k i:Nat) (ks:List Nat) (s:wv),n-i=k->i<=n->St i s->aCc w S ks s.heap->(∀j,j∈ks↔∃m,m<i/\val m=j) ->
   (∀ks' s',Moved (S::wr) G s s'->aCc w S ks' s'.heap->(∀j,j∈ks'↔∃m,m<n/\val m=j)->R (.ok (.ret .none)) s') ->
   ve (v6 prog w) A (.builtin "set.update.loop" ⟨[.ref S,.ref I],[]⟩) R s:=by
 have hSw:S∉wr:=λh=>hSf (W.sub _ h);have hsub:∀b∈wr,b∈S::wr:=λb hb=>bq _ hb;have up:∀{ks:List Nat}{s s':wv},Moved wr G s s'->aCc w S ks s.heap->aCc w S ks s'.heap:=λhm ⟨es,ep,ho,hE⟩=>⟨es,ep,hm.heap S _ hSw ho,hE⟩;intro k
 induction k with
 |zero=>
  intro i ks s hk hi hst hS hm hR;have hin:i=n:=by lia
  subst hin;refine gh nt ?_;rw[fz jz _];show v4 _ A.in1 (qf (.ref I) >>= _) _ _ s;refine ae (W.done s _ _ hst λs' hmv=>?_);show v4 _ A.in1 (ret Value.none) _ _ s';exact ao (hR ks s' (hmv.mono hsub) (up hmv hS) hm)
 |succ k ih=>
  intro i ks s hk hi hst hS hm hR;have hlt:i<n:=by lia
  refine gh nt ?_;rw[fz jz _];show v4 _ A.in1 (qf (.ref I) >>= _) _ _ s;refine ae (W.item i s _ _ hlt hst λv s' hP hst' hmv=>?_);obtain⟨t,rfl⟩:=hval i v hlt hP;have hS':=up hmv hS;show v4 _ A.in1 (AX [Value.int (Int.ofNat (val i)) t] (setAdd S (.int (Int.ofNat (val i)) t)) >>= _) _ _ s';refine ae (f9 ?_);unfold setAdd;refine f9 ?_;refine ae ((j8 prog w).pyHash (k:=Int.ofNat (val i)) (ya _ _ _ _) ?_);refine aNz (s:={s' with toks:=s'.toks+1}) hS' (h8 i hlt) λh' b hsb hS2=>?_;refine ao ⟨kq jz _,ih (i+1) _ _ (by lia) hlt (W.frame _ s' _ _ hst' (vh _) λb hb o e=>?_) hS2 (λj=>?_) λks' s'' hm'' hS'' hks=>?_⟩
  ·rw[hsb.2 b (λh:b=S=>hSf (by rw[<- h];exact hb))];exact e
  ·rw[aGc,hm j];constructor
   ·rintro(⟨m,h1,h2⟩|rfl)
    ·exact⟨m,gk h1,h2⟩
    ·exact⟨i,j6 i,rfl⟩
   ·rintro⟨m,h1,h2⟩;rcases rg.mp h1 with h1|rfl
    ·exact .inl ⟨m,h1,h2⟩
    ·exact .inr h2.symm
  ·refine hR ks' s'' (Moved.trans W.gtrans ((hmv.mono hsub).then_heap (vh _) λb o hb e=>?_) hm'') hS'' hks;rw[hsb.2 b (λh:b=S=>hb (by rw[h];exact c7))];exact e
def aJx (a:wn)(h:Q₁ (.ref s.heap.objs.size) {s with heap:=s.heap.push (smO w #[] 0 [])}):
  ve (v6 prog w) A (.call (.builtin "set.__new__") ⟨[.type "set",a],[]⟩) (wants Q₁ E) s:=by
 refine vk ?_;show v4 _ A.in1 (do checkBuiltinCall "set.__new__" ⟨[.type "set",a],[]⟩;again (.builtin "set.__new__" ⟨[.type "set",a],[]⟩)) _ _ s;refine ae (qu (F.newCall_set_1 a) (ao ⟨kq F.plain_set_new _,gh F.entry_set_new ?_⟩));rw[fz F.plain_set_new _];unfold Builtin.«set.__new__» Builtin.Frozenset.newClass;have hsub:=sub_set_self;obtain⟨hp,g,d,tk,os⟩:=s;dsimp only
 wp_walk
 refine jm (ao ?_);dsimp only;simp only[newObj];refine ae (wpAny_alloc (ao ?_));exact ao h
def aIS (h:jp):aCc w h.objs.size [] (h.push (smO w #[] 0 [])):=⟨#[],0,bg _ rfl,jB 8 [] .nil (λk z=>by cases z),rfl,λe he=>by cases he⟩
def aCQ {s:wv}{l:ww}{items:Array wn}{ns:List Nat}(hh:A.handled=none)(hl:s.heap.IsTuple l items)(hi:IntsAre items.toList (ns.map Int.ofNat))(h8:∀k∈ns,k<8)(h:∀(h':jp) (tk:Nat) (ks:List Nat),aCc w s.heap.objs.size ks h'->(∀j,j∈ks↔j∈ns)->(∀b o,b<s.heap.objs.size->s.heap.get? b=some o->h'.get? b=some o)->Q (.ref s.heap.objs.size) {s with heap:=h',toks:=tk}):
  v4 (v6 prog w) A (call (.type "set") [.ref l]) Q E s:=by
 obtain⟨c,tl,hmro⟩:=i8.mro;have hmade:=i8.made;have hsub:=i8.sub;refine wpAny_call (vk ?_);show v4 _ _ (callAny (.type "set") _) _ _ _;refine ao ⟨wj _ (by decide+kernel),gh F.entry_type_call ?_⟩;rw[Around.under_plain (Ax "set" [.ref l] []) rfl];have h1:=i8.notType;have h2:=i8.canCreate;have hct:=F.typeCall_set_1 (.ref l)
 repeat (any_goals (first|assumption|wp_step))
 refine jq (aJx (.ref l) (E:=E) (Q₁:=λobj s1=>obj=.ref s.heap.objs.size/\s1={s with heap:=s.heap.push (smO w #[] 0 [])}) ⟨rfl,rfl⟩) λr s1 hr=>?_;cases r with
 |error e=>exact hr
 |ok fl=>
  cases fl with
  |ret obj=>
   obtain⟨rfl,rfl⟩:=hr;have hS:(s.heap.push (smO w #[] 0 [])).get? s.heap.objs.size=some (smO w #[] 0 []):=bg _ rfl;have hT:Bo {s with heap:=s.heap.push (smO w #[] 0 [])} (.ref s.heap.objs.size) "set":=⟨_,hS,rfl⟩;have hli:=i8.init.lookup;have hbi:=i8.init.bind (.ref s.heap.objs.size)
   repeat (any_goals (first|assumption|wp_step))
   refine jq (AL (R:=wants (λr s2=>r=.none/\∃h' tk ks,s2={s with heap:=h',toks:=tk}/\aCc w s.heap.objs.size ks h'/\(∀j,j∈ks↔j∈ns)/\∀b o,b<s.heap.objs.size->s.heap.get? b=some o->h'.get? b=some o) E) i8.init.plain F.entry_set_init (check_set_init_1 hT ?_)) λr2 s2 hr2=>?_
   ·obtain⟨ol,hol,hcl,nl,hdl⟩:=hl;obtain⟨ocls,odict,odata,oslots⟩:=ol;simp only at hcl hdl;subst hcl;subst hdl;have hol':(s.heap.push (smO w #[] 0 [])).get? l=some {cls:=.type "tuple",dict:=odict,data:=.seq items nl,slots:=oslots}:=aj _ hol;have hsls:=aBO;have hslf:=aBY;have hne:(Value.type "tuple"==Value.type "dict")=false:=by decide
    have hl1:(s.heap.push (smO w #[] 0 [])).IsTuple l items:=⟨_,hol',rfl,nl,rfl⟩;have hlS:l<s.heap.objs.size:=bx hol;unfold Builtin.«set.__init__» noKeywords u9;generalize hPI:AQ=PI
    wp_walk
    subst hPI;refine sf hl1 ?_;refine ae (qi ?_);have hh3:A.in1.in1.in1.handled=none:=by simp[hh]
    have hneI:l≠(s.heap.push (smO w #[] 0 [])).objs.size:=by
     rw[f6];exact di (gk hlS)
    have hlen:items.size=ns.length:=by
     have:=IntsAre.len hi;simpa using this
    refine aLi ((Walks.tuple hh3 _ l hneI items).toS) s.heap.objs.size ?_ (λi=>ns.getD i 0) (λi v hlt hv=>?_) (λi hlt=>?_) (items.size-0) 0 [] _ (by lia) (bh _) ⟨⟨_,bg _ rfl,rfl,rfl⟩,hl1.push _⟩ ?_ (λj=>⟨λz=>(by cases z),λ⟨m,z,_⟩=>absurd z (i5 m)⟩) ?_
    ·rw[f6];simp only[b8,ja,or_false,not_or];exact⟨di (j6 _),jo hlS⟩
    ·obtain⟨t,e⟩:=IntsAre.int_at hi i v (by rw[ke];exact hv);refine⟨t,?_⟩;rw[e];rw[hlen] at hlt;simp[ak,ah hlt]
    ·rw[hlen] at hlt;rw[ak,ah hlt];exact h8 _ (f7 hlt)
    ·obtain⟨es,ep,a1,a2⟩:=aIS (w:=w) s.heap;exact⟨es,ep,aj _ a1,a2⟩
    ·intro ks' s' hm hS' hks;obtain⟨h',g',d',tk',os'⟩:=s';have eg:g'=s.gens:=hm.gens;have ed:d'=s.drawn:=hm.drawn;have eo:os'=s.os:=hm.os;subst eg ed eo;show v4 _ _ _ _ _ _;refine ao ?_;show v4 _ _ (ret Value.none) _ _ _;refine ao ⟨rfl,h',tk',ks',rfl,hS',λj=>?_,λb o hb e=>hm.heap b o ?_ (aj _ (aj _ e))⟩
     ·rw[hks j];constructor
      ·rintro⟨m,h1,h2⟩;rw[hlen] at h1;rw[ak,ah h1] at h2;rw[<- h2];exact f7 h1
      ·intro hj;obtain⟨m,h1,h2⟩:=nr hj;exact⟨m,by rw[hlen];exact h1,by rw[ak,ah h1];exact h2⟩
     ·rw[f6];simp only[b8,ja,or_false,not_or];exact⟨di hb,di (gk hb)⟩
   ·cases r2 with
    |error e=>exact hr2
    |ok fl2=>
     cases fl2 with
     |ret r=>
      obtain⟨rfl,h',tk,ks,rfl,hd⟩:=hr2
      repeat (any_goals (first|assumption|wp_step))
      exact h _ _ _ hd.1 hd.2.1 hd.2.2
     |_=>exact hr2.elim
  |_=>exact hr.elim
def tD:Manifest.owners.lookup (String.ofList ['r','o','t','a','r','e','t','i','_','t','e','s'].reverse)=some Manifest.sig_set_iterator:=by kernel_rfl
def aU:Slot "set_iterator" "__next__" "set_iterator.__next__":=
 .of (owner:="set_iterator") (n:="__next__") (by rw[typeLookup_type,Ay];kernel_rfl) (by decide+kernel) (by decide+kernel) (by decide+kernel)
  (by first|exact .inl (by decide+kernel)|exact .inr (by decide+kernel)) (by rw[uh];kernel_rfl)
def cZ:entryFor table "set_iterator.__next__"=some Builtin.«set_iterator.__next__»:=entryFor_of_tree (by kernel_rfl)
def dF (a:wn):argsOk "set_iterator.__next__" ⟨[a],[]⟩:=by
 unfold argsOk;rw[signature?_of (id:="set_iterator.__next__") (n:=['_','_','t','x','e','n','_','_']) (o:=['r','o','t','a','r','e','t','i','_','t','e','s']) (by kernel_rfl) tD];kernel_rfl
def jT:entryFor table "set.__iter__"=some Builtin.«frozenset.__iter__»:=
 entryFor_alias (id':="frozenset.__iter__") (by kernel_rfl) rfl (by decide+kernel) (by kernel_rfl)
def SIt (it a:ww)(slot i n ep:Nat)(h:jp):Prop:=∃o,h.get? it=some o/\o.cls=.type "set_iterator"/\o.data=.fields #[jw slot,jw i,.ref a,jw n,jw ep]
def bU (w:xj)(ks:List Nat):Nat->Nat
 |0=>0
 |i+1=>if byT w then 0 else ks.getD i 0+1
def cF (w:xj)(a:ww)(ep:Nat)(es:Array (Int×wn)):Array (Int×wn):=if byT w then pickOrder (w.params.setOrder a ep) es else es
def dY (w:xj)(a:ww)(ep:Nat)(es:Array (Int×wn)):(cF w a ep es).toList.Perm es.toList:=by
 unfold cF;split
 ·exact aFy _ _
 ·exact .refl _
def aIx (ho:s.heap.get? a=some (smO w es ep ks))(hf:(smT (!byT w) ks).fits es.size=true)(h:Q false s):v4 (v6 prog w) A (setDrawn a) Q E s:=by
 unfold setDrawn yb;refine ae (gy ho rfl hf (ae (ae (jm (ao ?_)))));refine ao ?_;have:(!(w.params.followText "set-order")&&(!(smT (!byT w) ks).plain&&decide (es.size > 1)))=false:=by
  rw[show(smT (!byT w) ks).plain=true from rfl];simp
 exact this▸h
def aLE (ho:s.heap.get? a=some (smO w es ep ks))(hf:(smT (!byT w) ks).fits es.size=true)(h:Q (.ref s.heap.objs.size) {s with heap:=s.heap.push {cls:=.type "set_iterator",data:=.fields #[jw 0,jw 0,.ref a,jw es.size,jw ep]}}):v4 (v6 prog w) A (AQ (.ref a)) Q E s:=by
 have hT:s.TypeIs (.ref a) "set":=⟨_,ho,rfl⟩;refine ub hT vv (fi vv hT jT ?g (F.args_set_iter_1 _))
 case g=>
 unfold Builtin.«frozenset.__iter__» yw yc;refine ae (ae (ao (ao ?_)));refine ae (ae (lq ho rfl hf (ao ?_)));refine ae (aIx ho hf ?_);rw[C4 (by exact cy)];refine ae (ao (ae (wpAny_setEpoch_of ho rfl hf ?_)));unfold newFields;refine ae (dz (ao ⟨_,rfl,"set_iterator",_,⟨_,bg _ rfl,rfl⟩,aU.lookup,?_⟩));exact h
def aDE (ho:s.heap.get? a=some (smO w es ep ks))(hE:SmE es ks)(hs:slot=bU w ks i)(hi:i<=es.size)(h:Q (((cF w a ep es)[i]?).map λe=>(e.2,bU w ks (i+1))) s):v4 (v6 prog w) A (A8 a slot i ep) Q E s:=by
 have hf:(smT (!byT w) ks).fits es.size=true:=by rw[hE.size];exact jN hE.1 _
 unfold A8 yb;refine ae (gy ho rfl hf (ae (ae (jm (ao ?_)))));dsimp only;show v4 _ _ (if byT w=true then _ else _) _ _ _;cases hb:byT w with
 |true=>
  rw[C5 rfl,C4 (by simp)];unfold setWalk yb;refine ae (ae (gy ho rfl hf (ae (ae (jm (ao ?_))))));dsimp only;show v4 _ _ (if byT w=true then _ else _) _ _ _;rw[C5 hb];refine ae (jm (ao (ao ?_)));unfold cF at h;rw[C5 hb] at h;have e1:bU w ks (i+1)=slot:=by
   rw[hs];cases i with
   |zero=>simp[bU,hb]
   |succ i=>simp[bU,hb]
  rw[e1] at h;exact h
 |false=>
  rw[C4 (by simp)];rw[C4];rotate_left
  ·show ¬((!true&&decide (es.size > 1))=true);simp
  refine ae (qu (a:=()) rfl ?_);refine ao ?_;unfold cF at h;rw[hb,C4 (by simp)] at h;obtain⟨z0,z1⟩:=aKv hE.1;have eb:b7 ks.toArray slot=i:=by
   rw[hs];cases i with
   |zero=>exact z0
   |succ i=>
    show b7 ks.toArray (if byT w then 0 else ks.getD i 0+1)=i+1;rw[hb,C4 (by simp)];exact z1 i (by rw[<- hE.size];lia)
  show Q (match es[b7 ks.toArray slot]?,ks.toArray[b7 ks.toArray slot]? with
     |some (_,x),some j=>some (x,j+1)
     |_,_=>none) s
  rw[eb];by_cases c:i<es.size
  ·have c':i<ks.length:=by rw[<- hE.size];exact c
   rw[c8 c] at h ⊢;rw[iz,ah c'];have e2:bU w ks (i+1)=ks[i]+1:=by
    show(if byT w then 0 else ks.getD i 0+1)=_;rw[hb,C4 (by simp),ak,ah c'];rfl
   rw[e2] at h;exact h
  ·rw[ij (by lia)] at h ⊢;exact h
def SIt.step (x:SIt it a slot i n ep h):SIt it a slot' (i+1) n ep ((h.update it (vb (·.setIfInBounds 0 (jw slot')))).update it (vb (·.setIfInBounds 1 (jw ((i:Int)+1))))):=by
 obtain⟨o,h1,h2,h3⟩:=x;have d1:=mm h3 (·.setIfInBounds 0 (jw slot'));have g1:=iy (vb (·.setIfInBounds 0 (jw slot'))) h1 (mj d1);have d2:=mm d1 (·.setIfInBounds 1 (jw ((i:Int)+1)));exact⟨_,iy _ g1 (mj d2),(xt ..).trans ((xt ..).trans h2),by rw[d2];simp[jw]⟩
def SIt.typeIs {s:wv}{a:ww}{ep:Nat}{it:ww}{slot i n:Nat}(x:SIt it a slot i n ep s.heap):s.TypeIs (.ref it) "set_iterator":=let⟨o,h1,h2,_⟩:=x;⟨o,h1,h2⟩
def aJe (hit:SIt it a (bU w ks i) i es.size ep s.heap)(ho:s.heap.get? a=some (smO w es ep ks))(hE:SmE es ks)(hx:(cF w a ep es)[i]?=some e)(hi:i<es.size)(q:∀h',SIt it a (bU w ks (i+1)) (i+1) es.size ep h'->gp it s.heap h'->Q (some e.2) {s with heap:=h'}):v4 (v6 prog w) A (qf (.ref it)) Q E s:=by
 have hf:(smT (!byT w) ks).fits es.size=true:=by rw[hE.size];exact jN hE.1 _
 have hT:=hit.typeIs;obtain⟨oi,hi1,hi2,hi3⟩:=id hit;unfold qf;refine ae (nq (fh (name:=i7 "__next__") hT aU (fi aU hT cZ ?g (dF _))))
 case g=>
 unfold Builtin.«set_iterator.__next__» slotArgs;refine ae (ao (ae (w8 hi1 hi3 ?_)));refine ae (lq ho rfl hf ?_);rw[C4 (by simp)];show v4 _ _ (A8 a (bU w ks i:Int).toNat (i:Int).toNat (ep:Int).toNat >>= _) _ _ s;rw[cv,cv,cv];refine ae (aDE ho hE rfl (i6 hi) ?_);rw[hx];show v4 _ _ (Bn (.ref it) 0 (jw (bU w ks (i+1))) >>= _) _ _ s;refine ae (mx hi1 hi3 (by simp) ?_);have d1:=mm hi3 (·.setIfInBounds 0 (jw (bU w ks (i+1))));have g1:=iy (vb (·.setIfInBounds 0 (jw (bU w ks (i+1))))) hi1 (mj d1);refine ae (mx g1 d1 (by simp) ?_);exact ao ⟨_,rfl,ao (q _ (SIt.step hit) ((gu ..).trans (gu ..)))⟩
def aKu (hh:A.handled=none)(hit:SIt it a (bU w ks es.size) es.size es.size ep s.heap)(ho:s.heap.get? a=some (smO w es ep ks))(hE:SmE es ks)(q : ∀h',yp it s.heap h'->Q none {s with heap:=h'}):v4 (v6 prog w) A (qf (.ref it)) Q E s:=by
  have hf:(smT (!byT w) ks).fits es.size=true:=by rw[hE.size];exact jN hE.1 _
  have hT:=hit.typeIs;obtain⟨oi,hi1,hi2,hi3⟩:=id hit;unfold qf;refine ae (nq (fh (name:=i7 "__next__") hT aU (fi aU hT cZ ?g (dF _))))
  case g =>
  unfold Builtin.«set_iterator.__next__» slotArgs;refine ae (ao (ae (w8 hi1 hi3 ?_)));refine ae (lq ho rfl hf ?_);rw[C4 (by simp)];show v4 _ _ (A8 a (bU w ks es.size:Int).toNat (es.size:Int).toNat (ep:Int).toNat >>= _) _ _ s;rw[cv,cv,cv];refine ae (aDE ho hE rfl (ar _) ?_);have hw:(cF w a ep es).size=es.size:=by rw[<- da,(dY w a ep es).length_eq,da]
  rw[ij (by lia)];show v4 _ _ (Bn (.ref it) 2 .none >>= _) _ _ s;refine ae (mx hi1 hi3 (by simp) ?_);show v4 _ _ (newExc (.type "StopIteration") [] >>= _) _ _ _;simp only[newExc,newTuple];refine ae (ae (dz (ae (m:=qk _ _) (qu (a:=Value.none) (by first|rfl|(simp only[qk];rfl)) (dz ?g (by size_fits)))) (by size_fits)))
  case g =>
  simp only[raiseNew];refine ae (Bm ?g)
  case g =>
  rw[show A.in1.handled=none from hh];refine ae (ao (Cd ?z))
  case z => refine ae (qr (T := "StopIteration") (b := true) ⟨_, bg _ rfl, rfl⟩ w5 ?z)
            case z=>exact ao (q _ (((gu ..).extBut.push _).push _))
end L2
namespace L2
open PySem PySem.Spec PySem.W PyProof.Rows
def dI:Slot "set_iterator" "__iter__" "set_iterator.__iter__":=
 .of (owner:="set_iterator") (n:="__iter__") (by rw[typeLookup_type,Ay];kernel_rfl) (by decide+kernel) (by decide+kernel) (by decide+kernel)
  (by first|exact .inl (by decide+kernel)|exact .inr (by decide+kernel)) (by rw[uh];kernel_rfl)
def iA:entryFor table "set_iterator.__iter__"=some Builtin.«dict_keyiterator.__iter__»:=
 entryFor_alias (id':="dict_keyiterator.__iter__") (by kernel_rfl) rfl (by decide+kernel) (by kernel_rfl)
def iT (a:wn):argsOk "set_iterator.__iter__" ⟨[a],[]⟩:=by
 unfold argsOk;rw[signature?_of (id:="set_iterator.__iter__") (n:=['_','_','r','e','t','i','_','_']) (o:=['r','o','t','a','r','e','t','i','_','t','e','s']) (by kernel_rfl) tD];kernel_rfl
def SIt.at (x:SIt it a sl i n ep h)(e:∀o,h.get? it=some o->h'.get? it=some o):SIt it a sl i n ep h':=let⟨o,ho,r⟩:=x;⟨o,e _ ho,r⟩
def aJj (hh:A.handled=none)(I a:ww)(hne:a≠I)(ep:Nat)(hE:SmE es ks):
  Walks prog w A I [I,a] [I] es.size (λi v=>∃e,(cF w a ep es)[i]?=some e/\v=e.2) (λi h=>SIt I a (bU w ks i) i es.size ep h/\h.get? a=some (smO w es ep ks)) where
 sub:=λb hb=>by simp at hb;simp[hb]
 frame:=λ_ _ _ st hk=>⟨st.1.at λo e=>hk I (by simp) o e,hk a (by simp) _ st.2⟩
 item:=λi s Q E hi st hQ=>by
  have hw:(cF w a ep es).size=es.size:=by rw[<- da,(dY w a ep es).length_eq,da]
  refine aJe st.1 st.2 hE (c8 (by lia)) hi λh' hit' hs'=>?_;exact hQ _ h' s.toks ⟨_,c8 (by lia),rfl⟩ ⟨hit',by rw[hs'.2 a hne];exact st.2⟩ λb o hb e=>hs'.extBut b o (λh=>hb (by simp[h])) e
 done:=λs Q E st hQ=>aKu hh st.1 st.2 hE λh' he'=>hQ h' s.toks λb o hb e=>he' b o (λh=>hb (by simp[h])) e
 self:=λi s Q E st hQ=>by
  have hT:s.TypeIs (.ref I) "set_iterator":=SIt.typeIs st.1;refine ub hT dI (fi dI hT iA ?_ (iT _));show v4 _ _ (ret (.ref I)) _ _ s;exact ao ⟨_,rfl,"set_iterator",_,hT,aU.lookup,hQ⟩
theorem aFd:∀{vs:List wn}{ms:List Nat},vs.length=ms.length->(∀i (h:i<ms.length),∃t,vs[i]?=some (.int (Int.ofNat ms[i]) t))->IntsAre vs (ms.map Int.ofNat)
 |[],[],_,_=>.nil
 |[],_::_,h,_=>by cases h
 |_::_,[],h,_=>by cases h
 |v::vs,m::ms,h,q=>by
  obtain⟨t,e⟩:=q 0 (Nat.zero_lt_succ _);obtain rfl:v=.int (Int.ofNat m) t:=by simpa using e
  exact .cons _ t (aFd (by simpa using h) λi hi=>by
   obtain⟨t',e'⟩:=q (i+1) (Nat.succ_lt_succ hi);exact⟨t',by simpa using e'⟩)
def aIO (hE:SmE es ks)(hA:Cg (λi v=>∃e,(cF w a ep es)[i]?=some e/\v=e.2) acc es.size):∃ms:List Nat,ms.Perm ks/\IntsAre acc.toList (ms.map Int.ofNat):=by
 have hp:=dY w a ep es;have hw:(cF w a ep es).size=es.size:=by rw[<- da,hp.length_eq,da]
 have hk:((cF w a ep es).toList.map (·.1)).Perm (ks.map Int.ofNat):=by rw[<- hE.2.1];exact hp.map _
 have hm:(((cF w a ep es).toList.map (·.1)).map Int.toNat).Perm ks:=by
  have:=hk.map Int.toNat;rw[fg (f:=Int.ofNat)] at this;have e:(Int.toNat∘Int.ofNat)=(id:Nat->Nat):=by funext k;rfl
  rwa[e,A9] at this
 refine⟨_,hm,aFd ?_ ?_⟩
 ·rw[da,hA.1,af,af,da,hw]
 ·intro i hi;have hi':i<(cF w a ep es).size:=by simpa using hi
  obtain⟨v,hv⟩:∃v,acc[i]?=some v:=⟨acc[i]'(by rw[hA.1,<- hw];exact hi'),c8 _⟩;obtain⟨e,h1,h2⟩:=hA.2 i v hv;have me:e∈es.toList:=hp.mem_iff.mp (by rw[c8 hi'] at h1;rw[<- cf h1];exact Array.getElem_mem_toList _);obtain⟨t,z⟩:=hE.2.2 e me;have m1:e.1∈ks.map Int.ofNat:=by rw[<- hE.2.1];exact kc me
  obtain⟨k,_,ek⟩:=cw.mp m1;refine⟨t,?_⟩;rw[ke,hv,h2,z];congr 2;rw[c8 hi'] at h1;have h1:=cf h1;simp only[j7,u3,h1];rw[<- ek];rfl
def aDW (hT:s.TypeIs (.ref a) "set")(h:Q false s):v4 (v6 prog w) A (vw (.ref a)) Q E s:=by
 unfold vw;refine ae (wpAny_specialOf hT PySem.F.slot_set_len.lookup ?_);generalize hid:("set.__len__":String)=id0
 wp_delta
 rw[show splitId id0=some ("set","__len__") from by subst hid;decide+kernel];subst hid;refine ae (qr (T:="set") (b:=true) hT (by rw[uh];kernel_rfl) ?_);refine wpAny_ite_split (λhab=>absurd hab (by decide)) (λ_=>?_);refine wpAny_ite_split (λ_=>?_) (λhab=>absurd (by decide+kernel) hab);refine ae (ot hT ?_);exact ao h
def aOy (hE:SmE es ks):KdlSrc prog w "set" a a es.size (λi v=>∃e,(cF w a ep es)[i]?=some e/\v=e.2) (λh=>h.get? a=some (smO w es ep ks)) where
 type:=λ_ hm=>⟨_,hm,rfl⟩
 there:=λ_ hm=>⟨bx hm,bx hm⟩
 keep:=λ_ _ hm hk=>hk a (.inl rfl) _ hm
 notList:=by decide
 notTuple:=by decide
 hint:=λ_ _ s _ hm hq=>aDW ⟨_,hm,rfl⟩ hq
 iter:=λA s hh hm=>⟨{cls:=.type "set_iterator",data:=.fields #[jw 0,jw 0,.ref a,jw es.size,jw ep]},_,(λ_ _ hq=>aLE hm (by rw[hE.size];exact jN hE.1 _) hq),aJj hh _ a (di (bx hm)) ep hE,⟨⟨_,bg _ rfl,rfl,rfl⟩,aj _ hm⟩⟩
def aEr (hh:A.handled=none)(hS:aCc w a ks s.heap)(hQ:∀(h':jp) (tk:Nat) (acc:List wn) (ms:List Nat),ms.Perm ks->IntsAre acc (ms.map Int.ofNat)->(∀b o,s.heap.get? b=some o->h'.get? b=some o)->s.heap.objs.size<h'.objs.size->Q acc {s with heap:=h',toks:=tk}):v4 (v6 prog w) A (A2 (.ref a)) Q E s:=by
 obtain⟨es,ep,ho,hE⟩:=hS;have l8:=(kA hE.1).2.2;have ha:a<s.heap.objs.size:=bx ho;unfold A2
 let R1:BG->wv->Prop:=λr s'=>∃h' tk acc c,r=.ok (.ret (.ref s.heap.objs.size))/\s'={s with heap:=h',toks:=tk}/\h'.get? s.heap.objs.size=some {cls:=.type "list",dict:=none,data:=.seq acc c,slots:=#[]}/\(∀b o,s.heap.get? b=some o->h'.get? b=some o)/\Cg (λi v=>∃e,(cF w a ep es)[i]?=some e/\v=e.2) acc es.size
 refine ae (qi (jq (R:=R1) ?_ ?_))
 ·refine gh uk ?_;rw[fz um _];show v4 _ A.in1 (Cb [] >>= λl=>again (.builtin "list.__iadd__" ⟨[l,.ref a],[]⟩)) _ _ s;refine ae (dz ?_);refine ao ⟨kq m9 _,gh xw ?_⟩;rw[fz m9 _];have ho1:(s.heap.push {cls:=.type "list",data:=.seq ([]:List wn).toArray}).get? a=some (smO w es ep ks):=aj _ ho;have hS₁:(s.heap.push {cls:=.type "list",data:=.seq ([]:List wn).toArray}).get? s.heap.objs.size=some {cls:=.type "list",data:=.seq ([]:List wn).toArray}:=bg _ rfl;show v4 _ A.in1 (jy (.ref s.heap.objs.size) (.ref a) (.ref s.heap.objs.size)) _ _ {s with heap:=s.heap.push {cls:=.type "list",data:=.seq ([]:List wn).toArray}};exact kdl_extend (R:=R1) (s:={s with heap:=s.heap.push {cls:=.type "list",data:=.seq ([]:List wn).toArray}}) (aOy (prog:=prog) (w:=w) (a:=a) (ep:=ep) hE) hh ho1 s.heap.objs.size (jo ha) (jo ha) (.ref s.heap.objs.size) 0 hS₁ (λh' tk acc c hk hS' hA=>⟨h',tk,acc,c,rfl,rfl,hS',λb o e=>hk b o (di (bx e)) (aj _ e),hA⟩) (by rw[hE.size,ka];lia)
 ·rintro r s' ⟨h',tk,acc,c,rfl,rfl,hS',hk,hA⟩;obtain⟨ms,hm,hI⟩:=aIO hE hA;show v4 _ A (load s.heap.objs.size >>= _) _ _ _;refine ae (xk hS' ?_);exact ao (hQ h' tk acc.toList ms hm hI hk (bx hS'))
def aEQ {ks:List Nat}{ns:List Int}(h1:ns.Perm (ks.map Int.ofNat))(h2:ns.Pairwise (·<=·))(h3:ks.Pairwise (· < ·)):ns=ks.map Int.ofNat:=by
 refine rh (le:=(·<=·)) (λa b _ _ x y=>vx x y) h2 ?_ h1;rw[ph];exact h3.imp λx=>Int.ofNat_le.mpr (i6 x)
def aGD {s:wv}{a:ww}{ks:List Nat}(hh:A.handled=none)(hS:aCc w a ks s.heap)(q:∀(l:ww) (h':jp) (tk:Nat) (out:Array wn) (c:Nat),s.heap.objs.size<=l->(∀b o,s.heap.get? b=some o->h'.get? b=some o)->h'.get? l=some (kd "list" out c)->IntsAre out.toList (ks.map Int.ofNat)->Q (.ref l) {s with heap:=h',toks:=tk}):v4 (v6 prog w) A (call (.builtin "sorted") [.ref a]) Q E s:=by
 obtain⟨_,_,_,hk8,_⟩:=id hS;obtain⟨so,_,l8⟩:=kA hk8;refine qo Ck BN BO (BQ _) ?g1
 case g1=>
  unfold zk;refine ae (m:=checkCount "sorted" 1 1 _) (ao (ae (aEr hh hS λh1 tk acc ms hm hI hk hz=>?g2)))
  case g2=>
   have hl:acc.length=ks.length:=by rw[IntsAre.len hI,af,hm.length_eq]
   refine ae (sv ?g3 (by rw[hl,ka];lia))
   case g3=>
    have e2:(h1.push (kd "list" acc.toArray 0)).get? h1.objs.size=some (kd "list" acc.toArray 0):=bg _ rfl;show v4 _ _ _ _ _ {s with heap:=h1.push (kd "list" acc.toArray 0),toks:=tk};refine ae (f9 (fi AU ⟨_,e2,rfl⟩ Az (list_sort_tree (s:={s with heap:=h1.push (kd "list" acc.toArray 0),toks:=tk}) e2 hI (by lia) λout ns' a1 a2 a3=>⟨_,rfl,ao ⟨_,rfl,?g4⟩⟩) (AV _)))
    case g4=>
     obtain⟨c,he⟩:=sortedHeap_at (vs:=acc) (out:=out) e2;have en:=aEQ (a2.trans (hm.map _)) a3 so;rw[en] at a1;refine q h1.objs.size _ tk out c (i6 hz) (λb o e=>?_) he a1;have hb:b<h1.objs.size:=bx (hk b o e);rw[sortedHeap_old (di hb) (by rw[f6];exact gk hb)];exact aj _ (hk b o e)
def zK (ks:List Nat):List V:=ks.map λk=>V.int (Int.ofNat k)
def aOj (w:xj)(K:aa):List V->Hp->VK->Prop:=λvs H Q=>∃(a:ww) (ns:List Nat),vs=[.ref a]/\SqT K H a (zK ns)/\(∀k∈ns,k<8)/\∀p ks,H p=none->ks∈sK->(∀j,j∈ks↔j∈ns)->Q (.ref p) (upd H p (.ext (aCc w p ks)))
def aKa (w:xj):List V->Hp->VK->Prop:=λvs H Q=>∃(a:ww) (ks:List Nat),vs=[.ref a]/\H a=some (.ext (aCc w a ks))/\∀l,H l=none->Q (.ref l) (upd H l (.lst (zK ks)))
def aGE (hc:X.calm=true):CallR X (.type "set") (aOj X.w X.K):=by
 intro pins s σ H xs us Q I r ⟨a,ns,e,ha,h8,q⟩;subst e;obtain⟨u,rfl,ru⟩:=r.one;obtain rfl:u=Value.ref a:=ru;obtain⟨its,rv,pl,hz⟩:=I.tuple ha;have hv:Vals ((ns.map Int.ofNat).map V.int) its:=by rw[fg];exact rv
 refine aCQ (items:=its.toArray) (ns:=ns) (I.ok.hd hc) pl (by simpa using aGW hv) h8 λh' tk ks d1 dm d2=>?_;obtain⟨es,ep,o1,o2⟩:=id d1;exact⟨.ref s.heap.objs.size,_,I.laid (a:=s.heap.objs.size) (o:=.ext (aCc X.w s.heap.objs.size ks)) (λb u e=>d2 b u (bx e) e) (ar _) ⟨d1,⟨_,o1⟩,λh1 h2 ⟨es,ep,z1,z2⟩ k=>⟨es,ep,k _ z1,z2⟩⟩,rfl,q _ _ (I.hok.fresh (ar _)) o2.1 dm⟩
def aEL (hc:X.calm=true):CallR X (.builtin "sorted") (aKa X.w):=by
 intro pins s σ H xs us Q I r ⟨a,ks,e,ha,q⟩;subst e;obtain⟨u,rfl,ru⟩:=r.one;obtain rfl:u=Value.ref a:=ru;have hS:aCc X.w a ks s.heap:=(I.hok a _ ha).1;obtain⟨_,_,_,hk8,_⟩:=id hS;refine aGD (I.ok.hd hc) hS λl h' tk out c hl hk he hI=>?_;have hv:Vals (zK ks) out.toList:=by
  have:=pM hI;rw[fg] at this;exact this
 refine⟨.ref l,_,I.laid (a:=l) (t':=tk) (o:=.lst (zK ks)) hk hl ⟨?_,out.toList,c,hv,by simpa using he⟩,rfl,q l (I.hok.fresh hl)⟩;unfold zK;rw[af,ka];have:=(kA hk8).2.2;lia
def rSS (K:aa):List V->Hp->VK->Prop:=λvs H Q=>∃(a:ww) (ns:List Nat),vs=[.ref a]/\SqT K H a (zK ns)/\(∀k∈ns,k<8) /\
 ∀ks:List Nat,ks.Pairwise (· < ·)->(∀j,j∈ks↔j∈ns)->∀H',Same H H'->∀l,H' l=none->Q (.ref l) (upd H' l (.lst (zK ks)))
def tCl (t:TA):TA:=λσ H Q=>∃R:List V->Hp->Prop,t σ H R/\∀vs H1,R vs H1->Q vs H1
def aOA (h:PA X es t):PA X es (tCl t):=λpos pins s σ H Q I ⟨R,h1,h2⟩=>thn (h pos pins s σ H R I h1) λus s1 ⟨vs,H1,I1,r,q⟩=>⟨vs,H1,I1,r,h2 vs H1 q⟩
def aQr {K:aa}{x y:u8}{p p' pos pos':Pos}{e:ut}{es:List ut}{t:TA}(hK:X.K=K)(hc:X.calm=true)(hg:Gl X x)(hm:X.mg x=none)(hv:fm x=some (.builtin "sorted"))(hg':Gl X y)(hm':X.mg y=none)(hv':fm y=some (.type "set"))(ha:PA X (e::es) t)(hn:x≠"__name__":=by decide)(hdb:(x==("__debug__":u8))=false:=by decide)(hn':y≠"__name__":=by decide)(hdb':(y==("__debug__":u8))=false:=by decide)(he:fv (e::es) X.env=(false,eval e X.env)::fv es X.env:=by rfl)(hpl:(vc pos' (fv es X.env)).any (·.1)=false:=by rfl):PE X (.Call (.Name x p) [.Call (.Name y p') (e::es) [] pos'] [] pos) (tCB (rSS K) t):=by
 subst hK;have h1:PE X (.Call (.Name x p) [.Call (.Name y p') (e::es) [] pos'] [] pos) (tCB (aKa X.w) (aA (tCB (aOj X.w X.K) (tCl t)) aF)):=bF (aEL hc) hg hm hv (dJ (eY (aGE hc) hg' hm' hv' (aOA ha) hn' hdb' he hpl) aY) hn hdb;intro pins s σ H Q I h;refine h1 pins s σ H Q I ⟨_,h,λvs H1 ⟨a,ns,e1,e2,e3,e4⟩=>⟨a,ns,e1,e2,e3,λp ks hp hks hj=>?_⟩⟩;exact⟨p,ks,rfl,aB,λl hl=>e4 ks (kA hks).1 hj _ (aD hp _) l hl⟩
end L2
namespace L2
open PySem PySem.Spec PyProof.Rows
open PySem.SeqAt PySem.MeetsSeq3
def aGw {r q:List Int}:eqL (r.map Dt.int) (q.map Dt.int)=decide (r=q):=by
 by_cases h:r=q
 ·subst h;rw[At rfl,eQ]
 ·rw[Au h];cases c:eqL (r.map Dt.int) (q.map Dt.int) with
  |false=>rfl
  |true=>exact absurd (rH c) h
open PySem.SeqAt PySem.MeetsSeq
open AutoSeq1 (wpAny_loadPart')
end L2
namespace L2
open PySem PySem.Spec PyProof.Rows
def aHq (i:Int):u8:=i7 (ug i)
def aJz:fm "str"=some (.type "str"):=by decide+kernel
end L2
namespace L2
open PySem PySem.W PyProof.Rows
open PySem.SeqAt
def aHn (b:Bool)(bs:List Bool):((bc (bs.length+1)).any λj=>(b::bs).getD j false)=(b||(bc bs.length).any λj=>bs.getD j false):=by
 rw[l9,yo,BR];rfl
def aFu (hc:X.calm=true):CallR X (.builtin "any") (λvs H Q=>∃(a:ww) (bs:List Bool),vs=[.ref a]/\Sq X.K H a (bs.map V.bl)/\Q (.bl (bs.any id)) H):=by
 intro pins s σ H xs us Q I r ⟨a,bs,e,hq,q⟩;subst e;obtain⟨u,rfl,ru⟩:=r.one;obtain rfl:u=Value.ref a:=ru;refine call_any_walk (mW (I.ok.hd hc) I hq λits It fp wr S s2 rv hz W st hf hI=>?_);refine⟨It,fp,wr,its.length,_,S,λj=>bs.getD j false,rfl,W,st,λi v s' Q' E' hv hQ'=>?_,λh' tk hk=>?_⟩
 ·obtain⟨x,hx,rx⟩:=rv.getR hv;rw[bp] at hx;cases hb:bs[i]? with
  |none=>rw[hb] at hx;cases hx
  |some b=>
   rw[hb] at hx;obtain rfl:V.bl b=x:=by simpa using hx
   obtain rfl:v=Value.bool b:=rx;have:bs.getD i false=b:=by rw[ak,hb];rfl
   have hQ':Q' (bs.getD i false) s':=hQ';rw[this] at hQ';exact jc hQ'
 ·refine⟨.bl (bs.any id),H,hI h' tk hk,?_,q⟩;show Value.bool _=Value.bool _;congr 1;have hl:its.length=bs.length:=by rw[<- rv.length,af]
  rw[hl];clear q hq rv hl hz
  induction bs with
  |nil=>rfl
  |cons b bs ih=>rw[c5,aHn,yo];exact congrArg (λz=>b||z) ih
def Tri (K:aa)(H:Hp)(b:ww)(row:List Int):Prop:=∃(q:ww) (x y t z:Int),row=[x,y,t,z]/\SqT K H b [.int x,.int y,.ref q]/\SqT K H q ([t,z].map V.int)
def aPv (K:aa)(H:Hp)(xs:List V)(T:List (List Int)):Prop:=xs.length=T.length/\∀(i:Nat) (row:List Int),T[i]?=some row->∃b,xs[i]?=some (.ref b)/\Tri K H b row
def aPg (K:aa):List V->Hp->VK->Prop:=λvs H Q=>∃(a:ww) (bs:List Bool),vs=[.ref a]/\Sq K H a (bs.map V.bl)/\Q (.bl (bs.any id)) H
def aAx {K:aa}(hK:X.K=K)(hc:X.calm=true):CallR X (.builtin "any") (aPg K):=by subst hK;exact aFu hc
def aJv:fm "any"=some (.builtin "any"):=by decide+kernel
end L2
namespace L2
open PySem PySem.Spec PyProof.Rows
def xA {pl:List Nat}(ris:pl.Pairwise (· < ·)){i m x y:Nat}(h:i<m)(hx:pl[i]?=some x)(hy:pl[m]?=some y):x<y:=by
 obtain⟨h1,rfl⟩:=ai.mp hx;obtain⟨h2,rfl⟩:=ai.mp hy;exact qm.mp ris i m h1 h2 h
theorem aBS {pl:List Nat}{j:Nat}(ris:pl.Pairwise (· < ·)):∀(f lo hi:Nat),hi<=pl.length->lo<=hi->hi-lo<=f->(∀i x,i<lo->pl[i]?=some x->x<j)->(∀i x,hi<=i->pl[i]?=some x->j<=x) ->
  pk pl.toArray j f lo hi<=pl.length/\(∀i x,i<pk pl.toArray j f lo hi->pl[i]?=some x->x<j)/\∀i x,pk pl.toArray j f lo hi<=i->pl[i]?=some x->j<=x
 |0,lo,hi,h1,h2,h3,h4,h5=>by
  have e:lo=hi:=by lia
  subst e;rw[pk];exact⟨h1,h4,h5⟩
 |f+1,lo,hi,h1,h2,h3,h4,h5=>by
  rw[pk];by_cases c:lo<hi
  ·rw[C5 c];have hm:(lo+hi) / 2<pl.length:=by lia
   have em:pl[(lo+hi) / 2]?=some pl[(lo+hi) / 2]:=ah hm;have eg:pl.toArray.getD ((lo+hi) / 2) j=pl[(lo+hi) / 2]:=by
    rw[dh,iz,em];rfl
   dsimp only;rw[eg];by_cases d:pl[(lo+hi) / 2]<j
   ·rw[C5 d];refine aBS ris f _ hi h1 (by lia) (by lia) (λi x hi' hx=>?_) h5;by_cases q:i=(lo+hi) / 2
    ·subst q;rw[em] at hx;cases hx;exact d
    ·have:=xA ris (show i<(lo+hi) / 2 by lia) hx em;lia
   ·rw[C4 d];refine aBS ris f lo _ (by lia) (by lia) (by lia) h4 λi x hi' hx=>?_;by_cases q:i=(lo+hi) / 2
    ·subst q;rw[em] at hx;cases hx;lia
    ·have:=xA ris (show(lo+hi) / 2<i by lia) em hx;lia
  ·rw[C4 c];have e:lo=hi:=by lia
   subst e;exact⟨h1,h4,h5⟩
def gF {pl:List Nat}(ris:pl.Pairwise (· < ·))(j:Nat):b7 pl.toArray j<=pl.length/\(∀i x,i<b7 pl.toArray j->pl[i]?=some x->x<j)/\∀i x,b7 pl.toArray j<=i->pl[i]?=some x->j<=x:=by
 unfold b7;refine aBS ris _ 0 _ (by simp) (bh _) (by simp) (λi x h=>absurd h (i5 _)) λi x h hx=>?_;have:i<pl.length:=(ai.mp hx).1;have:pl.toArray.size=pl.length:=by simp
 lia
def aHZ {pl:List Nat}(ris:pl.Pairwise (· < ·)){i j:Nat}(h:pl[i]?=some j):b7 pl.toArray j=i:=by
 obtain⟨b1,b2,b3⟩:=gF ris j;rcases uc (b7 pl.toArray j) i with c|c|c
 ·have hl:b7 pl.toArray j<pl.length:=BS c (ai.mp h).1;have e:=ah hl;have:=b3 _ _ (ar _) e;have:=xA ris c e h;lia
 ·exact c
 ·have:=b2 i j c h;lia
def aEa {pl:List Nat}(ris:pl.Pairwise (· < ·)){i j:Nat}(h:pl[i]?=some j):b7 pl.toArray (j+1)=i+1:=by
 obtain⟨b1,b2,b3⟩:=gF ris (j+1);have hi:=(ai.mp h).1;rcases uc (b7 pl.toArray (j+1)) (i+1) with c|c|c
 ·have:=b3 i j (by lia) h;lia
 ·exact c
 ·have hl:i+1<pl.length:=by lia
  have e:=ah hl;have:=b2 _ _ c e;have:=xA ris (j6 i) h e;lia
def aEp {pl:List Nat}(ris:pl.Pairwise (· < ·)):b7 pl.toArray 0=0:=by
 obtain⟨b1,b2,b3⟩:=gF ris 0;refine dn λc=>?_;have hl:0<pl.length:=by lia
 have:=b2 0 _ (by lia) (ah hl);lia
def slot_in {t:SetTable}{pl:List Nat}(hp:t.place=pl.toArray)(ris:pl.Pairwise (· < ·)){i j:Nat}(h:pl[i]?=some j):t.slot j=.live i:=by
 unfold SetTable.slot;rw[hp];dsimp only;rw[aHZ ris h,iz,h,C5 (by simp)]
def aHL {t:SetTable}{pl:List Nat}(hp:t.place=pl.toArray)(hd:t.dummies=#[]){j:Nat}(h:j∉pl):t.slot j=.empty:=by
 unfold SetTable.slot;rw[hp,hd];dsimp only;have e1:(pl.toArray[b7 pl.toArray j]?==some j)=false:=by
  rw[<- jb];intro z;have:=xn z;rw[iz] at this;exact h (au this)
 have e2:AA #[] j=false:=by
  unfold AA;rw[<- jb];intro z;have:=xn z;simp at this
 rw[e1,e2];rfl
def rnL (mask i:Nat):List Nat:=(bc (jk mask i+1-i)).map (i + ·)
def aIn (mask:Nat):Nat->Nat->Nat->List Nat
 |0,_,_=>[]
 |f+1,i,p=>rnL mask i++aIn mask f (ib mask i p).1 (ib mask i p).2
inductive Fut (mask:Nat):SetTable.Probe->List Nat->Prop
 |nil (p):Fut mask p []
 |one (p) (x:Nat) (e:p.j=x):Fut mask p [x]
 |more (p:SetTable.Probe) (x:Nat) (L:List Nat) (e:p.j=x) (h0:0<p.more) (h:Fut mask {p with j:=p.j+1,more:=p.more-1} L):Fut mask p (x::L)
 |leap (p:SetTable.Probe) (x:Nat) (L:List Nat) (e:p.j=x) (h0:p.more=0) (h:Fut mask {p with j:=(ib mask p.i p.perturb).1,more:=jk mask (ib mask p.i p.perturb).1-(ib mask p.i p.perturb).1,i:=(ib mask p.i p.perturb).1,perturb:=(ib mask p.i p.perturb).2} L):Fut mask p (x::L)
theorem aFi (h:Fut mask {j:=(ib mask i pt).1,more:=jk mask (ib mask i pt).1-(ib mask i pt).1,i:=(ib mask i pt).1,perturb:=(ib mask i pt).2,dummy:=none} L):
  ∀(m j:Nat),Fut mask {j:=j,more:=m,i:=i,perturb:=pt,dummy:=none} ((bc (m+1)).map (j + ·)++L)
 |0,j=>by
  show Fut mask _ ((j+0)::L);exact .leap _ _ _ rfl rfl h
 |m+1,j=>by
  have e:(bc (m+1+1)).map (j + ·)=j::(bc (m+1)).map (j+1 + ·):=by
   rw[l9,de,fg];congr 1;exact qx λx _=>by show j+(x+1)=j+1+x;lia
  rw[e];exact .more _ _ _ rfl (Nat.succ_pos _) (aFi h m (j+1))
def aGS:i<=jk mask i:=by unfold jk;split<;>lia
theorem yZ:∀(f i pt:Nat),Fut mask {j:=i,more:=jk mask i-i,i:=i,perturb:=pt,dummy:=none} (aIn mask f i pt)
 |0,i,pt=>.nil _
 |f+1,i,pt=>by
  have:=aFi (yZ f (ib mask i pt).1 (ib mask i pt).2) (jk mask i-i) i;show Fut mask _ ((bc (jk mask i+1-i)).map (i + ·)++_);have e:jk mask i+1-i=jk mask i-i+1:=by have:=aGS (mask:=mask) (i:=i);lia
  rw[e];exact this
theorem aHg {t:SetTable}{pl:List Nat}(hp:t.place=pl.toArray)(hd:t.dummies=#[])(ris:pl.Pairwise (· < ·))(hs:Nat->Int)(h:Int):∀(L:List Nat) (f:Nat) (p:SetTable.Probe),Fut t.mask p L->p.dummy=none->L.length<=f->(∃x∈L,x∉pl) ->
  (∃L1 x L2,L=L1++x::L2/\(∀y∈L1,y∈pl)/\x∉pl/\(∀i y,y∈L1->pl[i]?=some y->hs i≠h)/\yd t hs h f p=some (.empty x none)) \/
  (∃L1 x L2 i nx,L=L1++x::L2/\(∀y∈L1,y∈pl)/\pl[i]?=some x/\hs i=h/\yd t hs h f p=some (.candidate x i nx))
 |[],f,p,_,_,_,⟨_,z,_⟩=>by cases z
 |x::L,0,p,_,_,hl,_=>by simp at hl
 |x::L,f+1,p,fu,pd,hl,⟨y,hy,hn⟩=>by
  have ej:p.j=x:=by cases fu<;>assumption
  rw[yd];by_cases hx:x∈pl
  ·obtain⟨i,hi⟩:=gi.mp hx;rw[ej,slot_in hp ris hi];dsimp only;by_cases c:hs i=h
   ·rw[C5 (by simp[c])];exact .inr ⟨[],x,L,i,_,rfl,by simp,hi,c,rfl⟩
   ·rw[C4 (by simp[c])];have hy:y∈L:=(b8.mp hy).resolve_left λe=>hn (e▸hx);have step:Fut t.mask (t.advance p) L/\(t.advance p).dummy=none:=by
     unfold SetTable.advance;cases fu with
     |one=>cases hy
     |more _ _ _ _ h0 fu=>rw[C5 h0];exact⟨fu,pd⟩
     |leap _ _ _ _ h0 fu=>rw[C4 (by lia)];exact⟨fu,pd⟩
    have hl':L.length<=f:=by simpa using hl
    rcases aHg hp hd ris hs h L f _ step.1 step.2 hl' ⟨y,hy,hn⟩ with⟨L1,z,L2,e,q1,q2,q3,q4⟩|⟨L1,z,L2,k,nx,e,q1,q2,q3,q4⟩
    ·refine .inl ⟨x::L1,z,L2,by rw[e];rfl,λv hv=>?_,q2,λi' v hv hi'=>?_,q4⟩
     ·rcases b8.mp hv with rfl|hv
      ·exact hx
      ·exact q1 v hv
     ·rcases b8.mp hv with rfl|hv
      ·have:i'=i:=by
        rcases uc i' i with q|q|q
        ·have:=xA ris q hi' hi;lia
        ·exact q
        ·have:=xA ris q hi hi';lia
       rw[this];exact c
      ·exact q3 i' v hv hi'
    ·refine .inr ⟨x::L1,z,L2,k,nx,by rw[e];rfl,λv hv=>?_,q2,q3,q4⟩;rcases b8.mp hv with rfl|hv
     ·exact hx
     ·exact q1 v hv
  ·rw[ej,aHL hp hd hx];dsimp only;rw[pd];exact .inl ⟨[],x,L,rfl,by simp,hx,by simp,rfl⟩
def hT (k:List Int):Int:=reduceHash (Builtin.Tuple.tupleHashOf (k.map Cr))
def aPJ:Nat->List (List Int)
 |0=>[[]]
 |n+1=>aPJ n++(aPJ n).map (· ++ [(n:Int)])
def K28:List (List Int):=((aPJ 6).drop 1).take 62
def nR (mask:Nat):Nat:=if mask=7 then 22 else if mask=31 then 20 else 12
def SL (mask:Nat)(h:Int):List Nat:=aIn mask (nR mask) (nu h % (mask+1)) (nu h)
def aHz:List Nat->List Nat
 |[]=>[]
 |x::l=>if(aHz l).contains x then aHz l else x::aHz l
theorem zD:∀{l:List Nat}{x:Nat},x∈aHz l->x∈l
 |[],_,h=>h
 |y::l,x,h=>by
  rw[aHz] at h;split at h
  ·exact bq _ (zD h)
  ·rcases b8.mp h with rfl|h
   ·exact c7 ..
   ·exact bq _ (zD h)
theorem aCe:∀l:List Nat,(aHz l).Nodup
 |[]=>w9
 |x::l=>by
  rw[aHz];split
  ·exact aCe l
  ·rename_i h;exact jg.mpr ⟨λz=>h (uo.mpr z),aCe l⟩
theorem aLf {α:Type}[DecidableEq α]:∀(L M:List α),L.Nodup->(∀x∈L,x∈M)->L.length<=M.length
 |[],M,_,_=>bh _
 |x::L,M,nd,h=>by
  have nd':=jg.mp nd;have hx:=h x (c7 ..);have:=aLf L (M.erase x) nd'.2 λy hy=>(List.mem_erase_of_ne (λ(e:y=x)=>nd'.1 (by rw[<- e];exact hy))).mpr (h y (bq _ hy));rw[List.length_erase_of_mem hx] at this;have:0<M.length:=Ab hx;rw[c5];lia
def moM (mask:Nat):Nat:=if mask=7 then 5 else if mask=31 then 19 else 30
def slB (k:List Int)(m:Nat):Bool:=decide (moM m<=(aHz (SL m (hT k))).length)&&decide ((SL m (hT k)).length<=10*n5 m)&&(SL m (hT k)).all λx=>decide (x<=m)
def aNe:(K28.all λk=>slB k 7&&slB k 31&&slB k 127)=true:=by decide+kernel
def aPE:(K28.all λk=>K28.all λk'=>k==k' || !(hT k==hT k'))=true:=by decide+kernel
def aJE (h:k∈K28)(h':k'∈K28)(e:hT k=hT k'):k=k':=by
 have:=dk.mp (dk.mp aPE k h) k' h';rw[e,o7] at this;rcases this with z|z
 ·exact xn z
 ·simp at z
def M3 (mask:Nat):Prop:=mask=7\/mask=31\/mask=127
def aJl (h:k∈K28)(hm:M3 m):moM m<=(aHz (SL m (hT k))).length/\(SL m (hT k)).length<=10*n5 m/\∀x∈SL m (hT k),x<=m:=by
 have a:=dk.mp aNe k h;simp only[cz] at a;have b:slB k m=true:=by
  rcases hm with rfl|rfl|rfl
  ·exact a.1.1
  ·exact a.1.2
  ·exact a.2
 unfold slB at b;simp only[cz,decide_eq_true_eq,dk] at b;exact⟨b.1.1,b.1.2,b.2⟩
def aCm {k:List Int}(h:k∈K28){m:Nat}(hm:M3 m){pl:List Nat}(hl:pl.length<moM m):∃x∈SL m (hT k),x∉pl:=by
 refine dn λc=>?_;have:=aLf (aHz (SL m (hT k))) pl (aCe _) λx hx=>dn λz=>c ⟨x,zD hx,z⟩;have:=(aJl h hm).1;lia
def Rch (mask:Nat)(pl:List Nat)(h:Int)(j:Nat):Prop:=∃L1 L2,SL mask h=L1++j::L2/\∀x∈L1,x∈pl
def Rch.mono (r:Rch mask pl h j)(s:∀x∈pl,x∈pl'):Rch mask pl' h j:=
 let⟨L1,L2,e,q⟩:=r;⟨L1,L2,e,λx hx=>s x (q x hx)⟩
abbrev Us:=List (List Int×ww)
structure Ptb (mask:Nat)(pl:List Nat)(us:Us):Prop where
 m:M3 mask
 len:pl.length=us.length
 ris:pl.Pairwise (· < ·)
 nd:(us.map (·.1)).Nodup
 mem:∀u∈us,u.1∈K28
 lim:us.length<=28
 rch:∀(i:Nat) (u:List Int×ww) (j:Nat),us[i]?=some u->pl[i]?=some j->Rch mask pl (hT u.1) j
def esO (us:Us):Array (Int×wn):=(us.map λu=>(hT u.1,Value.ref u.2)).toArray
def aHi (us:Us){i:Nat}{u:List Int×ww}(h:us[i]?=some u):((esO us)[i]?.map (·.1)).getD 0=hT u.1:=by
 unfold esO;rw[iz,bp,h];rfl
def aKZ {t:SetTable}{pl:List Nat}{us:Us}{k:List Int}(hs:Nat->Int)(hh:∀(i:Nat) (u:List Int×ww),us[i]?=some u->hs i=hT u.1)(P:Ptb t.mask pl us)(hp:t.place=pl.toArray)(hd:t.dummies=#[])(hl:pl.length<moM t.mask)(hk:k∈us.map (·.1)):
  ∃j i nx u,us[i]?=some u/\u.1=k/\t.probe hs (hT k) (t.probeStart (hT k))=some (.candidate j i nx):=by
 obtain⟨u,hu,rfl⟩:=cw.mp hk;obtain⟨i,hi⟩:=gi.mp hu;have hil:i<pl.length:=by rw[P.len];exact(ai.mp hi).1
 have hj:=ah hil;obtain⟨M1,M2,eS,hM⟩:=P.rch i u _ hi hj;have fu:Fut t.mask (t.probeStart (hT u.1)) (SL t.mask (hT u.1)):=yZ _ _ _;unfold uj;rcases aHg hp hd P.ris hs (hT u.1) _ _ _ fu rfl (aJl (P.mem u hu) P.m).2.1 (aCm (P.mem u hu) P.m hl) with⟨L1,x,L2,e,q1,q2,q3,q4⟩|⟨L1,x,L2,i',nx,e,q1,q2,q3,q4⟩
 ·exfalso;have hin:pl[i]∈L1:=by
   rw[eS] at e;rcases List.append_eq_append_iff.mp e with⟨N,e1,e2⟩|⟨N,e1,e2⟩
   ·cases N with
    |nil=>
     simp at e2;exact absurd (e2.1▸f7 hil) q2
    |cons y N=>
     injection e2 with e3 e4;rw[e1,e3];exact du _ (c7 ..)
   ·cases N with
    |nil=>
     simp at e2;exact absurd (e2.1.symm▸f7 hil) q2
    |cons y N=>
     injection e2 with e3 e4;have:x∈M1:=by rw[e1,e3];exact du _ (c7 ..)
     exact absurd (hM x this) q2
  exact q3 i _ hin hj (hh i u hi)
 ·have hil':i'<us.length:=by rw[<- P.len];exact(ai.mp q2).1
  have hi':=ah hil';refine⟨x,i',nx,us[i'],hi',?_,q4⟩;rw[hh _ _ hi'] at q3;exact aJE (P.mem _ (f7 hil')) (P.mem u hu) q3
def aHT {t:SetTable}{pl:List Nat}{us:Us}{k:List Int}(hs:Nat->Int)(hh:∀(i:Nat) (u:List Int×ww),us[i]?=some u->hs i=hT u.1)(P:Ptb t.mask pl us)(hp:t.place=pl.toArray)(hd:t.dummies=#[])(hl:pl.length<moM t.mask)(hK:k∈K28)(hk:k∉us.map (·.1)):
  ∃j,j∉pl/\Rch t.mask pl (hT k) j/\t.probe hs (hT k) (t.probeStart (hT k))=some (.empty j none):=by
 have fu:Fut t.mask (t.probeStart (hT k)) (SL t.mask (hT k)):=yZ _ _ _;unfold uj;rcases aHg hp hd P.ris hs (hT k) _ _ _ fu rfl (aJl hK P.m).2.1 (aCm hK P.m hl) with⟨L1,x,L2,e,q1,q2,q3,q4⟩|⟨L1,x,L2,i',nx,e,q1,q2,q3,q4⟩
 ·exact⟨x,q2,⟨L1,L2,e,q1⟩,q4⟩
 ·exfalso;have hil':i'<us.length:=by rw[<- P.len];exact(ai.mp q2).1
  have hi':=ah hil';rw[hh _ _ hi'] at q3;exact hk (cw.mpr ⟨_,f7 hil',aJE (P.mem _ (f7 hil')) hK q3⟩)
def vW {α:Type}(l:List α)(p:Nat)(x:α):List α:=l.take p++x::l.drop p
def uY (l:List α)(p:Nat)(x:α):(vW l p x).Perm (x::l):=by
 unfold vW;refine zj.trans ?_;rw[As]
def zR (hp:p<=l.length)(h:(vW l p x)[i]?=some y):(i<p/\l[i]?=some y)\/(i=p/\y=x)\/(p<i/\l[i-1]?=some y):=by
 unfold vW at h;have lt:(l.take p).length=p:=by rw[dj];lia
 rcases uc i p with c|c|c
 ·rw[dg (by lia),m7 c] at h;exact .inl ⟨c,h⟩
 ·rw[c9 (by lia),lt,c,BU] at h;exact .inr (.inl ⟨c,(cf h).symm⟩)
 ·rw[c9 (by lia),lt] at h;obtain⟨m,hm⟩:∃m,i-p=m+1:=⟨i-p-1,by lia⟩;rw[hm,List.getElem?_cons_succ,mw] at h;exact .inr (.inr ⟨c,by rw[show i-1=p+m by lia];exact h⟩)
def aHD (ris:pl.Pairwise (· < ·))(hj:j∉pl):(vW pl (b7 pl.toArray j) j).Pairwise (· < ·):=by
 obtain⟨b1,b2,b3⟩:=gF ris j;have f1:∀x∈pl.take (b7 pl.toArray j),x<j:=λx hx=>by
  obtain⟨i,hi⟩:=gi.mp hx;have hl:=(ai.mp hi).1;rw[dj] at hl;rw[m7 (by lia)] at hi;exact b2 i x (by lia) hi
 have f2:∀x∈pl.drop (b7 pl.toArray j),j<x:=λx hx=>by
  obtain⟨i,hi⟩:=gi.mp hx;rw[mw] at hi;have:=b3 _ x (jn _ _) hi;have:x≠j:=λe=>hj (e▸au hi);lia
 unfold vW;refine my.mpr ⟨ris.take,mi.mpr ⟨f2,ris.drop⟩,λx hx y hy=>?_⟩;have:=f1 x hx;rcases b8.mp hy with rfl|hy
 ·exact this
 ·have:=f2 y hy;lia
section
variable {mask:Nat}{pl:List Nat}{us:Us}{k:List Int}
def Ptb.put (P:Ptb mask pl us)(hK:k∈K28)(hk:k∉us.map (·.1))(hj:j∉pl)(hr:Rch mask pl (hT k) j)(hlt:us.length<28):Ptb mask (vW pl (b7 pl.toArray j) j) (vW us (b7 pl.toArray j) (k,a)):=by
 obtain⟨b1,_,_⟩:=gF P.ris j;have pp:=uY pl (b7 pl.toArray j) j;have pu:=uY us (b7 pl.toArray j) (k,a);have sub:∀x∈pl,x∈vW pl (b7 pl.toArray j) j:=λx hx=>pp.mem_iff.mpr (bq _ hx);refine⟨P.m,by rw[pp.length_eq,pu.length_eq,c5,c5,P.len],aHD P.ris hj,?_,λu hu=>?_,by rw[pu.length_eq,c5];lia,λi u x hu hx=>?_⟩
 ·refine(pu.map (·.1)).nodup_iff.mpr ?_;exact jg.mpr ⟨hk,P.nd⟩
 ·rcases b8.mp (pu.mem_iff.mp hu) with rfl|hu
  ·exact hK
  ·exact P.mem u hu
 ·rcases zR (by rw[<- P.len];exact b1) hu with⟨c,h1⟩|⟨c,h1⟩|⟨c,h1⟩
  ·rcases zR b1 hx with⟨d,h2⟩|⟨d,h2⟩|⟨d,h2⟩
   ·exact(P.rch i u x h1 h2).mono sub
   ·lia
   ·lia
  ·rcases zR b1 hx with⟨d,h2⟩|⟨d,h2⟩|⟨d,h2⟩
   ·lia
   ·rw[h1,h2];exact hr.mono sub
   ·lia
  ·rcases zR b1 hx with⟨d,h2⟩|⟨d,h2⟩|⟨d,h2⟩
   ·lia
   ·lia
   ·exact(P.rch (i-1) u x h1 h2).mono sub
def aKE (us:Us)(p:Nat)(k:List Int)(a:ww):nc (esO us) p (hT k,.ref a)=esO (vW us p (k,a)):=by
 apply nz.mp;rw[rf];unfold esO vW;simp[pg,u5]
def aOi (pl:List Nat)(p j:Nat):nc pl.toArray p j=(vW pl p j).toArray:=by
 apply nz.mp;rw[rf];unfold vW;simp
structure Ow (mask:Nat)(owner:Array (Option Nat))(ps:List Nat):Prop where
 sz:owner.size=mask+1
 at_:∀i j,ps[i]?=some j↔owner.getD j none=some i
def Ow.free (O:Ow mask owner ps)(hx:x<=mask):(owner.getD x (some 0)).isNone=true↔x∉ps:=by
 have e:owner.getD x (some 0)=owner.getD x none:=by
  have:x<owner.size:=by rw[O.sz];lia
  rw[dh,dh,c8 this];rfl
 rw[e];constructor
 ·intro h z;obtain⟨i,hi⟩:=gi.mp z;rw[(O.at_ i x).mp hi] at h;cases h
 ·intro h;cases ho:owner.getD x none with
  |none=>rfl
  |some i=>exact absurd (au ((O.at_ i x).mpr ho)) h
theorem aGf (O:Ow mask owner ps):∀(R F i pt:Nat),R<=F->(∀x∈aIn mask R i pt,x<=mask)->(∃x∈aIn mask R i pt,x∉ps)->∃L1 x L2,aIn mask R i pt=L1++x::L2/\(∀y∈L1,y∈ps)/\x∉ps/\n9 mask owner F i pt=some x
 |0,F,i,pt,_,_,⟨x,hx,_⟩=>by cases hx
 |R+1,0,i,pt,h,_,_=>by lia
 |R+1,F+1,i,pt,h,hm,⟨x,hx,hn⟩=>by
  rw[n9];have hm1:∀x∈rnL mask i,x<=mask:=λx hx=>hm x (j3 _ hx);cases hf:(bc (jk mask i+1-i)).find? (λk=>(owner.getD (i+k) (some 0)).isNone) with
  |some k=>
   dsimp only;obtain⟨q1,as,bs,q2,q3⟩:=List.find?_eq_some_iff_append.mp hf;have er:rnL mask i=as.map (i + ·)++(i+k)::bs.map (i + ·):=by unfold rnL;rw[q2,c4,de]
   refine⟨as.map (i + ·),i+k,bs.map (i + ·)++aIn mask R (ib mask i pt).1 (ib mask i pt).2,?_,λy hy=>?_,?_,rfl⟩
   ·show rnL mask i++_=_;rw[er,gx];rfl
   ·obtain⟨m,hm',rfl⟩:=cw.mp hy;have:=q3 m hm';refine dn λc=>?_;have z:=(O.free (hm1 _ (by rw[er];exact j3 _ (kc hm')))).mpr c;rw[z] at this;cases this
   ·exact(O.free (hm1 _ (by rw[er];exact du _ (c7 ..)))).mp q1
  |none=>
   dsimp only;have all:∀y∈rnL mask i,y∈ps:=λy hy=>by
    have hy':=hm1 y hy;unfold rnL at hy;obtain⟨m,hm',rfl⟩:=cw.mp hy;refine dn λc=>?_;have:=List.find?_eq_none.mp hf m hm';exact this ((O.free hy').mpr c)
   have hx:x∈aIn mask R (ib mask i pt).1 (ib mask i pt).2:=by
    rcases cg.mp hx with hx|hx
    ·exact absurd (all x hx) hn
    ·exact hx
   obtain⟨L1,y,L2,e,q1,q2,q3⟩:=aGf O R F _ _ (by lia) (λx hx=>hm x (du _ hx)) ⟨x,hx,hn⟩;refine⟨rnL mask i++L1,y,L2,by show rnL mask i++_=_;rw[e,gx],λz hz=>?_,q2,q3⟩;rcases cg.mp hz with hz|hz
   ·exact all z hz
   ·exact q1 z hz
def Ow.step (O:Ow mask owner ps)(hj:j∉ps)(hm:j<=mask):Ow mask (owner.setIfInBounds j (some ps.length)) (ps++[j]):=by
 refine⟨by rw[Array.size_setIfInBounds,O.sz],λi x=>?_⟩;have hjs:j<owner.size:=by rw[O.sz];lia
 have e:(owner.setIfInBounds j (some ps.length)).getD x none=if j=x then some ps.length else owner.getD x none:=by
  rw[dh,dh,Array.getElem?_setIfInBounds];by_cases c:j=x
  ·subst c;rw[C5 rfl,C5 hjs,C5 rfl];rfl
  ·rw[C4 c,C4 c]
 rw[e];by_cases c:j=x
 ·subst c;rw[C5 rfl];constructor
  ·intro h;rcases BV i ps.length with d|d
   ·rw[dg d] at h;exact absurd (au h) hj
   ·have hl:=(ai.mp h).1;rw[aq] at hl;have:i=ps.length:=by simp at hl;lia
    rw[this]
  ·intro h;cases h;rw[c9 (ar _),BU];rfl
 ·rw[C4 c,<- O.at_];constructor
  ·intro h;rcases BV i ps.length with d|d
   ·rwa[dg d] at h
   ·rw[c9 d] at h;rcases br.mp (au h) with rfl;exact absurd rfl c
  ·intro h;rw[dg (ai.mp h).1];exact h
end
def aMe (mask:Nat)(acc:Option (Array (Option Nat)×Nat))(h:Int):Option (Array (Option Nat)×Nat):=do
 let(owner,k) <- acc
 let j <- n9 mask owner (n5 mask) (nu h % (mask+1)) (nu h)
 pure (owner.setIfInBounds j (some k),k+1)
def aPI (mask:Nat):nR mask<=n5 mask:=by
 unfold nR n5;split
 ·lia
 ·split<;>lia
theorem aFW (hm:M3 mask):∀(vs:Us) (owner:Array (Option Nat)) (ps:List Nat),Ow mask owner ps->(∀u∈vs,u.1∈K28)->ps.length+vs.length<=moM mask ->
  ∃owner' qs,(vs.map λu=>hT u.1).foldl (aMe mask) (some (owner,ps.length))=some (owner',ps.length+vs.length)/\Ow mask owner' (ps++qs)/\qs.length=vs.length/\∀(i:Nat) (u:List Int×ww) (j:Nat),vs[i]?=some u->qs[i]?=some j->Rch mask (ps++qs) (hT u.1) j
 |[],owner,ps,O,_,_=>⟨owner,[],rfl,by rw[ia];exact O,rfl,λi u j h=>by cases h⟩
 |u::vs,owner,ps,O,hK,hl=>by
  rw[c5] at hl;have hu:=hK u (c7 ..);have sl:=aJl hu hm;obtain⟨L1,x,L2,e,q1,q2,q3⟩:=aGf O (nR mask) (n5 mask) (nu (hT u.1) % (mask+1)) (nu (hT u.1)) (aPI mask) sl.2.2 (aCm hu hm (by lia));have hx:x<=mask:=sl.2.2 x (by show x∈aIn mask _ _ _;rw[e];exact du _ (c7 ..));have O':=O.step q2 hx;have ln:(ps++[x]).length=ps.length+1:=by rw[aq];rfl
  obtain⟨ow,qs,r1,r2,r3,r4⟩:=aFW hm vs _ (ps++[x]) O' (λv hv=>hK v (bq _ hv)) (by rw[ln];lia);have es:ps++[x]++qs=ps++x::qs:=by rw[gx];rfl
  rw[es] at r2 r4;refine⟨ow,x::qs,?_,r2,by rw[c5,r3];rfl,λi v j hv hj=>?_⟩
  ·rw[de,List.foldl_cons];have:aMe mask (some (owner,ps.length)) (hT u.1)=some (owner.setIfInBounds x (some ps.length),(ps++[x]).length):=by
    unfold aMe;rw[ln];show(n9 mask owner (n5 mask) (nu (hT u.1) % (mask+1)) (nu (hT u.1)) >>= _)=_;rw[q3];rfl
   rw[this,r1,ln,c5];congr 2;lia
  ·cases i with
   |zero=>
    cases hv;cases hj;exact⟨L1,L2,e,λy hy=>j3 _ (q1 y hy)⟩
   |succ i=>exact r4 i v j hv hj
def nT (mask:Nat)(owner:Array (Option Nat)):List (Nat×Nat):=(bc (mask+1)).filterMap λj=>(owner.getD j none).map (j,·)
def aId (O:Ow mask owner ps):(j,i)∈nT mask owner↔ps[i]?=some j:=by
 unfold nT;rw[rq,O.at_];constructor
 ·rintro⟨x,_,h⟩;obtain⟨y,hy,e⟩:=il.mp h;cases e;exact hy
 ·intro h;refine⟨j,fc.mpr ?_,by rw[h];rfl⟩;refine dn λc=>?_;rw[dh,ij (by rw[O.sz];lia)] at h;cases h
def aDb (owner:Array (Option Nat)):(nT mask owner).Pairwise λa b=>a.1<b.1:=by
 unfold nT;refine List.Pairwise.filterMap _ (λa b h x hx y hy=>?_) Ac;obtain⟨_,_,rfl⟩:=il.mp hx;obtain⟨_,_,rfl⟩:=il.mp hy;exact h
theorem aJP {α β:Type}{f:α->Option β}{g:α->β}:∀{l:List α},(∀x∈l,f x=some (g x))->l.filterMap f=l.map g
 |[],_=>rfl
 |x::l,h=>by rw[List.filterMap_cons_some (h x (c7 ..)),de,aJP λy hy=>h y (bq _ hy)]
def aGj (P:Ptb mask pl us)(t:SetTable)(hw:oh wanted-1=m')(hm:M3 m')(hl:us.length<=moM m'):∃pl' us' ord,t.relaid ((esO us).map (·.1)) wanted=some ({mask:=m',place:=pl'.toArray,dummies:=#[],finger:=t.finger,led:=t.led,moves:=t.movedTo m',plain:=t.plain},ord)/\ord.filterMap ((esO us)[·]?)=esO us'/\Ptb m' pl' us'/\us'.Perm us:=by
 have O0:Ow m' (vy (m'+1) none) []:=by
  refine⟨by simp,λi j=>?_⟩;constructor
  ·intro h;simp at h
  ·intro h;rw[dh] at h;by_cases c:j<m'+1
   ·rw[c8 (by simpa using c)] at h;simp at h
   ·rw[ij (by simpa using c)] at h;cases h
 obtain⟨ow,ps,r1,O,r3,r4⟩:=aFW hm us _ [] O0 P.mem (by rw[lg];lia);rw[List.nil_append] at O r4;have ml:=λj i=>aId O (j:=j) (i:=i);have sn:∀p∈nT m' ow,p.2<us.length:=λp hp=>by
  have:=(ml p.1 p.2).mp hp;rw[<- r3];exact(ai.mp this).1
 have ond:((nT m' ow).map (·.2)).Nodup:=by
  rw[List.nodup_iff_pairwise_ne,ph];refine List.Pairwise.imp_of_mem (λ{a b} ha hb hab e=>?_) (aDb ow);have h1:=(ml a.1 a.2).mp ha;have h2:=(ml b.1 b.2).mp hb;rw[e] at h1;rw[h1] at h2;have:=cf h2;lia
 have operm:((nT m' ow).map (·.2)).Perm (bc us.length):=by
  refine(qd ond List.nodup_range).mpr λi=>?_;rw[cw,fc];constructor
  ·rintro⟨p,hp,rfl⟩;exact sn p hp
  ·intro hi;have:=ah (show i<ps.length by lia);exact⟨(ps[i],i),(ml _ _).mpr this,rfl⟩
 have em:((nT m' ow).map (·.2)).filterMap (us[·]?)=(nT m' ow).map λp=>us.getD p.2 ([],0):=by
  rw[wa];refine aJP λp hp=>?_;show us[p.2]?=_;rw[ak,ah (sn p hp)];rfl
 have eu:(((nT m' ow).map (·.2)).filterMap (us[·]?)).Perm us:=by
  have:=operm.filterMap (us[·]?);rw[List.filterMap_getElem?_range_length us] at this;exact this
 refine⟨(nT m' ow).map (·.1),((nT m' ow).map (·.2)).filterMap (us[·]?),((nT m' ow).map (·.2)).toArray,?_,?_,?_,eu⟩
 ·unfold SetTable.relaid SetTable.laid SetTable.layClean;rw[hw];have eh:((esO us).map (·.1))=(us.map λu=>hT u.1).toArray:=by
   apply nz.mp;unfold esO;simp
  have ef:((us.map λu=>hT u.1).toArray.foldl (init:=some (vy (m'+1) none,0)) (aMe m')).map (·.1)=some ow:=by
   rw[<- Array.foldl_toList];show((us.map λu=>hT u.1).foldl (aMe m') (some (vy (m'+1) none,0))).map _=_;have:=r1;rw[lg] at this;rw[this];rfl
  rw[eh];show((((us.map λu=>hT u.1).toArray.foldl (init:=some (vy (m'+1) none,0)) (aMe m')).map (·.1)) >>= λowner=>_)=_;rw[ef];rfl
 ·apply nz.mp;rw[zy];unfold esO;rw[List.map_filterMap];congr 1;funext i;rw[iz,bp]
 ·refine⟨hm,by rw[eu.length_eq,af,<- operm.length_eq.trans e8,af],?_,(eu.map _).nodup_iff.mpr P.nd,λu hu=>P.mem u (eu.mem_iff.mp hu),by rw[eu.length_eq];exact P.lim,λa u j hu hj=>?_⟩
  ·rw[ph];exact aDb ow
  ·rw[em,bp] at hu;rw[bp] at hj;obtain⟨p,hp,rfl⟩:=il.mp hj;rw[hp] at hu;have hpm:=au hp;have hi:=sn p hpm;have eu':us[p.2]?=some u:=by
    have:us.getD p.2 ([],0)=u:=cf hu;rw[ak,ah hi] at this;rw[ah hi,<- this];rfl
   refine(r4 p.2 u p.1 eu' ((ml _ _).mp hpm)).mono λx hx=>?_;obtain⟨i,hi⟩:=gi.mp hx;exact cw.mpr ⟨(x,i),(ml _ _).mpr hi,rfl⟩
def spT (led:Bool)(mask:Nat)(pl:List Nat)(mv:Nat):SetTable:={mask:=mask,place:=pl.toArray,dummies:=#[],finger:=0,led:=led,moves:=mv,plain:=true}
abbrev spO (w:xj)(us:Us)(ep mask:Nat)(pl:List Nat)(mv:Nat):Obj:={cls:=.type "set",dict:=none,data:=.set (esO us) ep (spT (!byT w) mask pl mv)}
def aDs (w:xj)(a:ww)(us:Us)(h:jp):Prop:=∃ep mask pl mv,h.get? a=some (spO w us ep mask pl mv)/\Ptb mask pl us/\us.length*5<mask*3
def Ptb.few (P:Ptb mask pl us):us.length<=28:=P.lim
def gQ (P:Ptb mask pl us)(h:us.length*5<mask*3+5)(led:Bool)(mv:Nat):(spT led mask pl mv).fits (esO us).size=true:=by
 have l:=P.len;unfold spT SetTable.fits Bt esO;simp only[ay,af,lg,BM,cz,beq_iff_eq,decide_eq_true_eq];refine⟨l,?_⟩;rcases P.m with rfl|rfl|rfl<;>lia
def Ptb.room (P:Ptb mask pl us)(h:us.length*5<mask*3):pl.length<moM mask:=by
 have:=P.few;rw[P.len];rcases P.m with rfl|rfl|rfl
 ·show us.length<5;lia
 ·show us.length<19;lia
 ·show us.length<30;lia
def aBc (hk:j5 (j8 prog w) s.heap k b)(h:Q false s):v4 (v6 prog w) A (ud (m+1) (.ref b)) Q E s:=by
 have hT:=hk.typeIs;obtain⟨o,items,n,ho,_,hd,hi⟩:=hk;unfold ud;refine ae (ot hT ?_);dsimp only;refine ae (ao ?_);simp only[yx,gm,if_false];refine ae (i9 ho hd ?_);dsimp only;refine ae ?_;rw[<- Array.forIn_toList];refine qq _ (λrest r s'=>r.1=none/\s'=s/\∃ks:List Int,PySem.ItemsAre (j8 prog w) ks rest) _ ?_ ?_ _ _ ⟨rfl,rfl,_,hi⟩
 ·rintro v rest r s' ⟨hr,rfl,ks,hall⟩;cases hall with
  |cons hv hr'=>
   obtain⟨t,rfl⟩:=xh hv;have e:∀z:Int,ud m (.int z t)=pure false:=λz=>by unfold ud;cases m<;>rfl
   rw[e];refine ae (ao ?_);simp only[gm,if_false];exact ao ⟨rfl,rfl,_,hr'⟩
 ·rintro⟨r1,r2⟩ s' ⟨hr,rfl,_⟩;simp only at hr;subst hr;exact ao h
def aFI (hk:j5 (j8 prog w) s.heap k b)(h:Q true s):v4 (v6 prog w) A (Bb (m+1) (.ref b)) Q E s:=by
 have hT:=hk.typeIs;obtain⟨o,items,n,ho,_,hd,hi⟩:=hk;unfold Bb;refine ae (wpAny_specialOf hT F.slot_tuple_hash.lookup ?_);dsimp only;refine ae (i9 ho hd ?_);refine ae ?_;show v4 _ _ (forIn items _ _) _ _ s;rw[<- Array.forIn_toList];refine qq _ (λrest r s'=>r.1=none/\s'=s/\∃ks:List Int,PySem.ItemsAre (j8 prog w) ks rest) _ ?_ ?_ _ _ ⟨rfl,rfl,_,hi⟩
 ·rintro v rest r s' ⟨hr,rfl,ks,hall⟩;cases hall with
  |cons hv hr'=>
   obtain⟨t,rfl⟩:=xh hv;have e:∀z:Int,Bb m (.int z t)=pure true:=λz=>by unfold Bb;cases m<;>rfl
   rw[e];refine ae (ao ?_);simp only[yx,gm,if_false];exact ao ⟨rfl,rfl,_,hr'⟩
 ·rintro⟨r1,r2⟩ s' ⟨hr,rfl,_⟩;simp only at hr;subst hr;exact ao h
def aOl (hk:j5 (j8 prog w) s.heap k b)(ys:List wn)(hy:∀y∈ys,∃k' b',y=.ref b'/\j5 (j8 prog w) s.heap k' b')(h:Q false s):v4 (v6 prog w) A (searchCouldBeSeen (.ref b) ys) Q E s:=by
 unfold searchCouldBeSeen;refine ae ?_;refine qq _ (λrest r s'=>r.1=none/\s'=s/\∀y∈rest,∃k' b',y=.ref b'/\j5 (j8 prog w) s.heap k' b') _ ?_ ?_ _ _ ⟨rfl,rfl,hy⟩
 ·rintro v rest r s' ⟨hr,rfl,hall⟩;obtain⟨k',b',rfl,hk'⟩:=hall v c7;have hall':∀y∈rest,∃k' b',y=.ref b'/\j5 (j8 prog w) s'.heap k' b':=λy hy=>hall y (bq _ hy);dsimp only;split
  ·exact ao ⟨rfl,rfl,hall'⟩
  ·refine ae (AB hk ?_);simp only[yx,gm,if_false];refine ae (AB hk' ?_);simp only[yx,gm,if_false];refine ae (aBc hk ?_);simp only[gm,if_false];refine ae (aBc hk' ?_);simp only[gm,if_false];exact ao ⟨rfl,rfl,hall'⟩
 ·rintro⟨r1,r2⟩ s' ⟨hr,rfl,_⟩;simp only at hr;subst hr;exact ao h
def aLn (P:Ptb mask pl us)(led:Bool):(spT led mask pl mv).gaveWay=false:=by
 rcases P.m with rfl|rfl|rfl
 ·show(7 % 2==0)=false;decide
 ·show(31 % 2==0)=false;decide
 ·show(127 % 2==0)=false;decide
def aEV (hu:A.units<cLine)(ho:s.heap.get? a=some (spO w us ep mask pl mv))(P:Ptb mask pl us)(hf:us.length*5<mask*3)(hB:∀u∈us,j5 (j8 prog w) s.heap u.1 u.2)(hK:k∈K28)(hk:j5 (j8 prog w) s.heap k b)(q1:k∈us.map (·.1)->Q (.there none) s)(q2:k∉us.map (·.1)->∀j,j∉pl->Rch mask pl (hT k) j->Q (.free j false) s):v4 (v6 prog w) A (setSearch a (.ref b) (hT k) (adding:=true)) Q E s:=by
 have fits:=gQ P (by lia) (!byT w) mv;unfold setSearch setSearchFrom;refine ae (gy ho rfl fits ?_);dsimp only;rw[C4 (by rw[aLn P];exact cy)];by_cases hm:k∈us.map (·.1)
 ·obtain⟨j,i,nx,u,hi,ek,e⟩:=aKZ (t:=spT (!byT w) mask pl mv) (λi=>((esO us)[i]?.map (·.1)).getD 0) (λi u h=>aHi us h) P rfl rfl (P.room hf) hm;split
  ·rename_i met hmet;have em:met=.candidate j i nx:=cf (hmet.symm.trans e);subst em;dsimp only;have hu':=au hi;have stored:∀y∈(((esO us).filter (·.1==hT k)).toList.map (·.2)),∃k' b',y=Value.ref b'/\j5 (j8 prog w) s.heap k' b':=λy hy=>by
    obtain⟨z,hz,rfl⟩:=cw.mp hy;rw[Array.toList_filter] at hz;have hz:=(gr.mp hz).1;unfold esO at hz;obtain⟨v,hv,rfl⟩:=cw.mp hz;exact⟨v.1,v.2,rfl,hB v hv⟩
   have ei:(esO us)[i]?=some (hT u.1,.ref u.2):=by unfold esO;rw[iz,bp,hi];rfl
   rw[ei];dsimp only;by_cases c:(!(spT (!byT w) mask pl mv).led)=true
   ·rw[C5 c];refine ae (aOl hk _ stored ?_);rw[C4 cy];refine ae (f9 (wpAny_eqBool_tuple hu (hB u hu') hk ?_));refine ae (gy ho rfl fits ?_);dsimp only;rw[C5 (by simp[ek])];exact ao (q1 hm)
   ·rw[C4 c];refine ae (f9 (wpAny_eqBool_tuple hu (hB u hu') hk ?_));refine ae (gy ho rfl fits ?_);dsimp only;rw[C5 (by simp[ek])];exact ao (q1 hm)
  ·rename_i hno;exact absurd e (hno _)
 ·obtain⟨j,hj,hr,e⟩:=aHT (t:=spT (!byT w) mask pl mv) (λi=>((esO us)[i]?.map (·.1)).getD 0) (λi u h=>aHi us h) P rfl rfl (P.room hf) hK hm;split
  ·rename_i met hmet;have em:met=.empty j none:=cf (hmet.symm.trans e);subst em;dsimp only;exact ao (q2 hm j hj hr)
  ·rename_i hno;exact absurd e (hno _)
def aNw (led:Bool)(j:Nat):(spT led mask pl mv).put j=(spT led mask (vW pl (b7 pl.toArray j) j) mv,b7 pl.toArray j):=by
 unfold SetTable.put spT;have e2:AA #[] j=false:=by
  unfold AA;rw[<- jb];intro z;have:=xn z;simp at this
 dsimp only;rw[e2,aOi];rfl
def aKT (led:Bool):(spT led mask pl mv).tooFull=decide (pl.length*5≥mask*3):=by
 unfold SetTable.tooFull Bt spT;simp
def aIV {s:wv}{a:ww}{us:Us}{ep mask mv:Nat}{pl:List Nat}{us':Us}{m' wanted:Nat}(ho:s.heap.get? a=some (spO w us ep mask pl mv))(P:Ptb mask pl us)(hf:us.length*5<mask*3+5)(hw:oh wanted-1=m')(hz:¬oh wanted > cm)(hm:M3 m')(hl:us.length<=moM m')(q:∀h' us' ep' pl' mv',gp a s.heap h'->h'.get? a=some (spO w us' ep' m' pl' mv')->Ptb m' pl' us'->us'.Perm us->Q () {s with heap:=h'}):v4 (v6 prog w) A (setRelay a wanted) Q E s:=by
 have fits:=gQ P hf (!byT w) mv;obtain⟨pl',us',ord,e1,e2,P',pm⟩:=aGj P (spT (!byT w) mask pl mv) hw hm hl;unfold setRelay;refine ae (gy ho rfl fits ?_);dsimp only;rw[C4 hz,e1];refine ae ?_;have sz:(esO us').size=(esO us).size:=by unfold esO;simp[pm.length_eq]
 show v4 _ _ (if((ord.filterMap ((esO us)[·]?)).size != (esO us).size)=true then _ else pure (ord.filterMap ((esO us)[·]?),_)) _ _ _;rw[e2,C4 (by simp[sz])];refine ao ?_;have lz:(esO us').size<=cm:=by
  have:=P'.few;unfold esO;rw[ay,af,ka];lia
 refine ua ho rfl ?_ lz;exact q _ us' _ pl' _ (gu _ a _) (zT (ks:=[]) ho rfl) P' pm
def aMY (hu:A.units<cLine)(hS:aDs w a us s.heap)(hB:∀u∈us,j5 (j8 prog w) s.heap u.1 u.2)(hK:k∈K28)(hk:j5 (j8 prog w) s.heap k b)(hlt:k∉us.map (·.1)->us.length<28)(q:∀h' us' r,gp a s.heap h'->aDs w a us' h'->(k∈us.map (·.1)/\us'.Perm us\/k∉us.map (·.1)/\us'.Perm ((k,b)::us))->Q r {s with heap:=h'}):v4 (v6 prog w) A (Aw a (.ref b) (hT k)) Q E s:=by
 obtain⟨ep,mask,pl,mv,ho,P,hf⟩:=hS;have fits:=gQ P (by lia) (!byT w) mv;unfold Aw setAddHashedIn;refine f9 (ae (gy ho rfl fits ?_));dsimp only;rw[C4 (by unfold byScan;simp[Value.scannable])];refine ae (aEV hu ho P hf hB hK hk (λhm=>?_) λhm j hj hr=>?_)
 ·dsimp only;refine ao ?_;have e:s={s with heap:=s.heap}:=by cases s;rfl
  rw[e];exact q s.heap us _ (Heap.SameBut.refl a s.heap) ⟨ep,mask,pl,mv,ho,P,hf⟩ (.inl ⟨hm,.refl _⟩)
 ·dsimp only;refine ae (gy ho rfl fits ?_);dsimp only;rw[aNw];dsimp only;rw[C5 (show(spT (!byT w) mask (vW pl (b7 pl.toArray j) j) mv).plain=true from rfl)];refine ae (aFI hk ?_);rw[C5 rfl,aKE];have P1:=P.put (a:=b) hK hm hj hr (hlt hm);have pm:=uY us (b7 pl.toArray j) (k,b);have ln:(vW us (b7 pl.toArray j) (k,b)).length=us.length+1:=by rw[pm.length_eq,c5]
  have lp:(vW pl (b7 pl.toArray j) j).length=us.length+1:=by rw[P1.len,ln]
  have few:=P1.few;have lz:(esO (vW us (b7 pl.toArray j) (k,b))).size<=cm:=by
   unfold esO;rw[ay,af,ka];lia
  refine ae (ua ho rfl ?_ lz);have ho1:=zT (ks:=[]) (es':=esO (vW us (b7 pl.toArray j) (k,b))) (t':=spT (!byT w) mask (vW pl (b7 pl.toArray j) j) mv) ho rfl;have sb1:=gu s.heap a (BE (esO (vW us (b7 pl.toArray j) (k,b))) (spT (!byT w) mask (vW pl (b7 pl.toArray j) j) mv));have ez:(esO us).size=us.length:=by unfold esO;rw[ay,af]
  rw[aKT,lp,ez];by_cases c:(us.length+1)*5≥mask*3
  ·rw[C5 (by simp[c])];obtain⟨m',h1,h2,h3,h4,h5⟩:∃m',oh (ui (us.length+1))-1=m'/\¬oh (ui (us.length+1)) > cm/\M3 m'/\us.length+1<=moM m'/\(us.length+1)*5<m'*3:=by
    rcases P.m with rfl|rfl|rfl
    ·have e:us.length=4:=by lia
     rw[e];exact⟨31,by decide+kernel,by rw[ka];decide+kernel,.inr (.inl rfl),by decide,by decide⟩
    ·have e:us.length=18:=by lia
     rw[e];exact⟨127,by decide+kernel,by rw[ka];decide+kernel,.inr (.inr rfl),by decide,by decide⟩
    ·lia
   refine ae (aIV (us':=us) ho1 P1 (by rw[ln];lia) h1 h2 h3 (by rw[ln];exact h4) λh' us' ep' pl' mv' sb2 ho2 P2 pm2=>?_);exact ao (q h' us' _ (sb1.trans sb2) ⟨ep',m',pl',mv',ho2,P2,by rw[pm2.length_eq,ln];exact h5⟩ (.inr ⟨hm,pm2.trans pm⟩))
  ·rw[C4 (by simp[c])];exact ao (q _ _ _ sb1 ⟨_,mask,_,mv,ho1,P1,by rw[ln];lia⟩ (.inr ⟨hm,pm⟩))
def xS (x:j5 (j8 prog w) h k a)(e:∀o,h.get? a=some o->h'.get? a=some o):j5 (j8 prog w) h' k a:=
 let⟨o,items,n,ho,r⟩:=x;⟨o,items,n,e o ho,r⟩
def aKH {R:BG->wv->Prop}{I:ww}{fp wr:List ww}{G:Array GenState->Array GenState->Prop}{n:Nat}{St:Nat->wv->Prop}(hu:A.units+1<cLine)(W:WalksS prog w A.in1 I fp wr G n P St)(S:ww)(hSf:S∉fp)(val:Nat->List Int×ww)(hval:∀i v,i<n->P i v->v=.ref (val i).2)(h8:∀i,i<n->(val i).1∈K28)(hV:∀i,i<n->(val i).2∉S::wr)(h28:n<=28):
  ∀(k i:Nat) (us:Us) (s:wv),n-i=k->i<=n->St i s->aDs w S us s.heap->(∀m,m<n->j5 (j8 prog w) s.heap (val m).1 (val m).2)->(∀u∈us,∃m,m<i/\u=val m)->(∀m,m<i->(val m).1∈us.map (·.1)) ->
   (∀us' s',Moved (S::wr) G s s'->aDs w S us' s'.heap->(∀u∈us',∃m,m<n/\u=val m)->(∀m,m<n->(val m).1∈us'.map (·.1))->R (.ok (.ret .none)) s') ->
   ve (v6 prog w) A (.builtin "set.update.loop" ⟨[.ref S,.ref I],[]⟩) R s:=by
 have hSw:S∉wr:=λh=>hSf (W.sub _ h);have hsub:∀b∈wr,b∈S::wr:=λb hb=>bq _ hb;have up:∀{us:Us}{s s':wv},Moved wr G s s'->aDs w S us s.heap->aDs w S us s'.heap:=λhm ⟨ep,mk,pl,mv,ho,hE⟩=>⟨ep,mk,pl,mv,hm.heap S _ hSw ho,hE⟩;intro k
 induction k with
 |zero=>
  intro i us s hk hi hst hS hB hm1 hm2 hR;have hin:i=n:=by lia
  subst hin;refine gh nt ?_;rw[fz jz _];show v4 _ A.in1 (qf (.ref I) >>= _) _ _ s;refine ae (W.done s _ _ hst λs' hmv=>?_);show v4 _ A.in1 (ret Value.none) _ _ s';exact ao (hR us s' (hmv.mono hsub) (up hmv hS) hm1 hm2)
 |succ k ih=>
  intro i us s hk hi hst hS hB hm1 hm2 hR;have hlt:i<n:=by lia
  refine gh nt ?_;rw[fz jz _];show v4 _ A.in1 (qf (.ref I) >>= _) _ _ s;refine ae (W.item i s _ _ hlt hst λv s' hP hst' hmv=>?_);obtain rfl:=hval i v hlt hP;have hS':=up hmv hS;have hB':∀m,m<n->j5 (j8 prog w) s'.heap (val m).1 (val m).2:=λm hm=>xS (hB m hm) λo e=>hmv.heap _ _ (λz=>hV m hm (bq _ z)) e;have ul:us.length<=i:=by
   obtain⟨_,_,_,_,_,P',_⟩:=id hS';have:=aLf (us.map (·.1)) ((bc i).map λm=>(val m).1) P'.nd λk hk=>by
    obtain⟨u,hu',rfl⟩:=cw.mp hk;obtain⟨m,hm,rfl⟩:=hm1 u hu';exact cw.mpr ⟨m,fc.mpr hm,rfl⟩
   rw[af,af,e8] at this;exact this
  show v4 _ A.in1 (AX [Value.ref (val i).2] (setAdd S (.ref (val i).2)) >>= _) _ _ s';refine ae (f9 ?_);unfold setAdd;refine f9 ?_;refine ae (wpAny_pyHash_tuple (show A.in1.units<cLine from hu) (hB' i hlt) ?_);refine aMY (s:={s' with toks:=s'.toks+((val i).1.length+1)}) (k:=(val i).1) (show A.in1.units<cLine from hu) hS' (λu hu'=>by obtain⟨m,hm,rfl⟩:=hm1 u hu';exact hB' m (by lia)) (h8 i hlt) (hB' i hlt) (λ_=>by lia) λh' us' r hsb hS2 hcase=>?_;have nm1:∀u∈us',∃m,m<i+1/\u=val m:=λu hu'=>by
   rcases hcase with⟨_,pm⟩|⟨_,pm⟩
   ·obtain⟨m,h1,h2⟩:=hm1 u (pm.mem_iff.mp hu');exact⟨m,by lia,h2⟩
   ·rcases b8.mp (pm.mem_iff.mp hu') with rfl|hu'
    ·exact⟨i,by lia,rfl⟩
    ·obtain⟨m,h1,h2⟩:=hm1 u hu';exact⟨m,by lia,h2⟩
  have nm2:∀m,m<i+1->(val m).1∈us'.map (·.1):=λm hm=>by
   rcases hcase with⟨hc,pm⟩|⟨_,pm⟩
   ·refine(pm.map (·.1)).mem_iff.mpr ?_;rcases rg.mp hm with h1|rfl
    ·exact hm2 m h1
    ·exact hc
   ·refine(pm.map (·.1)).mem_iff.mpr ?_;rcases rg.mp hm with h1|rfl
    ·exact bq _ (hm2 m h1)
    ·exact c7 ..
  refine ao ⟨kq jz _,ih (i+1) _ _ (by lia) hlt (W.frame _ s' _ _ hst' (jn _ _) λb hb o e=>?_) hS2 (λm hm=>xS (hB' m hm) λo e=>?_) nm1 nm2 λus'' s'' hm'' hS'' hks1 hks2=>?_⟩
  ·rw[hsb.2 b (λh:b=S=>hSf (by rw[<- h];exact hb))];exact e
  ·rw[hsb.2 _ (λh:(val m).2=S=>hV m hm (by rw[h];exact c7))];exact e
  ·refine hR us'' s'' (Moved.trans W.gtrans ((hmv.mono hsub).then_heap (jn _ _) λb o hb e=>?_) hm'') hS'' hks1 hks2;rw[hsb.2 b (λh:b=S=>hb (by rw[h];exact c7))];exact e
def aIw (h:jp):aDs w h.objs.size [] (h.push (smO w #[] 0 [])):=⟨0,7,[],0,bg _ rfl,⟨.inl rfl,rfl,.nil,w9,(λu hu=>by cases hu),bh _,λi u j h=>by cases h⟩,by decide⟩
end L2
namespace L2
open PySem PySem.W PySem.Spec PyProof.Rows
def tY {α β:Type}{f:α->β}{R' R:List β}(h:R'.Perm R):∀qs:List α,R=qs.map f->∃qs':List α,qs'.Perm qs/\R'=qs'.map f:=by
 induction h with
 |nil=>exact λqs e=>⟨[],by cases qs with|nil=>exact .nil|cons _ _=>simp at e,rfl⟩
 |cons x _ ih=>
  intro qs e;cases qs with
  |nil=>simp at e
  |cons q qs=>
   rw[de,List.cons.injEq] at e;obtain⟨qs',p,e'⟩:=ih qs e.2;exact⟨q::qs',p.cons q,by rw[de,e.1,e']⟩
 |swap x y _=>
  intro qs e;cases qs with
  |nil=>simp at e
  |cons q qs=>
   cases qs with
   |nil=>simp at e
   |cons r qs=>
    simp only[de,List.cons.injEq] at e;exact⟨r::q::qs,.swap q r qs,by simp only[de];rw[e.1,e.2.1,e.2.2]⟩
 |trans _ _ ih1 ih2=>
  intro qs e;obtain⟨q2,p2,e2⟩:=ih2 qs e;obtain⟨q1,p1,e1⟩:=ih1 q2 e2;exact⟨q1,p1.trans p2,e1⟩
def aIk (ho:s.heap.get? a=some (spO w us ep mask pl mv))(hf:(spT (!byT w) mask pl mv).fits (esO us).size=true)(h:Q false s):v4 (v6 prog w) A (setDrawn a) Q E s:=by
 unfold setDrawn yb;refine ae (gy ho rfl hf (ae (ae (jm (ao ?_)))));refine ao ?_;have:(!(w.params.followText "set-order")&&(!(spT (!byT w) mask pl mv).plain&&decide ((esO us).size > 1)))=false:=by
  rw[show(spT (!byT w) mask pl mv).plain=true from rfl];simp
 exact this▸h
def aLQ (ho:s.heap.get? a=some (spO w us ep mask pl mv))(hf:(spT (!byT w) mask pl mv).fits (esO us).size=true)(h:Q (.ref s.heap.objs.size) {s with heap:=s.heap.push {cls:=.type "set_iterator",data:=.fields #[jw 0,jw 0,.ref a,jw (esO us).size,jw ep]}}):v4 (v6 prog w) A (AQ (.ref a)) Q E s:=by
 have hT:s.TypeIs (.ref a) "set":=⟨_,ho,rfl⟩;refine ub hT vv (fi vv hT jT ?g (F.args_set_iter_1 _))
 case g=>
 unfold Builtin.«frozenset.__iter__» yw yc;refine ae (ae (ao (ao ?_)));refine ae (ae (lq ho rfl hf (ao ?_)));refine ae (aIk ho hf ?_);rw[C4 (by exact cy)];refine ae (ao (ae (wpAny_setEpoch_of ho rfl hf ?_)));unfold newFields;refine ae (dz (ao ⟨_,rfl,"set_iterator",_,⟨_,bg _ rfl,rfl⟩,aU.lookup,?_⟩));exact h
def aGU (ho:s.heap.get? a=some (spO w us ep mask pl mv))(P:Ptb mask pl us)(hz:us.length*5<mask*3)(hs:slot=bU w pl i)(hi:i<=(esO us).size)(h:Q (((cF w a ep (esO us))[i]?).map λe=>(e.2,bU w pl (i+1))) s):v4 (v6 prog w) A (A8 a slot i ep) Q E s:=by
 have hf:(spT (!byT w) mask pl mv).fits (esO us).size=true:=gQ P (by lia) (!byT w) mv;have sz:(esO us).size=pl.length:=by unfold esO;rw[ay,af,P.len]
 unfold A8 yb;refine ae (gy ho rfl hf (ae (ae (jm (ao ?_)))));dsimp only;show v4 _ _ (if byT w=true then _ else _) _ _ _;cases hb:byT w with
 |true=>
  rw[C5 rfl,C4 (by simp)];unfold setWalk yb;refine ae (ae (gy ho rfl hf (ae (ae (jm (ao ?_))))));dsimp only;show v4 _ _ (if byT w=true then _ else _) _ _ _;rw[C5 hb];refine ae (jm (ao (ao ?_)));unfold cF at h;rw[C5 hb] at h;have e1:bU w pl (i+1)=slot:=by
   rw[hs];cases i with
   |zero=>simp[bU,hb]
   |succ i=>simp[bU,hb]
  rw[e1] at h;exact h
 |false=>
  rw[C4 (by simp)];rw[C4];rotate_left
  ·show ¬((!true&&decide ((esO us).size > 1))=true);simp
  refine ae (qu (a:=()) rfl ?_);refine ao ?_;unfold cF at h;rw[hb,C4 (by simp)] at h;have z0:=aEp P.ris;have eb:b7 pl.toArray slot=i:=by
   rw[hs];cases i with
   |zero=>exact z0
   |succ i=>
    show b7 pl.toArray (if byT w then 0 else pl.getD i 0+1)=i+1;rw[hb,C4 (by simp)];have hi':i<pl.length:=by rw[<- sz];lia
    rw[ak,ah hi'];exact aEa P.ris (ah hi')
  show Q (match (esO us)[b7 pl.toArray slot]?,pl.toArray[b7 pl.toArray slot]? with
     |some (_,x),some j=>some (x,j+1)
     |_,_=>none) s
  rw[eb];by_cases c:i<(esO us).size
  ·have c':i<pl.length:=by rw[<- sz];exact c
   rw[c8 c] at h ⊢;rw[iz,ah c'];have e2:bU w pl (i+1)=pl[i]+1:=by
    show(if byT w then 0 else pl.getD i 0+1)=_;rw[hb,C4 (by simp),ak,ah c'];rfl
   rw[e2] at h;exact h
  ·rw[ij (by lia)] at h ⊢;exact h
def aJk (hit:SIt it a (bU w pl i) i (esO us).size ep s.heap)(ho:s.heap.get? a=some (spO w us ep mask pl mv))(P:Ptb mask pl us)(hz:us.length*5<mask*3)(hx:(cF w a ep (esO us))[i]?=some e)(hi:i<(esO us).size)(q:∀h',SIt it a (bU w pl (i+1)) (i+1) (esO us).size ep h'->gp it s.heap h'->Q (some e.2) {s with heap:=h'}):v4 (v6 prog w) A (qf (.ref it)) Q E s:=by
 have hf:(spT (!byT w) mask pl mv).fits (esO us).size=true:=gQ P (by lia) (!byT w) mv;have hT:=hit.typeIs;obtain⟨oi,hi1,hi2,hi3⟩:=id hit;unfold qf;refine ae (nq (fh (name:=i7 "__next__") hT aU (fi aU hT cZ ?g (dF _))))
 case g=>
 unfold Builtin.«set_iterator.__next__» slotArgs;refine ae (ao (ae (w8 hi1 hi3 ?_)));refine ae (lq ho rfl hf ?_);rw[C4 (by simp)];show v4 _ _ (A8 a (bU w pl i:Int).toNat (i:Int).toNat (ep:Int).toNat >>= _) _ _ s;rw[cv,cv,cv];refine ae (aGU ho P hz rfl (i6 hi) ?_);rw[hx];show v4 _ _ (Bn (.ref it) 0 (jw (bU w pl (i+1))) >>= _) _ _ s;refine ae (mx hi1 hi3 (by simp) ?_);have d1:=mm hi3 (·.setIfInBounds 0 (jw (bU w pl (i+1))));have g1:=iy (vb (·.setIfInBounds 0 (jw (bU w pl (i+1))))) hi1 (mj d1);refine ae (mx g1 d1 (by simp) ?_);exact ao ⟨_,rfl,ao (q _ (SIt.step hit) ((gu ..).trans (gu ..)))⟩
def aLp (hh:A.handled=none)(hit:SIt it a (bU w pl (esO us).size) (esO us).size (esO us).size ep s.heap)(ho:s.heap.get? a=some (spO w us ep mask pl mv))(P:Ptb mask pl us)(hz:us.length*5<mask*3)(q : ∀h',yp it s.heap h'->Q none {s with heap:=h'}):v4 (v6 prog w) A (qf (.ref it)) Q E s:=by
  have hf:(spT (!byT w) mask pl mv).fits (esO us).size=true:=gQ P (by lia) (!byT w) mv;have hT:=hit.typeIs;obtain⟨oi,hi1,hi2,hi3⟩:=id hit;unfold qf;refine ae (nq (fh (name:=i7 "__next__") hT aU (fi aU hT cZ ?g (dF _))))
  case g =>
  unfold Builtin.«set_iterator.__next__» slotArgs;refine ae (ao (ae (w8 hi1 hi3 ?_)));refine ae (lq ho rfl hf ?_);rw[C4 (by simp)];show v4 _ _ (A8 a (bU w pl (esO us).size:Int).toNat ((esO us).size:Int).toNat (ep:Int).toNat >>= _) _ _ s;rw[cv,cv,cv];refine ae (aGU ho P hz rfl (ar _) ?_);have hw:(cF w a ep (esO us)).size=(esO us).size:=by rw[<- da,(dY w a ep (esO us)).length_eq,da]
  rw[ij (by lia)];show v4 _ _ (Bn (.ref it) 2 .none >>= _) _ _ s;refine ae (mx hi1 hi3 (by simp) ?_);show v4 _ _ (newExc (.type "StopIteration") [] >>= _) _ _ _;simp only[newExc,newTuple];refine ae (ae (dz (ae (m:=qk _ _) (qu (a:=Value.none) (by first|rfl|(simp only[qk];rfl)) (dz ?g (by size_fits)))) (by size_fits)))
  case g =>
  simp only[raiseNew];refine ae (Bm ?g)
  case g =>
  rw[show A.in1.handled=none from hh];refine ae (ao (Cd ?z))
  case z => refine ae (qr (T := "StopIteration") (b := true) ⟨_, bg _ rfl, rfl⟩ w5 ?z)
            case z=>exact ao (q _ (((gu ..).extBut.push _).push _))
def aIo (hh:A.handled=none)(I a:ww)(hne:a≠I)(ep:Nat)(P:Ptb mask pl us)(hz:us.length*5<mask*3):
  Walks prog w A I [I,a] [I] (esO us).size (λi v=>∃e,(cF w a ep (esO us))[i]?=some e/\v=e.2) (λi h=>SIt I a (bU w pl i) i (esO us).size ep h/\h.get? a=some (spO w us ep mask pl mv)) where
 sub:=λb hb=>by simp at hb;simp[hb]
 frame:=λ_ _ _ st hk=>⟨st.1.at λo e=>hk I (by simp) o e,hk a (by simp) _ st.2⟩
 item:=λi s Q E hi st hQ=>by
  have hw:(cF w a ep (esO us)).size=(esO us).size:=by rw[<- da,(dY w a ep (esO us)).length_eq,da]
  refine aJk st.1 st.2 P hz (c8 (by lia)) hi λh' hit' hs'=>?_;exact hQ _ h' s.toks ⟨_,c8 (by lia),rfl⟩ ⟨hit',by rw[hs'.2 a hne];exact st.2⟩ λb o hb e=>hs'.extBut b o (λh=>hb (by simp[h])) e
 done:=λs Q E st hQ=>aLp hh st.1 st.2 P hz λh' he'=>hQ h' s.toks λb o hb e=>he' b o (λh=>hb (by simp[h])) e
 self:=λi s Q E st hQ=>by
  have hT:s.TypeIs (.ref I) "set_iterator":=SIt.typeIs st.1;refine ub hT dI (fi dI hT iA ?_ (iT _));show v4 _ _ (ret (.ref I)) _ _ s;exact ao ⟨_,rfl,"set_iterator",_,hT,aU.lookup,hQ⟩
def aMN (P:Ptb mask pl us)(hz:us.length*5<mask*3):KdlSrc prog w "set" a a (esO us).size (λi v=>∃e,(cF w a ep (esO us))[i]?=some e/\v=e.2) (λh=>h.get? a=some (spO w us ep mask pl mv)) where
 type:=λ_ hm=>⟨_,hm,rfl⟩
 there:=λ_ hm=>⟨bx hm,bx hm⟩
 keep:=λ_ _ hm hk=>hk a (.inl rfl) _ hm
 notList:=by decide
 notTuple:=by decide
 hint:=λ_ _ s _ hm hq=>aDW ⟨_,hm,rfl⟩ hq
 iter:=λA s hh hm=>⟨{cls:=.type "set_iterator",data:=.fields #[jw 0,jw 0,.ref a,jw (esO us).size,jw ep]},_,(λ_ _ hq=>aLQ hm (gQ P (by lia) (!byT w) mv) hq),aIo hh _ a (di (bx hm)) ep P hz,⟨⟨_,bg _ rfl,rfl,rfl⟩,aj _ hm⟩⟩
def aEs (hh:A.handled=none)(ho:s.heap.get? a=some (spO w us ep mask pl mv))(P:Ptb mask pl us)(hz:us.length*5<mask*3)(hQ:∀(h':jp) (tk:Nat) (us':Us),us'.Perm us->(∀b o,s.heap.get? b=some o->h'.get? b=some o)->s.heap.objs.size<h'.objs.size->Q (us'.map λu=>Value.ref u.2) {s with heap:=h',toks:=tk}):v4 (v6 prog w) A (A2 (.ref a)) Q E s:=by
 have few:=P.few;have ha:a<s.heap.objs.size:=bx ho;unfold A2
 let R1:BG->wv->Prop:=λr s'=>∃h' tk acc c,r=.ok (.ret (.ref s.heap.objs.size))/\s'={s with heap:=h',toks:=tk}/\h'.get? s.heap.objs.size=some {cls:=.type "list",dict:=none,data:=.seq acc c,slots:=#[]}/\(∀b o,s.heap.get? b=some o->h'.get? b=some o)/\Cg (λi v=>∃e,(cF w a ep (esO us))[i]?=some e/\v=e.2) acc (esO us).size
 refine ae (qi (jq (R:=R1) ?_ ?_))
 ·refine gh uk ?_;rw[fz um _];show v4 _ A.in1 (Cb [] >>= λl=>again (.builtin "list.__iadd__" ⟨[l,.ref a],[]⟩)) _ _ s;refine ae (dz ?_);refine ao ⟨kq m9 _,gh xw ?_⟩;rw[fz m9 _];have ho1:(s.heap.push {cls:=.type "list",data:=.seq ([]:List wn).toArray}).get? a=some (spO w us ep mask pl mv):=aj _ ho;have hS₁:(s.heap.push {cls:=.type "list",data:=.seq ([]:List wn).toArray}).get? s.heap.objs.size=some {cls:=.type "list",data:=.seq ([]:List wn).toArray}:=bg _ rfl;show v4 _ A.in1 (jy (.ref s.heap.objs.size) (.ref a) (.ref s.heap.objs.size)) _ _ {s with heap:=s.heap.push {cls:=.type "list",data:=.seq ([]:List wn).toArray}};exact kdl_extend (R:=R1) (s:={s with heap:=s.heap.push {cls:=.type "list",data:=.seq ([]:List wn).toArray}}) (aMN (prog:=prog) (w:=w) (a:=a) (ep:=ep) P hz) hh ho1 s.heap.objs.size (jo ha) (jo ha) (.ref s.heap.objs.size) 0 hS₁ (λh' tk acc c hk hS' hA=>⟨h',tk,acc,c,rfl,rfl,hS',λb o e=>hk b o (di (bx e)) (aj _ e),hA⟩) (by unfold esO;rw[ay,af,ka];lia)
 ·rintro r s' ⟨h',tk,acc,c,rfl,rfl,hS',hk,hA⟩;have hp:=dY w a ep (esO us);obtain⟨us',pm,eu⟩:=tY (f:=λu:List Int×ww=>(hT u.1,Value.ref u.2)) hp us (by unfold esO;rfl);have ea:acc.toList=us'.map λu=>Value.ref u.2:=by
   have e1:acc.toList=(cF w a ep (esO us)).toList.map (·.2):=by
    apply ye;intro i;rw[bp,ke,ke];by_cases c:i<acc.size
    ·obtain⟨e,h1,h2⟩:=hA.2 i acc[i] (c8 c);rw[c8 c,h1,h2];rfl
    ·have hw:(cF w a ep (esO us)).size=(esO us).size:=by rw[<- da,hp.length_eq,da]
     rw[ij (by lia),ij (by have:=hA.1;lia)];rfl
   rw[e1,eu,fg];rfl
  show v4 _ A (load s.heap.objs.size >>= _) _ _ _;refine ae (xk hS' ?_);show v4 _ _ (pure acc.toList) _ _ _;rw[ea];exact ao (hQ h' tk us' pm hk (bx hS'))
end L2
namespace L2
open PySem PySem.Spec PySem.W PyProof.Rows
def aNk:∀k∈K28,k≠[]:=by decide+kernel
theorem aJR:∀{vs:List wn}{ns:List Int},IntsAre vs ns->PySem.ItemsAre (j8 prog w) ns vs
 |_,_,.nil=>.nil
 |_,_,.cons n t r=>.cons (ya prog w n t) (aJR r)
theorem yN {α β:Type}{d:α}{e:β}(f:α->β){l:List α}:∀{ix:List Nat},(∀i∈ix,i<l.length)->(ix.map λi=>(l.map f).getD i e)=(ix.map λi=>l.getD i d).map f
 |[],_=>rfl
 |i::ix,h=>by
  have hi:=h i (c7 ..);rw[de,de,de,yN (d:=d) f λj hj=>h j (bq _ hj)];congr 1;rw[ak,ak,bp,ah hi];rfl
def aFk {s:wv}{a:ww}{us:Us}{ep mask mv:Nat}{pl:List Nat}(hh:A.handled=none)(ho:s.heap.get? a=some (spO w us ep mask pl mv))(P:Ptb mask pl us)(hz:us.length*5<mask*3)(hB:∀u∈us,∃vs:List wn,IsTup s.heap u.2 vs.toArray/\IntsAre vs u.1)(q:∀(l:ww) (h':jp) (tk:Nat) (us':Us) (c:Nat),s.heap.objs.size<=l->(∀b o,s.heap.get? b=some o->h'.get? b=some o)->h'.get? l=some (kd "list" (us'.map λu=>Value.ref u.2).toArray c)->us'.Perm us->(us'.map (·.1)).Pairwise (λa b=>lexL b a=false)->Q (.ref l) {s with heap:=h',toks:=tk}):v4 (v6 prog w) A (call (.builtin "sorted") [.ref a]) Q E s:=by
 have few:=P.few;refine qo Ck BN BO (BQ _) ?g1
 case g1=>
  unfold zk;refine ae (m:=checkCount "sorted" 1 1 _) (ao (ae (aEs hh ho P hz λh1 tk u1 pm hk hs=>?g2)))
  case g2=>
   have l1:u1.length=us.length:=pm.length_eq;refine ae (sv ?g3 (by rw[af,l1,ka];lia))
   case g3=>
    have e2:(h1.push (kd "list" (u1.map λu=>Value.ref u.2).toArray 0)).get? h1.objs.size=some (kd "list" (u1.map λu=>Value.ref u.2).toArray 0):=bg _ rfl;have hv:TupsAt (h1.push (kd "list" (u1.map λu=>Value.ref u.2).toArray 0)) (u1.map λu=>Value.ref u.2) (u1.map (·.1)):=by
     refine⟨by rw[af,af],λi row hr=>?_⟩;rw[bp] at hr;obtain⟨u,hu,rfl⟩:=il.mp hr;obtain⟨vs,⟨o,b1,b2,b3⟩,hi⟩:=hB u (pm.mem_iff.mp (au hu));exact⟨u.2,vs,by rw[bp,hu];rfl,⟨o,aj _ (hk _ _ b1),b2,b3⟩,hi⟩
    have hne:∀q∈u1.map (·.1),q≠[]:=λq hq=>by
     obtain⟨u,hu,rfl⟩:=cw.mp hq;exact aNk _ (P.mem u (pm.mem_iff.mp hu))
    show v4 _ _ _ _ _ {s with heap:=h1.push (kd "list" (u1.map λu=>Value.ref u.2).toArray 0),toks:=tk};refine ae (f9 (fi AU ⟨_,e2,rfl⟩ Az (yD (s:={s with heap:=h1.push (kd "list" (u1.map λu=>Value.ref u.2).toArray 0),toks:=tk}) e2 hv hne (by rw[af,l1];lia) λp hp=>⟨_,rfl,ao ⟨_,rfl,?g4⟩⟩) (AV _)))
    case g4=>
     obtain⟨f1,f2⟩:=aDn hp;have pl':p.toList.Perm (bc u1.length):=by
      have:=qc.mp hp.1;rw[af] at this;simpa using this
     have hb:∀i∈p.toList,i<u1.length:=λi hi=>fc.mp (pl'.mem_iff.mp hi);have eR:(p.toList.map λi=>(u1.map (·.1)).getD i [])=(p.toList.map λi=>u1.getD i ([],0)).map (·.1):=yN _ hb;have eV:(p.toList.map λi=>(u1.map λu=>Value.ref u.2).getD i Value.none)=(p.toList.map λi=>u1.getD i ([],0)).map λu=>Value.ref u.2:=yN _ hb;rw[eR] at f2;rw[eV];obtain⟨c,he⟩:=sortedHeap_at (vs:=u1.map λu=>Value.ref u.2) (out:=((p.toList.map λi=>u1.getD i ([],0)).map λu=>Value.ref u.2).toArray) e2;have ex:(bc u1.length).map (λi=>u1.getD i ([],0))=u1:=by
      apply qt
      ·simp
      ·intro i h1 h2;rw[j7,og,ak,ah h2];rfl
     have py:(p.toList.map λi=>u1.getD i ([],0)).Perm u1:=by have:=pl'.map λi=>u1.getD i ([],0);rw[ex] at this;exact this
     refine q h1.objs.size _ tk _ c (i6 hs) (λb o e=>?_) he (py.trans pm) f2;have hb':b<h1.objs.size:=bx (hk b o e);rw[sortedHeap_old (di hb') (by rw[f6];exact gk hb')];exact aj _ (hk b o e)
def aOO (K:aa)(H:Hp)(us:Us):Prop:=∀u∈us,SqT K H u.2 (u.1.map V.int)
def aJO (w:xj)(K:aa):List V->Hp->VK->Prop:=λvs H Q=>∃(a:ww) (us:Us),vs=[.ref a]/\H a=some (.ext (aDs w a us))/\aOO K H us/\∀(us':Us) (l:ww),H l=none->us'.Perm us->(us'.map (·.1)).Pairwise (λa b=>lexL b a=false)->Q (.ref l) (upd H l (.lst (us'.map λu=>V.ref u.2)))
theorem aMz {K:aa}{H:Hp}:∀{xs:List V}{R:List (List Int)},Rows K H xs R->∃vs:Us,xs=vs.map (λu=>V.ref u.2)/\vs.map (·.1)=R/\aOO K H vs
 |[],[],_=>⟨[],rfl,rfl,λu hu=>by cases hu⟩
 |[],r::R,h=>by have:=h.1;cases this
 |x::xs,[],h=>by have:=h.1;cases this
 |x::xs,r::R,h=>by
  obtain⟨b,e1,e2⟩:=h.2 0 r rfl;obtain⟨vs,f1,f2,f3⟩:=aMz (K:=K) (H:=H) (xs:=xs) (R:=R) ⟨by have:=h.1;simpa using this,λi row hr=>h.2 (i+1) row hr⟩;refine⟨(r,b)::vs,by rw[de,<- f1];congr 1;exact cf e1,by rw[de,f2],λu hu=>?_⟩;rcases b8.mp hu with rfl|hu
  ·exact e2
  ·exact f3 u hu
theorem xM:∀{vs:Us}{its:List wn},Vals (vs.map λu=>V.ref u.2) its->its=vs.map λu=>Value.ref u.2
 |[],_,.nil=>rfl
 |_::_,_,.cons r t=>by
  obtain rfl:=r;rw[xM t];rfl
def xG:∀vs:Us,Vals (vs.map λu=>V.ref u.2) (vs.map λu=>Value.ref u.2)
 |[]=>.nil
 |_::vs=>.cons rfl (xG vs)
def aEg (hc:X.calm=true):CallR X (.builtin "sorted") (aJO X.w X.K):=by
 intro pins s σ H xs us Q I r ⟨a,vs,e,ha,hrow,q⟩;subst e;obtain⟨u,rfl,ru⟩:=r.one;obtain rfl:u=Value.ref a:=ru;have hS:aDs X.w a vs s.heap:=(I.hok a _ ha).1;obtain⟨ep,mk,pls,mv,o1,o2,o3⟩:=id hS;have few:=o2.few;refine aFk (I.ok.hd hc) o1 o2 o3 (λv hv=>?_) λl h' tk us' c hl hk he pm srt=>?_
 ·obtain⟨zs,rvs,pl,_⟩:=I.tuple (hrow v hv);exact⟨zs,pl,dD rvs⟩
 ·refine⟨.ref l,_,I.laid (a:=l) (t':=tk) (o:=.lst (us'.map λu=>V.ref u.2)) hk hl ⟨?_,us'.map λu=>Value.ref u.2,c,xG us',by simpa using he⟩,rfl,q us' l (I.hok.fresh hl) pm srt⟩;rw[af,pm.length_eq,ka];lia
def aKP {K:aa}{H:Hp}{us:Us}(h:aOO K H us):Rows K H (us.map λu=>V.ref u.2) (us.map (·.1)):=by
 refine⟨by rw[af,af],λi row hr=>?_⟩;rw[bp] at hr;obtain⟨u,hu,rfl⟩:=il.mp hr;exact⟨u.2,by rw[bp,hu];rfl,h u (au hu)⟩
end L2
namespace L2
open PySem PySem.Spec PyProof.Rows
def aCo (K:aa)(te:TE):TE:=λσ H Q=>te σ H λx H1=>∃a xs,x=.ref a/\SqL K H1 a xs/\∀p,H1 p=none->Q (.ref p) (upd H1 p (.lst xs.reverse))
def aLt (he:PE X e te):PE X (.Subscript e (.Slice none none (some (.UnaryOp .USub (.Constant (.int 1) k p1) p3)) p2) pos) (aCo X.K te):=by
 intro pins s σ H Q I h;refine Bz (thn (he pins s σ H _ I h) λv s1 ⟨x,H1,I1,r1,q1⟩=>?g)
 case g=>
 obtain⟨a,xs,rfl,hx,q⟩:=q1;obtain rfl:v=Value.ref a:=r1;refine BZ ?g
 case g=>
 rw[ym];refine ao (ao ?g)
 case g=>
 rw[Bj];refine thn ((aLW aGz eP:PE X (.UnaryOp .USub (.Constant (.int 1) k p1) p3) (tUn pK (AC 1))) pins s1 σ H1 (λx H'=>x=.int (-1)/\H'=H1) I1 ⟨1,rfl,rfl,rfl⟩) λu s2 ⟨y,H2,I2,r2,q2⟩=>?g
 case g=>
 obtain⟨rfl,rfl⟩:=q2;obtain⟨t,rfl⟩:=r2;have I4:Inv X pins σ H2 {s2 with heap:=s2.heap.push {cls:=.type "slice",data:=.fields #[.none,.none,.int (-1) t]}}:=I2.kept (t':=s2.toks) λb ob q=>aj _ q;obtain⟨its,rv,pl,hz⟩:=I4.list hx;have hl:=rv.length;show v4 (v6 X.prog X.w) X.A (yn e (.Slice none none (some (.UnaryOp .USub (.Constant (.int 1) k p1) p3)) p2) (.ref a) (.ref s2.heap.objs.size)) (EP X pins σ Q) X.xe {s2 with heap:=s2.heap.push {cls:=.type "slice",data:=.fields #[.none,.none,.int (-1) t]}};refine tail_any (ops:=[.ref a,.ref s2.heap.objs.size]) pl.isList.typeIs list_getitem_lookup (xo pl.isList (wg ..) .none .none (.int (-1) t) (by decide) ?g (by rw[ay];lia)) (by with_unfolding_all rfl)
 case g=>
 rw[PySem.W.krv_pick,List.toList_toArray];refine⟨.ref _,_,I4.laid (t':=s2.toks) (o:=.lst xs.reverse) (λb ob q=>aj _ q) (ar _) ?g,rfl,q _ (I4.hok.fresh (ar _))⟩
 case g=>exact⟨by rw[lh];exact hz,_,_,Vals.rev rv,bg _ rfl⟩
def aIp {K:aa}{e:ut}{te:TE}{p1 p2 p3 pos:Pos}{k:Nat}(hK:X.K=K)(he:PE X e te):PE X (.Subscript e (.Slice none none (some (.UnaryOp .USub (.Constant (.int 1) k p1) p3)) p2) pos) (aCo K te):=by subst hK;exact aLt he
end L2
namespace L2
open PySem PySem.Spec PySem.W PyProof.Rows
def aBm {s:wv}{l:ww}{items:Array wn}{vs:Us}(hu:A.units+20<cLine)(hh:A.handled=none)(hl:s.heap.IsList l items)(hi:items.toList=vs.map λu=>Value.ref u.2)(hB:∀u∈vs,j5 (j8 prog w) s.heap u.1 u.2)(h8:∀u∈vs,u.1∈K28)(h28:items.size<=28)(h:∀(h':jp) (tk:Nat) (us:Us),aDs w s.heap.objs.size us h'->(∀u∈us,u∈vs)->(∀u∈vs,u.1∈us.map (·.1))->(∀b o,b<s.heap.objs.size->s.heap.get? b=some o->h'.get? b=some o)->Q (.ref s.heap.objs.size) {s with heap:=h',toks:=tk}):
  v4 (v6 prog w) A (call (.type "set") [.ref l]) Q E s:=by
 obtain⟨c,tl,hmro⟩:=i8.mro;have hmade:=i8.made;have hsub:=i8.sub;refine wpAny_call (vk ?_);show v4 _ _ (callAny (.type "set") _) _ _ _;refine ao ⟨wj _ (by decide+kernel),gh F.entry_type_call ?_⟩;rw[Around.under_plain (Ax "set" [.ref l] []) rfl];have h1:=i8.notType;have h2:=i8.canCreate;have hct:=F.typeCall_set_1 (.ref l)
 repeat (any_goals (first|assumption|wp_step))
 refine jq (aJx (.ref l) (E:=E) (Q₁:=λobj s1=>obj=.ref s.heap.objs.size/\s1={s with heap:=s.heap.push (smO w #[] 0 [])}) ⟨rfl,rfl⟩) λr s1 hr=>?_;cases r with
 |error e=>exact hr
 |ok fl=>
  cases fl with
  |ret obj=>
   obtain⟨rfl,rfl⟩:=hr;have hS:(s.heap.push (smO w #[] 0 [])).get? s.heap.objs.size=some (smO w #[] 0 []):=bg _ rfl;have hT:Bo {s with heap:=s.heap.push (smO w #[] 0 [])} (.ref s.heap.objs.size) "set":=⟨_,hS,rfl⟩;have hli:=i8.init.lookup;have hbi:=i8.init.bind (.ref s.heap.objs.size)
   repeat (any_goals (first|assumption|wp_step))
   refine jq (AL (R:=wants (λr s2=>r=.none/\∃h' tk us,s2={s with heap:=h',toks:=tk}/\aDs w s.heap.objs.size us h'/\(∀u∈us,u∈vs)/\(∀u∈vs,u.1∈us.map (·.1))/\∀b o,b<s.heap.objs.size->s.heap.get? b=some o->h'.get? b=some o) E) i8.init.plain F.entry_set_init (check_set_init_1 hT ?_)) λr2 s2 hr2=>?_
   ·obtain⟨ol,hol,hcl,nl,hdl⟩:=hl;obtain⟨ocls,odict,odata,oslots⟩:=ol;simp only at hcl hdl;subst hcl;subst hdl;have hol':(s.heap.push (smO w #[] 0 [])).get? l=some {cls:=.type "list",dict:=odict,data:=.seq items nl,slots:=oslots}:=aj _ hol;have hsls:=F.sub_list_set;have hslf:=F.sub_list_frozenset;have hne:(Value.type "list"==Value.type "dict")=false:=by decide
    have hl1:(s.heap.push (smO w #[] 0 [])).IsList l items:=⟨_,hol',rfl,nl,rfl⟩;have hlS:l<s.heap.objs.size:=bx hol;unfold Builtin.«set.__init__» noKeywords u9;generalize hPI:AQ=PI
    wp_walk
    subst hPI;refine t6 hl1 ?_;refine ae (qi ?_);have hh3:A.in1.in1.in1.handled=none:=by simp[hh]
    have hneI:l≠(s.heap.push (smO w #[] 0 [])).objs.size:=by
     rw[f6];exact di (gk hlS)
    have hlen:items.size=vs.length:=by rw[<- da,hi,af]
    have hat:∀i,i<items.size->∃u∈vs,vs.getD i ([],0)=u/\vs[i]?=some u:=λi h=>by
     rw[hlen] at h;exact⟨vs[i],f7 h,by rw[ak,ah h];rfl,ah h⟩
    have old:∀u∈vs,u.2<s.heap.objs.size:=λu hu'=>by
     obtain⟨o,_,_,ho,_⟩:=hB u hu';exact bx ho
    refine aKH (show A.units+1+1+1<cLine by lia) ((Walks.list hh3 _ l hneI items).toS) s.heap.objs.size ?_ (λi=>vs.getD i ([],0)) (λi v hlt hv=>?_) (λi hlt=>?_) (λi hlt=>?_) h28 (items.size-0) 0 [] _ (by lia) (bh _) ⟨⟨_,bg _ rfl,rfl,rfl⟩,hl1.push _⟩ ?_ (λm hm=>?_) (λu hu'=>by cases hu') (λm hm=>absurd hm (i5 m)) ?_
    ·rw[f6];simp only[b8,ja,or_false,not_or];exact⟨di (j6 _),jo hlS⟩
    ·obtain⟨u,hu',e1,e2⟩:=hat i hlt
     try dsimp only
     rw[e1];have hv:items[i]?=some v:=hv;rw[<- ke,hi,bp,e2] at hv;exact(cf hv).symm
    ·obtain⟨u,hu',e1,e2⟩:=hat i hlt
     try dsimp only
     rw[e1];exact h8 u hu'
    ·obtain⟨u,hu',e1,e2⟩:=hat i hlt
     try dsimp only
     rw[e1,f6];have:=old u hu';simp only[b8,ja,or_false,not_or];exact⟨di this,di (gk this)⟩
    ·obtain⟨ep,mk,pl,mv,a1,a2⟩:=aIw (w:=w) s.heap;exact⟨ep,mk,pl,mv,aj _ a1,a2⟩
    ·obtain⟨u,hu',e1,e2⟩:=hat m hm
     try dsimp only
     rw[e1];exact xS (hB u hu') λo e=>aj _ (aj _ e)
    ·intro us' s' hm hS' hks1 hks2;obtain⟨h',g',d',tk',os'⟩:=s';have eg:g'=s.gens:=hm.gens;have ed:d'=s.drawn:=hm.drawn;have eo:os'=s.os:=hm.os;subst eg ed eo;show v4 _ _ _ _ _ _;refine ao ?_;show v4 _ _ (ret Value.none) _ _ _;refine ao ⟨rfl,h',tk',us',rfl,hS',λu hu'=>?_,λu hu'=>?_,λb o hb e=>hm.heap b o ?_ (aj _ (aj _ e))⟩
     ·obtain⟨m,h1,rfl⟩:=hks1 u hu';obtain⟨v,hv,e1,e2⟩:=hat m h1;rw[e1];exact hv
     ·obtain⟨m,hm'⟩:=gi.mp hu';have h1:m<items.size:=by rw[hlen];exact(ai.mp hm').1
      have:=hks2 m h1
      try dsimp only at this
      rw[ak,hm'] at this;exact this
     ·rw[f6];simp only[b8,ja,or_false,not_or];exact⟨di hb,di (gk hb)⟩
   ·cases r2 with
    |error e=>exact hr2
    |ok fl2=>
     cases fl2 with
     |ret r=>
      obtain⟨rfl,h',tk,us,rfl,hd⟩:=hr2
      repeat (any_goals (first|assumption|wp_step))
      exact h _ _ _ hd.1 hd.2.1 hd.2.2.1 hd.2.2.2
     |_=>exact hr2.elim
  |_=>exact hr.elim
def aJH (w:xj)(K:aa):List V->Hp->VK->Prop:=λvs H Q=>∃(a:ww) (xs:List V) (R:List (List Int)),vs=[.ref a]/\SqL K H a xs/\Rows K H xs R/\(∀r∈R,r∈K28)/\R.length<=28/\∀(p:ww) (us:Us),H p=none->(us.map (·.1)).Nodup->(∀r,r∈us.map (·.1)↔r∈R)->aOO K H us->Q (.ref p) (upd H p (.ext (aDs w p us)))
def aEw (hc:X.calm=true)(hu:X.A.units+20<cLine):CallR X (.type "set") (aJH X.w X.K):=by
 intro pins s σ H xs us Q I r ⟨a,ys,R,e,ha,hR,h8,h28,q⟩;subst e;obtain⟨u,rfl,ru⟩:=r.one;obtain rfl:u=Value.ref a:=ru;obtain⟨vs,rfl,rfl,hrow⟩:=aMz hR;obtain⟨its,rv,pl,hz⟩:=I.list ha;have ei:=xM rv;subst ei;have key:∀v∈vs,j5 (j8 X.prog X.w) s.heap v.1 v.2:=λv hv=>by
  obtain⟨zs,rvs,⟨o,b1,b2,n,b3⟩,_⟩:=I.tuple (hrow v hv);exact⟨o,zs.toArray,n,b1,b2,b3,by simpa using aJR (dD rvs)⟩
 refine aBm (items:=(vs.map λu:List Int×ww=>Value.ref u.2).toArray) (vs:=vs) hu (I.ok.hd hc) pl.isList (by simp) key (λv hv=>h8 _ (kc hv)) (by rw[ay,af];rw[af] at h28;exact h28) λh' tk us' d1 d2 d3 d4=>?_;obtain⟨ep,mk,pls,mv,o1,o2,o3⟩:=id d1;refine⟨.ref s.heap.objs.size,_,I.laid (a:=s.heap.objs.size) (o:=.ext (aDs X.w s.heap.objs.size us')) (λb u e=>d4 b u (bx e) e) (ar _) ⟨d1,⟨_,o1⟩,λh1 h2 ⟨ep,mk,pls,mv,z1,z2⟩ k=>⟨ep,mk,pls,mv,k _ z1,z2⟩⟩,rfl,q _ _ (I.hok.fresh (ar _)) o2.nd (λr=>⟨λh=>?_,λh=>?_⟩) λu hu=>hrow u (d2 u hu)⟩
 ·obtain⟨u,hu,rfl⟩:=cw.mp h;exact kc (d2 u hu)
 ·obtain⟨u,hu,rfl⟩:=cw.mp h;exact d3 u hu
def aLR (K:aa):List V->Hp->VK->Prop:=λvs H Q=>∃(a:ww) (xs:List V) (R:List (List Int)),vs=[.ref a]/\SqL K H a xs/\Rows K H xs R/\(∀r∈R,r∈K28)/\R.length<=28 /\
 ∀(ys:List V) (R':List (List Int)),R'.Pairwise (λa b=>lexL b a=false)->R'.Nodup->(∀r,r∈R'↔r∈R)->∀H',Same H H'->Rows K H' ys R'->∀l,H' l=none->Q (.ref l) (upd H' l (.lst ys))
def aKi {K:aa}{x y:u8}{p p' pos pos':Pos}{e:ut}{es:List ut}{t:TA}{k:Nat}(hK:X.K=K)(hc:X.calm=true)(hr:Room k X.A)(hg:Gl X x)(hm:X.mg x=none)(hv:fm x=some (.builtin "sorted"))(hg':Gl X y)(hm':X.mg y=none)(hv':fm y=some (.type "set"))(ha:PA X (e::es) t)(hn:x≠"__name__":=by decide)(hdb:(x==("__debug__":u8))=false:=by decide)(hn':y≠"__name__":=by decide)(hdb':(y==("__debug__":u8))=false:=by decide)(he:fv (e::es) X.env=(false,eval e X.env)::fv es X.env:=by rfl)(hpl:(vc pos' (fv es X.env)).any (·.1)=false:=by rfl):PE X (.Call (.Name x p) [.Call (.Name y p') (e::es) [] pos'] [] pos) (tCB (aLR K) t):=by
 subst hK;have hu:X.A.units+20<cLine:=by have:=aMA hr;lia
 have h1:PE X (.Call (.Name x p) [.Call (.Name y p') (e::es) [] pos'] [] pos) (tCB (aJO X.w X.K) (aA (tCB (aJH X.w X.K) (tCl t)) aF)):=bF (aEg hc) hg hm hv (dJ (eY (aEw hc hu) hg' hm' hv' (aOA ha) hn' hdb' he hpl) aY) hn hdb;intro pins s σ H Q I h;refine h1 pins s σ H Q I ⟨_,h,λvs H1 ⟨a,xs,R,e1,e2,e3,e4,e4',e5⟩=>⟨a,xs,R,e1,e2,e3,e4,e4',λp us hp nd hm hrow=>?_⟩⟩;have sp:=aD hp (.ext (aDs X.w p us));refine⟨p,us,rfl,aB,λu hu=>sp.tup (hrow u hu),λus' l hl pm srt=>?_⟩;exact e5 _ _ srt ((pm.map _).nodup_iff.mpr nd) (λr=>by rw[(pm.map (·.1)).mem_iff];exact hm r) _ sp (aKP λu hu=>sp.tup (hrow u (pm.mem_iff.mp hu))) l hl
end L2
namespace L2
open PySem PySem.W PyProof.Rows
open PySem.SeqAt
def wD {s:wv}{a:ww}{vs:List wn}{n:Nat}{R:List (List Int)}(ho:s.heap.get? a=some (kd "list" vs.toArray n))(hlen:vs.length=R.length){PP:jp->Prop}(hP:PP s.heap)(kp:∀h h':jp,PP h->(∀x us,IsTup h x us->IsTup h' x us)->PP h')(fst:∀h,PP h->∃fs,KatTups h vs fs/\fs.length=R.length/\∀v∈fs,∃x us,v=.ref x/\IsTup h x us)(ask:∀(s:wv) (i j:Nat) (C:Bool->wv->Prop),PP s.heap->i<R.length->j<R.length->C (rlt (qD R) i j) s->kas_ask prog w A (A5 false) vs i j C s)(h64:vs.length<64)(h:∀p,Put R p->P (.done (.ret .none)) {s with heap:=BD s.heap a vs (ju (p.toList.map λi=>vs.getD i Value.none))}):v4 (v6 prog w) A (Builtin.«list.sort» ⟨[.ref a],[]⟩) P E s:=by
 have ha:=bx ho;have hz:vs.length<=cm:=by rw[ka];lia
 obtain⟨e1,ho1⟩:∃e1,(s.heap.update a (j4 λ_=>#[])).get? a=some (kd "list" #[] e1):=⟨_,Am ho λ_=>#[]⟩;rw[list_sort_plain];refine ae (Ak ho rfl (ae (u6 ho rfl ?g1 (by rw[ay];exact hz) (bh _))))
 case g1=>
 refine ae (A7 ho1 rfl (ae (w4 ?g2 (by show vs.length<=_;exact hz))))
 case g2=>
 refine ae (sv (f9 ?g3) (bh _))
 case g3=>
 obtain⟨h3,eh⟩:∃h3,h3=((s.heap.update a (j4 λ_=>(#[]:Array wn))).push (kd "tuple" vs.toArray 0)).push (kd "list" #[] 0):=⟨_,rfl⟩;show v4 (v6 prog w) A _ P E {s with heap:=((s.heap.update a (j4 λ_=>#[])).push (kd "tuple" vs.toArray 0)).push (kd "list" #[] 0)};rw[<- eh];have ho3:h3.get? a=some (kd "list" #[] e1):=by
  rw[eh];exact aj _ (aj _ ho1)
 have hv3:PP h3:=kp _ _ hP λx us ⟨o,b1,b2,b3⟩=>by
  have hx:x≠a:=λe=>by
   subst e;rw[ho] at b1;cases b1;exact absurd (Value.type.inj (show Value.type "list"=Value.type "tuple" from b2)) (by decide)
  refine⟨o,?_,b2,b3⟩;rw[eh];exact aj _ (aj _ (by rw[vq _ _ _ _ hx];exact b1))
 dsimp only;have fin:∀(p:Array Nat) (st':SortSt),Put R p->p.size=vs.length->arrOf st'=p.map (kas_item (vs.toArray.zip vs.toArray))->Bq st'=none->v4 (v6 prog w) A (do
   let touched:=(<- seqEpoch a) != e1
   yu (.ref a) λ_=>(arrOf st').map (·.2)
   if let some e:=Bq st' then rule "list.sort.comparison-raised";throw e
   if touched then rule "list.sort.modified";raiseError "ValueError" "list modified during sort"
   ret .none) P E {s with heap:=h3}:=λp st' hp hsz har hf=>by
  rw[kat_snds rfl har,hf];refine ae (A7 ho3 rfl (ae (u6 ho3 rfl ?g4 (bh _) ?g5)))
  case g5=>
   show(ju _).size<=_;rw[ay,af,da];lia
  case g4=>
   simp only[bne_self_eq_false,gm,if_false];have:=h p hp;unfold BD at this;rw[<- eh] at this;exact ao this
 by_cases c:vs.toArray.size<2
 ·rw[C5 c,C5 c];refine ae (ao ?g6)
  case g6=>
  rw[StateT.run_pure];refine ae (ao ?g7)
  case g7=>
  have e2:(vs.toArray.zip vs.toArray).size=vs.length:=by simp
  refine fin (ju (bc vs.length)) (SortSt.mk' general' (vs.toArray.zip vs.toArray) #[] 7 none) ⟨by rw[hlen],λi j hij hj=>?_⟩ (by simp) ?_ rfl
  ·have hl:R.length<2:=by rw[<- hlen];simpa using c
   rw[show i=j by lia];exact jF _
  ·have:=kas_range (vs.toArray.zip vs.toArray);rw[e2] at this;exact this.symm
 ·rw[C4 c,C4 c];have h2:2<=vs.length:=by simpa using c
  obtain⟨fs,k1,k2,k3⟩:=fst _ hv3;refine ae (kat_kind (s:={s with heap:=h3}) (T:=.type "tuple") k1 (by have:=hlen;lia) (λv hv'=>?g8) (by decide) ?g9)
  case g8=>
   obtain⟨x,us,rfl,o,b1,b2,_⟩:=k3 v hv';exact kitAt_ty _ _ ⟨o,b1,b2⟩
  case g9=>
  obtain⟨q1,q2,q3⟩:=aDz (r:=qD R) (n:=vs.length) (by lia);refine ae (jf (kat_run (ks:=vs) (vs:=vs) (s:={s with heap:=h3}) (κ:=A5 false) (Q:=λst' s'=>s'={s with heap:=h3}/\arrOf st'=(aO (qD R) (mr vs.length)).map (kas_item (vs.toArray.zip vs.toArray))/\Bq st'=none) (G:=λp' s'=>p'=aO (qD R) (mr vs.length)/\s'={s with heap:=h3}) rfl h2 h64 (λp' st' s' a1 a2 a3 a4=>⟨a4.2,by rw[<- a4.1];exact a2,a3⟩)
   (aHc (N:=vs.length) (r:=qD R) (λi j C hi hj hC=>ask {s with heap:=h3} i j C hv3 (by rw[<- hlen];exact hi) (by rw[<- hlen];exact hj) hC) _ (aDj (by lia)) ⟨rfl,rfl⟩)) ?_ λ_ _ e=>e)
  rintro⟨⟨⟩,st'⟩ s' ⟨rfl,har,hf⟩;refine fin _ st' ⟨by rw[<- hlen];exact q1,λi j hij hj=>?_⟩ q2 har hf;have hle:=q3 i j hij (by rw[hlen];exact hj);have bd:∀k,k<vs.length->(aO (qD R) (mr vs.length)).getD k 0<R.length:=λk hk=>by
   rw[dh,c8 (by lia)];have:=q1.mem_iff.mp (xx (show k<(aO (qD R) (mr vs.length)).size by lia));rw[<- hlen];simpa using this
  have hlt:=oV (R:=R) (bd j (by rw[hlen];exact hj)) (bd i (by rw[hlen];lia));cases z:lexL (R.getD ((aO (qD R) (mr vs.length)).getD j 0) []) (R.getD ((aO (qD R) (mr vs.length)).getD i 0) []) with
  |false=>rfl
  |true=>
   have:=hlt.mpr z;unfold Kr at hle;lia
def aCJ {s:wv}{l:ww}{ob:Obj}{n:Nat}{T:String}{us:List wn}{R:List (List Int)}(e0:s.heap.get? l=some ob)(ec:ob.cls=.type T)(eT:T="list"\/T="tuple")(ed:ob.data=.seq us.toArray n)(hlen:us.length=R.length){PP:jp->Prop}(hP:PP s.heap)(kp:∀h h':jp,PP h->(∀x us,IsTup h x us->IsTup h' x us)->PP h')(fst:∀h,PP h->∃fs,KatTups h us fs/\fs.length=R.length/\∀v∈fs,∃x us,v=.ref x/\IsTup h x us)(ask:∀(s:wv) (i j:Nat) (C:Bool->wv->Prop),PP s.heap->i<R.length->j<R.length->C (rlt (qD R) i j) s->kas_ask prog w A.in1.in1 (A5 false) us i j C s)(h64:us.length<64)(q:∀p,Put R p->Q (.ref (s.heap.objs.size+1)) {s with heap:=sortedAll s.heap us (ju (p.toList.map λi=>us.getD i Value.none))}):v4 (v6 prog w) A (call (.builtin "sorted") [.ref l]) Q E s:=by
 refine qo Ck BN BO (BQ _) ?g1
 case g1=>
 unfold zk;refine ae (m:=checkCount "sorted" 1 1 _) (ao (ae (aEz e0 ec eT ed (ae (sv ?g2)) (bo (i6 h64) (by decide)))))
 case g2=>
 obtain⟨h1,eh1⟩:∃h1,h1=(s.heap.push (kd "list" #[] 0)).update s.heap.objs.size (j4 (· ++ us.toArray)):=⟨_,rfl⟩;have z1:h1.objs.size=s.heap.objs.size+1:=by rw[eh1,Heap.size_update,size_push']
 have old:∀x o,s.heap.get? x=some o->(h1.push (kd "list" us.toArray 0)).get? x=some o:=λx o e=>by
  have hx:=bx e;refine aj _ ?_;rw[eh1,vq _ _ _ _ (di hx)];exact aj _ e
 have e2:(h1.push (kd "list" us.toArray 0)).get? (s.heap.objs.size+1)=some (kd "list" us.toArray 0):=by rw[<- z1];exact bg _ rfl
 have hv2:PP (h1.push (kd "list" us.toArray 0)):=kp _ _ hP λx vs ⟨o,b1,b2,b3⟩=>⟨o,old x o b1,b2,b3⟩;show v4 _ _ _ _ _ {s with heap:=((s.heap.push (kd "list" #[] 0)).update s.heap.objs.size (j4 (· ++ us.toArray))).push (kd "list" us.toArray 0)};rw[<- eh1,z1];refine ae (f9 (fi AU ⟨_,e2,rfl⟩ Az (wD (s:={s with heap:=h1.push (kd "list" us.toArray 0)}) e2 hlen hv2 kp fst ask h64 λp hp=>⟨_,rfl,ao ⟨_,rfl,?g3⟩⟩) (AV _)))
 case g3=>
  have:=q p hp;unfold sortedAll at this;rw[<- eh1] at this;exact this
def PtAt (h:jp)(vs:List wn)(R:List (List Int)):Prop:=vs.length=R.length/\∀(i:Nat) (row:List Int),R[i]?=some row->∃(x q f:ww) (us ws:List wn) (r:List Int),vs[i]?=some (.ref x)/\IsTup h x [Value.ref q,.ref f].toArray/\IsTup h q us.toArray/\IntsAre us row/\IsTup h f ws.toArray/\IntsAre ws r
def PtAt.keep (hv:PtAt h vs R)(k:∀x us,IsTup h x us->IsTup h' x us):PtAt h' vs R:=
 ⟨hv.1,λi row hr=>by obtain⟨x,q,f,us,ws,r,e1,e2,e3,e4,e5,e6⟩:=hv.2 i row hr;exact⟨x,q,f,us,ws,r,e1,k _ _ e2,k _ _ e3,e4,k _ _ e5,e6⟩⟩
theorem aBn:∀{vs:List wn}{R:List (List Int)},PtAt h vs R->∃fs,KatTups h vs fs/\fs.length=R.length/\∀v∈fs,∃x us,v=.ref x/\IsTup h x us
 |[],[],_=>⟨[],trivial,rfl,λ_ z=>by cases z⟩
 |[],_::_,hv=>by cases hv.1
 |_::_,[],hv=>by cases hv.1
 |v::vs,q::R,hv=>by
  obtain⟨x,q',f,us,ws,r,e1,⟨o,a1,a2,n,a3⟩,e3,_⟩:=hv.2 0 q rfl;obtain⟨fs,k,l,f'⟩:=aBn (vs:=vs) (R:=R) ⟨by simpa using hv.1,λi row hr=>hv.2 (i+1) row hr⟩;obtain rfl:v=.ref x:=by simpa using e1
  exact⟨.ref q'::fs,⟨⟨x,o,_,n,rfl,a1,a2,a3,rfl⟩,k⟩,by simp[l],λv hv'=>by
   rcases b8.mp hv' with e|hv'
   ·exact⟨q',_,e,e3⟩
   ·exact f' v hv'⟩
def aNL (hu:A.units+10<cLine)(nd:R.Nodup)(hv:PtAt s.heap vs R)(hi:i<R.length)(hj:j<R.length)(h:C (rlt (qD R) i j) s):kas_ask prog w A (A5 false) vs i j C s:=by
 have at':∀k,k<R.length->∃(x q f:ww) (us ws:List wn) (r:List Int),vs.getD k Value.none=.ref x/\IsTup s.heap x [Value.ref q,.ref f].toArray/\IsTup s.heap q us.toArray/\IntsAre us (R.getD k [])/\IsTup s.heap f ws.toArray/\IntsAre ws r:=λk hk=>by
  obtain⟨x,q,f,us,ws,r,e1,e2,e3,e4,e5,e6⟩:=hv.2 k R[k] (ah hk);refine⟨x,q,f,us,ws,r,by rw[ak,e1];rfl,e2,e3,?_,e5,e6⟩;rw[ak,ah hk];exact e4
 have e:rlt (qD R) i j=lexL (R.getD i []) (R.getD j []):=by
  unfold rlt;by_cases c:lexL (R.getD i []) (R.getD j [])=true
  ·rw[c];exact At ((oV hi hj).mpr c)
  ·rw[jb _ |>.mp c];exact Au λz=>c ((oV hi hj).mp z)
 rw[e] at h;show v4 (v6 prog w) A (keyLt' (A5 false) (vs.getD i Value.none) (vs.getD j Value.none)) C (λ_ _=>False) s;by_cases hij:i=j
 ·subst hij;obtain⟨x,q,f,us,ws,r,e1,⟨ox,a1,_,n1,d1⟩,o1,w1,o2,w2⟩:=at' i hi;rw[e1];refine kat_lt a1 d1 a1 d1 ?_;refine kat_cons (aCf (by lia) o1 o1 w1 w1 prog w _ _ ?_);rw[show eqL ((R.getD i []).map Dt.int) ((R.getD i []).map Dt.int)=true from eQ _];refine kat_yes (kat_cons (aCf (by lia) o2 o2 w2 w2 prog w _ _ ?_));rw[show eqL (r.map Dt.int) (r.map Dt.int)=true from eQ _];rw[jF] at h;exact kat_yes (kat_nil h)
 ·obtain⟨x,q,f,us,ws,r,e1,⟨ox,a1,_,n1,d1⟩,o1,w1,_,_⟩:=at' i hi;obtain⟨x',q',f',us',ws',r',e2,⟨oy,a2,_,n2,d2⟩,o2,w2,_,_⟩:=at' j hj;rw[e1,e2];refine kat_lt a1 d1 a2 d2 ?_;refine kat_cons (aCf (by lia) o1 o2 w1 w2 prog w _ _ ?_);have ne:eqL ((R.getD i []).map Dt.int) ((R.getD j []).map Dt.int)=false:=by
   rw[<- jb];intro z;have z:=rH z;rw[ak,ak,ah hi,ah hj] at z;exact hij ((qp nd).mp z)
  rw[ne];exact kat_no (kat_one _ _ (aES (by lia) o1 o2 w1 w2 h))
def Pt (K:aa)(H:Hp)(b:ww)(e:List Int×Int×Int):Prop:=∃(q f:ww),SqT K H b [.ref q,.ref f]/\SqT K H q (e.1.map V.int)/\SqT K H f [.int e.2.1,.int e.2.2]
def bQ (K:aa)(H:Hp)(xs:List V)(W:List (List Int×Int×Int)):Prop:=xs.length=W.length/\∀(i:Nat) (e:List Int×Int×Int),W[i]?=some e->∃b,xs[i]?=some (.ref b)/\Pt K H b e
def oD (K:aa):List V->Hp->VK->Prop:=λvs H Q=>∃(a:ww) (xs:List V) (W:List (List Int×Int×Int)),vs=[.ref a]/\Sq K H a xs/\bQ K H xs W/\(W.map (·.1)).Nodup/\W.length<64 /\
 ∀(ys:List V) (W':List (List Int×Int×Int)),W'.Perm W->(W'.map (·.1)).Pairwise (λa b=>lexL b a=false)->ys.Perm xs->bQ K H ys W'->∀l,H l=none->Q (.ref l) (upd H l (.lst ys))
def aCy (hr:Room k X.A):CallR X (.builtin "sorted") (oD X.K):=by
 intro pins s σ H vs us Q I r ⟨a,xs,W,e,hq,hR,nd,h64,q⟩;subst e;obtain⟨u,rfl,ru⟩:=aAv r;obtain rfl:u=Value.ref a:=ru;have go:∀(its:List wn) (ob:Obj) (n:Nat) (T:String),Vals xs its->s.heap.get? a=some ob->ob.cls=.type T->(T="list"\/T="tuple")->ob.data=.seq its.toArray n->v4 (v6 X.prog X.w) X.A (call (.builtin "sorted") [.ref a]) (EP X pins σ Q) X.xe s:=by
  intro its ob n T rv e0 ec eT ed;have hl:=rv.length;have hv:PtAt s.heap its (W.map (·.1)):=⟨by rw[<- hl,af];exact hR.1,λi row hr=>by
   rw[bp] at hr;cases ew:W[i]? with
   |none=>rw[ew] at hr;cases hr
   |some e=>
   rw[ew] at hr;obtain rfl:e.1=row:=cf hr;obtain⟨b,e1,q,f,e2,e3,e4⟩:=hR.2 i e ew;obtain⟨u,eu,rU⟩:=rv.get e1;obtain rfl:u=Value.ref b:=rU;obtain⟨vs,rvs,pl,_⟩:=I.tuple e2;obtain⟨ws,rws,pq,_⟩:=I.tuple e3;obtain⟨zs,rzs,pz,_⟩:=I.tuple e4;cases rvs with
   |cons r1 rvs=>
    cases rvs with
    |cons r2 rvs=>
     cases rvs;obtain rfl:=(show _=Value.ref q from r1);obtain rfl:=(show _=Value.ref f from r2);exact⟨b,q,f,ws,zs,[e.2.1,e.2.2],eu,pl,pq,dD rws,pz,dD (by simpa using rzs)⟩⟩
  refine aCJ e0 ec eT ed hv.1 hv (λh h' hv k=>hv.keep k) (λh hv=>aBn hv) (λs i j C hv hi hj hC=>aNL (by have:=hr.un;show X.A.units+1+1+10<cLine;lia) nd hv hi hj hC) (by rw[<- hl,hR.1];exact h64) λp hp=>?_;obtain⟨f1,f2⟩:=aDn hp;have pl:p.toList.Perm (bc W.length):=by simpa using qc.mp hp.1
  have hb:∀i∈p.toList,i<W.length:=λi hi=>fc.mp (pl.mem_iff.mp hi);obtain⟨c,he⟩:=sortedAll_at s.heap its (ju (p.toList.map λi=>its.getD i Value.none));have ex:(bc W.length).map (λi=>xs.getD i V.non)=xs:=by
   apply qt
   ·simp[hR.1]
   ·intro i h1 h2;rw[j7,og,ak,ah h2];rfl
  have py:(p.toList.map λi=>xs.getD i V.non).Perm xs:=by have:=pl.map λi=>xs.getD i V.non;rw[ex] at this;exact this
  have exW:(bc W.length).map (λi=>W.getD i ([],0,0))=W:=by
   apply qt
   ·simp
   ·intro i h1 h2;rw[j7,og,ak,ah h2];rfl
  have pW:(p.toList.map λi=>W.getD i ([],0,0)).Perm W:=by have:=pl.map λi=>W.getD i ([],0,0);rw[exW] at this;exact this
  have eW:(p.toList.map λi=>W.getD i ([],0,0)).map (·.1)=p.toList.map λi=>(W.map (·.1)).getD i []:=by
   rw[fg];refine qx λi hi=>?_;show(W.getD i ([],0,0)).1=_;rw[ak,ak,bp];cases W[i]?<;>rfl
  refine⟨.ref (s.heap.objs.size+1),_,I.laid (t':=s.toks) (o:=.lst (p.toList.map λi=>xs.getD i V.non)) (λb ob q=>sortedAll_old q) (vh _) ?_,rfl,q _ (p.toList.map λi=>W.getD i ([],0,0)) pW (by rw[eW];exact f2) py ?_ _ (I.hok.fresh (vh _))⟩
  ·refine⟨?_,p.toList.map λi=>its.getD i Value.none,c,?_,by simpa using he⟩
   ·rw[af,pl.length_eq,e8];exact bo (i6 h64) (by decide)
   ·have all:∀l:List Nat,(∀i∈l,i<W.length)->Vals (l.map λi=>xs.getD i V.non) (l.map λi=>its.getD i Value.none):=by
     intro l
     induction l with
     |nil=>intro _;exact .nil
     |cons i l ih=>
      intro h;have hi:i<xs.length:=by rw[hR.1];exact h i (c7 ..)
      obtain⟨u,eu,rU⟩:=rv.get (ah hi);refine .cons ?_ (ih λj hj=>h j (bq _ hj));show RelV (xs.getD i V.non) (its.getD i Value.none);rw[ak,ak,eu,ah hi];exact rU
    exact all _ hb
  ·refine⟨by rw[af,af],λi row hr=>?_⟩;rw[bp] at hr;cases ep:p.toList[i]? with
   |none=>rw[ep] at hr;cases hr
   |some k=>
    rw[ep] at hr;obtain rfl:W.getD k ([],0,0)=row:=cf hr;have hk:=hb k (au ep);obtain⟨b,e1,e2⟩:=hR.2 k W[k] (ah hk);refine⟨b,?_,?_⟩
    ·rw[bp,ep];show some (xs.getD k V.non)=_;rw[ak,e1];rfl
    ·rw[ak,ah hk];exact e2
 rcases hq with hq|hq
 ·obtain⟨its,rv,pl,hz⟩:=I.list hq;obtain⟨o,ho,hc,n,hd⟩:=pl.isList;exact go its o n "list" rv ho hc (.inl rfl) hd
 ·obtain⟨its,rv,pl,hz⟩:=I.tuple hq;obtain⟨o,ho,hc,n,hd⟩:=pl;exact go its o n "tuple" rv ho hc (.inr rfl) hd
def pO {K:aa}{k:Nat}(hK:X.K=K)(hr:Room k X.A):CallR X (.builtin "sorted") (oD K):=by subst hK;exact aCy hr
end L2
namespace L2
open PySem PySem.Spec PySem.W PyProof.Rows
open PySem.SeqAt
def aKA {K:aa}{k:Nat}(hK:X.K=K)(hr:Room k X.A):OpR X (iw .Lt) (aOI K):=by subst hK;exact aMQ (by have:=hr.un;lia)
end L2
namespace L2
open PySem PySem.Spec PyProof.Rows
def aFO:List V->Hp->VK->Prop:=λvs H Q=>∃i:Int,vs=[.int i]/\i.natAbs<2^1900/\∀t:u8,t=aHq i->Q (.str t) H
def aFG:CallR X (.type "str") aFO:=by
 intro pins s σ H xs us Q I r ⟨i,e,hi,q⟩;subst e;obtain⟨u,rfl,t,rfl⟩:=aAv r;refine P.str_of_int ?_ ⟨.str (aHq i),H,I.tok _,⟨_,rfl⟩,q _ rfl⟩;by_cases h0:i.natAbs=0
 ·rw[h0];decide
 ·exact(yv h0).mpr (av hi C6)
def cnm (sc:Scope):List u8:=(sc.names.tail.filter λp=>p.2==.local||p.2==.free).map (·.1)
def aHO (hi:PI X target iter wi)(hg:∀s H fp,PG (cW X (cnm scope) scope s H fp) target g)(hts:∀s H fp,PTs (cW X (cnm scope) scope s H fp) ifs ts)(hb:∀s H fp acc,PB (cW X (cnm scope) scope s H fp) elt (⟨target,iter,ifs,0⟩::rest) scope pos 0 acc (tb acc))(hok:iX X.N scope.names X.env.scope.names (cnm scope) ix=true:=by rfl)(hk:scope.kind=.function:=by rfl)(hc:X.calm=true:=by rfl)(hn:∀g',rest[0]?=some g'->g'.is_async=0:=by intro _ h;first|cases h;rfl|cases h)(hs:∀x,k9 iter X.env x=pure x:=by intro _;rfl):
  PE X (.ListComp elt (⟨target,iter,ifs,0⟩::rest) scope pos) (bJ ix wi g ts tb):=iQ hok hk hc hi hg hts hb hn hs
def aCw {elt target iter:ut}{ifs:List ut}{rest:List Comprehension}{scope:Scope}{pos:Pos}{ix:List (Option Nat)}{wi:TI}{g:TG}{ts:List TT}{tb:ww->TS}{i:Nat}{x:u8}{pos' spos:Pos}(hN:X.N.Nodup)(hix:X.N[i]?=some x)(hx:Loc X.env.scope x)(hi:PI X target iter wi)(hg:∀s H fp,PG (cW X (cnm scope) scope s H fp) target g)(hts:∀s H fp,PTs (cW X (cnm scope) scope s H fp) ifs ts)(hb:∀s H fp acc,PB (cW X (cnm scope) scope s H fp) elt (⟨target,iter,ifs,0⟩::rest) scope pos 0 acc (tb acc))(hok:iX X.N scope.names X.env.scope.names (cnm scope) ix=true:=by rfl)(hk:scope.kind=.function:=by rfl)(hc:X.calm=true:=by rfl)(hsw:BY (.ListComp elt (⟨target,iter,ifs,0⟩::rest) scope pos) (some (.Name x pos')) spos.line X.env=pure true:=by rfl)(hf:X.fn x=true\/X.env.scope.names.lookup x=some .local:=by first|exact .inl rfl|exact .inr rfl|assumption)(hn:∀g',rest[0]?=some g'->g'.is_async=0:=by intro _ h;first|cases h;rfl|cases h)(hs:∀x,k9 iter X.env x=pure x:=by intro _;rfl):
  PS X (.Assign [.Name x pos'] (.ListComp elt (⟨target,iter,ifs,0⟩::rest) scope pos) spos) (aP (bJ ix wi g ts tb) (aE i)):=jK hN hix hx hok hk hc hi hg hts hb hsw hf hn hs
def ndC (h:N.Nodup):(cW X N scope s H fp).N.Nodup:=h
def aKL {pos:Pos}{x:u8}{k0 k:Nat}{ps:List u8}{sp:Sp}{p:Pos}{e:ut}{es:List ut}{t:TA}(D:Def X.prog X.w X.K X.mg X.base x k0 ps sp)(hr:Room k X.A)(hk:k0<=k)(ha:PA X (e::es) t)(hg:Gl X x:=by rfl)(hdb:(x==("__debug__":u8))=false:=by decide)(he:fv (e::es) X.env=(false,eval e X.env)::fv es X.env:=by rfl)(hpl:(vc pos (fv es X.env)).any (·.1)=false:=by rfl):
  PE X (.Call (.Name x p) (e::es) [] pos) (aL sp [] E0 t):=eJ (D.mono hk) hr hg ha hdb he hpl
def aDf {pos:Pos}{x:u8}{k0 k:Nat}{ps:List u8}{sp:Sp}{p:Pos}{e:ut}{es:List ut}{t:TA}(D:DefX X.prog X.w X.K X.mg X.base x k0 ps sp)(hr:Room k X.A)(hk:k0<=k)(hx:uE (aBH X.prog X.w) X E)(ha:PA X (e::es) t)(hg:Gl X x:=by rfl)(hdb:(x==("__debug__":u8))=false:=by decide)(he:fv (e::es) X.env=(false,eval e X.env)::fv es X.env:=by rfl)(hpl:(vc pos (fv es X.env)).any (·.1)=false:=by rfl):
  PE X (.Call (.Name x p) (e::es) [] pos) (aL sp [] E t):=aGF (D.mono hk) hr hg hx ha hdb he hpl
end L2
namespace K38
open PySem L2
def top (i:Nat):Stmt:=PySem.Challenge.pw_homeround_k38_cut_prices_looked_at.main.body.getD i (.Pass ⟨0,0,0,0⟩)
set_option hygiene false
local macro_rules | `(tactic| walk_at "S") => `(tactic| repeat' first
  | ((with_reducible show _=_);first|exact rfl|assumption|(with_reducible first|exact aOc|exact aJF|exact aJv|exact aLr|exact aOv|exact aOm|exact wX|exact aEW|exact aDy|exact aIh|exact aLb|exact aJY|exact lO|exact aJz|exact aNI|exact yS|exact ku|exact ng|exact PySem.F.slot_list_pop|exact nh|exact PySem.F.type_list_pop)|exact ‹lY _›.abs|exact ‹lY _›.all|exact ‹lY _›.bool|exact ‹lY _›.enumerate|exact ‹lY _›.int|exact ‹lY _›.isi|exact ‹lY _›.len|exact ‹lY _›.list|exact ‹lY _›.min|exact ‹lY _›.range|exact ‹lY _›.repr|exact ‹lY _›.set|exact ‹lY _›.sorted|exact ‹lY _›.str|exact ‹lY _›.sum|exact ‹lY _›.tuple|exact ‹lY _›.zip|decide)
  | ((with_reducible show PE _ _ _);first|(with_reducible first|refine' @pv ..|refine' @gU ..|refine' @eP ..|refine' @wJ ..|refine' @uI ..|refine' @aDD ..|refine' @aQr ..|refine' @aKi ..|refine' @aAt ..|((show PE _ _ (tCB _ _));first|(apply eY;first|apply aFG|apply aEJ|apply aEt|apply aCI|apply aGb)|refine' @bF ..)|refine' @aHO ..|refine' @aIQ ..|refine' @aGx ..|refine' @aLW ..|refine' @aHH ..|refine' @aLV ..|refine' @aNy ..|refine' @aNj ..|refine' @aNK ..|refine' @aQh ..|refine' @aNE ..|refine' @aNP ..|refine' @aIp ..|refine' @aKJ ..)|refine aKL ‹_› ‹_› (by decide) ?_|refine aDf ‹_› ‹_› (by decide) aKS ?_|refine aDf ‹_› ‹_› (by decide) xL ?_|((with_reducible show PE _ _ (tC (.ty _)));refine sQ rfl ?_ ?_ rfl)|exact aBP rfl ‹_› ⟨_,rfl⟩|exact aBP rfl ‹_› rfl)
  | ((with_reducible show PA _ _ _);with_reducible first|refine' @aY ..|refine' @aQ ..|refine' @dM ..|refine' @rN ..|refine' @rX ..|refine' @dJ ..|refine' @rD ..|refine' @aIN ..|refine' @aHI ..|refine' @dB ..)
  | ((with_reducible show PS _ _ _);with_reducible first|refine' @aCw ..|refine' @iO ..|refine' @aEE ..|refine' @aJL ..|refine' @aDA ..|refine' @aJm ..|refine' @aAP ..|refine' @tZ ..|refine' @aOf ..)
  | ((with_reducible show PSs _ _ _);first|apply aS|apply cT)
  | ((with_reducible show PT _ _ _);with_reducible first|refine' @vF ..|refine' @aHP ..|refine' @aHm ..|refine' @aBr ..|refine' @PW.pt ..)
  | (with_reducible first|refine' @aEX ..|refine' @aBC ..|refine' @xQ ..|refine' @aLI ..|refine' @aKA ..|refine' @aEb ..|refine' @aOC ..|refine' @aDX ..|refine' @aMT ..|refine' @aPC ..|refine' @aPb ..|refine' @aMt ..|refine' @aPa ..|refine' @aJI ..|refine' @aCZ ..|refine' @aML ..|refine' @aGA ..|refine' @aNU ..|refine' @aGN ..|refine' @cH ..|refine' @oH ..|refine' @aJA ..|refine' @oZ ..|refine' @dE ..|refine' @gL ..|refine' @iS ..|refine' @aGO ..|refine' @aIq ..|refine' @aGY ..|apply PTs.nil|apply PTs.cons|refine' @fA ..|refine' @aLN ..|refine' @aNf ..|refine' @aNn ..|refine' @aKQ ..|refine' @aKb ..|refine' @aGz ..|refine' @dL ..|refine' @aQC ..|refine' @aLF ..|refine' @aKV ..|refine' @aGy ..|refine' @aAT ..|refine' @aAx ..|refine' @aFb ..|refine' @gI ..|refine' @aEc ..|refine' @nU ..|refine' @aEK ..|refine' @pO ..|refine' @aHr ..|refine' @aDB ..|refine' @tf ..|refine' @iM ..|refine' @aIe ..|exact ku|exact ng|exact PySem.F.slot_list_pop|exact nh|exact PySem.F.type_list_pop)
  | ((with_reducible show Room _ _);assumption)
  | ((with_reducible show List.Nodup _);first|assumption|exact ndC (by decide+kernel))
  | exact rfl
  | exact .inl rfl
  | exact .inr rfl
  | exact .inr (.inl rfl)
  | exact .inr (.inr rfl)
  | exact fun _ _=>rfl
  | exact wV _
  | decide
  | (intro _ (h:_=some _);first|(cases h;rfl)|cases h)
  | with_reducible intro _)
local macro_rules | `(tactic| walk_at "X") => `(tactic| repeat' first
  | (with_reducible first
    | apply aEP
    | apply aEi
    | refine aEE (PT.nox ?_) ?_ ?_)
  | ((with_reducible show PSs _ _ _);first|apply aS|apply cT)
  | (apply PS.nox;walk_at "S";all_goals fail)
  | (walk_at "S";all_goals fail))
local macro_rules | `(tactic| walk_at "K") => `(tactic| exact okN fun _ _ _ _ _ _ _ _ _ => by walk_at "S")
set_option hygiene true
section
variable {P:zn}{w:xj}{K:aa}{mg:u8->Option wn}{base:jp}
variable (B:lY mg){p0:Sp}(d0:Def P w K mg base "is_whole" 1 ["thing"] p0){p1:Sp}(d1:Def P w K mg base "common_measure" 1 ["one","other"] p1){p2:Sp}(d2:Def P w K mg base "are_wholes" 2 ["thing"] p2){p3:Sp}(d3:Def P w K mg base "lowest" 2 ["top","bottom"] p3){p4:Sp}(d4:Def P w K mg base "common_bottom" 2 ["some"] p4){p5:Sp}(d5:Def P w K mg base "tops_over" 1 ["some","bottom"] p5){t0:Tok}(g0:mg "LEAST_PLACES"=some (.int 3 t0)){t1:Tok}(g1:mg "MOST_PLACES"=some (.int 6 t1)){c0:ww}(e0:mg "NotEven"=some (.ref c0)){c1:ww}(e1:mg "TooFew"=some (.ref c1)){c2:ww}(e2:mg "TooMany"=some (.ref c2))(x0:kr K c0 aJZ "ValueError.__new__"=true)(x1:kr K c1 aJZ "ValueError.__new__"=true)(x2:kr K c2 aJZ "ValueError.__new__"=true){p6:Sp}(d6:Def P w K mg base "is_even" 1 ["table"] p6){p7:Sp}(d7:Def P w K mg base "all_pairs" 1 ["many"] p7){p8:Sp}(d8:Def P w K mg base "climb" 3 ["rows","held"] p8){p9:Sp}(d9:Def P w K mg base "first_rows" 2 ["table","pairs","steps"] p9){p10:Sp}(d10:Def P w K mg base "price_steps" 2 ["many"] p10){p11:Sp}(d11:Def P w K mg base "told_cuts" 3 ["steps","rows","held","bottom"] p11){p12:Sp}(y0:DefX P w K mg base "refuse_unfit" 2 ["table"] p12){p13:Sp}(d12:Def P w K mg base "all_sets" 1 ["many"] p13){p14:Sp}(d13:Def P w K mg base "does_part" 1 ["some","i","j"] p14){p15:Sp}(d14:Def P w K mg base "rising_column" 1 ["rows"] p15){p16:Sp}(d15:Def P w K mg base "tightest_row" 2 ["rows","held","column"] p16){p17:Sp}(d16:Def P w K mg base "turn" 1 ["rows","at","column","bottom"] p17){p18:Sp}(d17:Def P w K mg base "is_tighter" 1 ["rows","held","column","at","other"] p18){c3:ww}(e3:mg "TWO"=some (.ref c3))(GA:mg "any"=none){p19:Sp}(d18:Def P w K mg base "between" 4 ["some","i","j"] p19){p20:Sp}(d19:Def P w K mg base "do_rise" 1 ["some"] p20){p21:Sp}(d20:Def P w K mg base "is_cut" 4 ["many","thing"] p21){p22:Sp}(d21:Def P w K mg base "is_less" 1 ["one","other"] p22){p23:Sp}(d22:Def P w K mg base "times" 3 ["one","other"] p23){p24:Sp}(d23:Def P w K mg base "total" 3 ["some"] p24){p25:Sp}(d24:Def P w K mg base "is_fraction" 3 ["thing"] p25){p26:Sp}(d25:Def P w K mg base "_law_cmixed" 1 ["cell","at"] p26){p27:Sp}(d26:Def P w K mg base "_law_cdraw" 2 ["feed","many"] p27){p28:Sp}(d27:Def P w K mg base "_law_cpairs" 1 ["many"] p28){p29:Sp}(d28:Def P w K mg base "_law_cshort" 1 ["rows"] p29){p30:Sp}(d29:Def P w K mg base "_law_clow" 1 ["top","bottom"] p30){p31:Sp}(d30:Def P w K mg base "_law_cwhole" 1 ["thing"] p31){p32:Sp}(d31:Def P w K mg base "_law_cis_fraction" 2 ["thing"] p32){p33:Sp}(d32:Def P w K mg base "_law_cis_side" 2 ["many","some"] p33){p34:Sp}(d33:Def P w K mg base "_law_cover" 1 ["some","i","j"] p34){p35:Sp}(d34:Def P w K mg base "_law_cplus" 2 ["some"] p35){p36:Sp}(d35:Def P w K mg base "_law_csets" 1 ["many"] p36){p37:Sp}(d36:Def P w K mg base "_law_cbeside" 1 ["some","more"] p37){p38:Sp}(d37:Def P w K mg base "_law_corder" 3 ["feed","some"] p38){p39:Sp}(d38:Def P w K mg base "_law_c_put_in" 4 ["feed","some","many"] p39){p40:Sp}(d39:Def P w K mg base "_law_cfraction_bends" 3 ["part"] p40){p41:Sp}(d40:Def P w K mg base "_law_cswapped" 1 ["some","at"] p41){p42:Sp}(d41:Def P w K mg base "_law_c_bends" 5 ["feed","some","many"] p42){p43:Sp}(d42:Def P w K mg base "_law_c_drawn" 3 ["feed","table"] p43){p44:Sp}(d43:Def P w K mg base "_law_care_cuts" 3 ["table","some","worth"] p44){p45:Sp}(d44:Def P w K mg base "_law_ceven" 3 ["feed","least","most"] p45){p46:Sp}(d45:Def P w K mg base "_law_copen" 1 ["script"] p46){p47:Sp}(y1:DefX P w K mg base "are_cuts" 5 ["table","some","worth"] p47){p48:Sp}(y2:DefX P w K mg base "shares" 4 ["table"] p48)
def xH (K:aa):TS:=aH (cK (aBs (tCB (aBQ K) (aA (aC 0) (aA (tC (.ty "int")) aF))) (aIv (tCB (aBQ K) (aA (aC 0) (aA (tC (.ty "bool")) aF)))))) aG
def aCM:OkN P w K mg base "is_whole" (top 6) 1 ["thing"] ["thing"] (xH K):=by walk_at "K"
def pP (K:aa)(p0:Sp):TS:=aH (cK (aBs (tCB (aBQ K) (aA (aC 0) (aA (tC (.ty "tuple")) aF))) (tCB (aMf K) (aA (bJ [none] (dU K (aC 0)) (aE 0) [] λacc=>(bG (aL p0 [] E0 (AR 0)) acc)) aF)))) aG
def xW:OkN P w K mg base "are_wholes" (top 7) 2 ["thing"] ["thing"] (pP K p0):=by walk_at "K"
def aCg (K:aa)(p1:Sp):TS:=aH (eC (aT (tOp yLt (aC 1) (AC 0))) (aH (aP (tUn pK (aC 2)) (aE 2)) aG) aG) (aH (cK (bH (aA (tOp qA (aC 0) (aC 2)) (aA (tOp qA (aC 1) (aC 2)) aF)))) aG)
def aDL (K:aa)(p1:Sp):TS:=aH (aP (aL p1 [] E0 (aA (aC 0) (AR 1))) (aE 2)) (aCg K p1)
def aGI:OkN P w K mg base "lowest" (top 9) 2 ["top","bottom","measure"] ["top","bottom"] (aDL K p1):=by walk_at "K"
def kX (K:aa):TS:=aH (wW (aT (tOp yGt (aC 1) (AC 0))) (aH (aP (tOp aBL (aC 0) (aC 1)) (aE 2)) (aH (aP (aC 1) (aE 0)) (aH (aP (aC 2) (aE 1)) aG)))) (aH (cK (aC 0)) aG)
def kU (K:aa):TS:=aH (aP (tCB aCF (AR 1)) (aE 1)) (kX K)
def iC (K:aa):TS:=aH (aP (tCB aCF (AR 0)) (aE 0)) (kU K)
def nQ:OkN P w K mg base "common_measure" (top 10) 1 ["one","other","left"] ["one","other"] (iC K):=by walk_at "K"
def qB (K:aa)(p2 p1:Sp):TS:=aH (cK (aBs (tOp yGe (aC 2) (AC 1)) (tOp (gH K) (aL p1 [] E0 (aA (aC 1) (AR 2))) (AC 1)))) aG
def qW (K:aa)(p2 p1:Sp):TS:=aH (aP (aC 0) (jG K 2 (bE (aE 1) (bE (aE 2) jU)))) (qB K p2 p1)
def lQ (K:aa)(p2 p1:Sp):TS:=aH (eC (tOr (vV (tB (aL p2 [] E0 (AR 0)))) (aT (tOp (aAk K) (tCB (gE K) (AR 0)) (AC 2)))) (aH (cK (tC (.bl false))) aG) aG) (qW K p2 p1)
def vX:OkN P w K mg base "is_fraction" (top 11) 3 ["thing","top","bottom"] ["thing"] (lQ K p2 p1):=by walk_at "K"
def aFY (K:aa)(p3:Sp):TS:=aH (cK (aL p3 [] E0 (aA (tOp cM (tOp (aN K) (aC 0) (AC 0)) (tOp (aN K) (aC 1) (AC 0))) (aA (tOp cM (tOp (aN K) (aC 0) (AC 1)) (tOp (aN K) (aC 1) (AC 1))) aF)))) aG
def aIW:OkN P w K mg base "times" (top 12) 3 ["one","other"] ["one","other"] (aFY K p3):=by walk_at "K"
def aBu (K:aa):TS:=aH (cK (tOp yLt (tOp cM (tOp (aN K) (aC 0) (AC 0)) (tOp (aN K) (aC 1) (AC 1))) (tOp cM (tOp (aN K) (aC 1) (AC 0)) (tOp (aN K) (aC 0) (AC 1))))) aG
def aEl:OkN P w K mg base "is_less" (top 13) 1 ["one","other"] ["one","other"] (aBu K):=by walk_at "K"
def mK (K:aa)(p1:Sp):TS:=aH (iJ (dU K (aC 0)) (jG K 2 (bE (aE 2) (bE (aE 3) jU))) (aH (aP (tOp cM (aC 1) (tOp qA (aC 3) (aL p1 [] E0 (aA (aC 1) (AR 3))))) (aE 1)) aG)) (aH (cK (aC 1)) aG)
def iU (K:aa)(p1:Sp):TS:=aH (aP (AC 1) (aE 1)) (mK K p1)
def qG:OkN P w K mg base "common_bottom" (top 14) 2 ["some","common","top","bottom"] ["some"] (iU K p1):=by walk_at "K"
def tW (K:aa):TS:=aH (cK (bJ [none,none,some 1] (dU K (aC 0)) (jG K 2 (bE (aE 0) (bE (aE 1) jU))) [] λacc=>(bG (tOp cM (aC 0) (tOp qA (aC 2) (aC 1))) acc))) aG
def aAU:OkN P w K mg base "tops_over" (top 15) 1 ["some","bottom"] ["some","bottom"] (tW K):=by walk_at "K"
def aEx (K:aa)(p4 p3 p5:Sp):TS:=aH (cK (aL p3 [] E0 (aA (tCB (aPL K) (aA (aL p5 [] E0 (aA (aC 0) (AR 1))) aF)) (AR 1)))) aG
def aGM (K:aa)(p4 p3 p5:Sp):TS:=aH (aP (aL p4 [] E0 (AR 0)) (aE 1)) (aEx K p4 p3 p5)
def aHV:OkN P w K mg base "total" (top 16) 3 ["some","bottom"] ["some"] (aGM K p4 p3 p5):=by walk_at "K"
def aBz (K:aa):TS:=aH (cK (tCB (aMf K) (aA (bJ [none,none,some 0] (gJ (AR 1)) (aE 0) [] λacc=>(iJ (gJ (AR 0)) (aE 1) (jC [] (bG (tOp (gH K) (tOp (aN K) (tOp (aN K) (aC 2) (aC 0)) (aC 1)) (tOp (aN K) (tOp (aN K) (aC 2) (aC 1)) (aC 0))) acc)))) aF))) aG
def aBg (K:aa):TS:=aH (aP (tCB (gE K) (AR 0)) (aE 1)) (aBz K)
def aEe:OkN P w K mg base "is_even" (top 18) 1 ["table","many"] ["table"] (aBg K):=by walk_at "K"
def oC (K:aa)(c0 c1 c2:ww)(E:XK)(p6:Sp):TS:=aH (eC (aT (tOp yLt (tCB (gE K) (AR 0)) (AC 3))) (aH (wU c1 E) aG) aG) (aH (eC (aT (tOp yGt (tCB (gE K) (AR 0)) (AC 6))) (aH (wU c2 E) aG) aG) aG)
def jZ (K:aa)(c0 c1 c2:ww)(E:XK)(p6:Sp):TS:=aH (eC (vV (tB (aL p6 [] E0 (AR 0)))) (aH (wU c0 E) aG) aG) (oC K c0 c1 c2 E p6)
def tG:OkX P w K mg base "refuse_unfit" (top 23) 2 ["table"] ["table"] (λE=>jZ K c0 c1 c2 E p6):=okX λ_ _ _ _ _ _ _ _ _=>by walk_at "X"
def sS (K:aa):TS:=aH (cK (bJ [none,none,some 0] (gJ (AR 0)) (aE 0) [] λacc=>(iJ (aIr (aA (tOp (aR K) (aC 0) (AC 1)) (AR 2))) (aE 1) (jC [] (bG (bH (aA (aC 0) (AR 1))) acc))))) aG
def aBw:OkN P w K mg base "all_pairs" (top 24) 1 ["many"] ["many"] (sS K):=by walk_at "K"
def yU (K:aa):TS:=aH (iJ (gJ (AR 0)) (aE 2) (aH (aP (tOp (aR K) (aC 1) (bJ [none,some 2] (dU K (aC 1)) (aE 0) [] λacc=>(bG (tOp (aR K) (aC 0) (bH (AR 1))) acc))) (aE 1)) aG)) (aH (cK (tSl (nD K) (aC 1) (dQ (AC 1)) (dQ (tUn pK (AC 1))))) aG)
def xF (K:aa):TS:=aH (aP (dC (aA (bH aF) aF)) (aE 1)) (yU K)
def aCb:OkN P w K mg base "all_sets" (top 25) 1 ["many","sets","place"] ["many"] (xF K):=by walk_at "K"
def vB (K:aa):TS:=aH (cK (tOp (aAk K) (tOp (rIn K false) (aC 1) (aC 0)) (tOp (rIn K false) (aC 2) (aC 0)))) aG
def aAZ:OkN P w K mg base "does_part" (top 26) 1 ["some","i","j"] ["some","i","j"] (vB K):=by walk_at "K"
def aBT (K:aa)(E:XK)(p7 p8 p9 p3 p10 p11 p12:Sp):TS:=aH (cK (bH (aA (aL p3 [] E0 (aA (tOp (aN K) (tOp (aN K) (aC 3) (tUn pK (AC 1))) (tUn pK (AC 1))) (AR 5))) (aA (aC 7) (aA (aL p11 [] E0 (aA (aC 2) (aA (aC 3) (aA (aC 4) (AR 5))))) aF))))) aG
def aCK (K:aa)(E:XK)(p7 p8 p9 p3 p10 p11 p12:Sp):TS:=aH (aP (bJ [none,none,none,some 5] (aKs K (aA (aC 1) (AR 6))) (jG K 2 (bE (jG K 2 (bE (aE 0) (bE (aE 1) jU))) (bE (aE 2) jU))) [(aT (tOp yGt (aC 2) (AC 0)))] λacc=>(bG (bH (aA (aC 0) (aA (aC 1) (aA (aL p3 [] E0 (aA (aC 2) (AR 3))) aF)))) acc)) (aE 7)) (aBT K E p7 p8 p9 p3 p10 p11 p12)
def aCS (K:aa)(E:XK)(p7 p8 p9 p3 p10 p11 p12:Sp):TS:=aH (aP (tSl (nD K) (tOp (aN K) (aC 3) (tUn pK (AC 1))) (dQ (tCB (gE K) (AR 2))) (dQ (tUn pK (AC 1)))) (aE 6)) (aCK K E p7 p8 p9 p3 p10 p11 p12)
def aCj (K:aa)(E:XK)(p7 p8 p9 p3 p10 p11 p12:Sp):TS:=aH (aP (aL p8 [] E0 (aA (aC 3) (AR 4))) (aE 5)) (aCS K E p7 p8 p9 p3 p10 p11 p12)
def aCl (K:aa)(E:XK)(p7 p8 p9 p3 p10 p11 p12:Sp):TS:=aH (aP (bJ [none,some 2] (gJ (aA (tCB (gE K) (AR 1)) aF)) (aE 0) [] λacc=>(bG (tOp (aR K) (tCB (gE K) (AR 1)) (aC 0)) acc)) (aE 4)) (aCj K E p7 p8 p9 p3 p10 p11 p12)
def aBR (K:aa)(E:XK)(p7 p8 p9 p3 p10 p11 p12:Sp):TS:=aH (aP (aL p9 [] E0 (aA (aC 0) (aA (aC 1) (AR 2)))) (aE 3)) (aCl K E p7 p8 p9 p3 p10 p11 p12)
def aCA (K:aa)(E:XK)(p7 p8 p9 p3 p10 p11 p12:Sp):TS:=aH (aP (aL p10 [] E0 (aA (tCB (gE K) (AR 0)) aF)) (aE 2)) (aBR K E p7 p8 p9 p3 p10 p11 p12)
def aCG (K:aa)(E:XK)(p7 p8 p9 p3 p10 p11 p12:Sp):TS:=aH (aP (aL p7 [] E0 (aA (tCB (gE K) (AR 0)) aF)) (aE 1)) (aCA K E p7 p8 p9 p3 p10 p11 p12)
def aDH (K:aa)(E:XK)(p7 p8 p9 p3 p10 p11 p12:Sp):TS:=aH (fF (aL p12 [] E (AR 0))) (aCG K E p7 p8 p9 p3 p10 p11 p12)
def aFm:OkX P w K mg base "shares" (top 27) 4 ["table","pairs","steps","rows","held","bottom","tops","found"] ["table"] (λE=>aDH K E p7 p8 p9 p3 p10 p11 p12):=okX λ_ _ _ _ _ _ _ _ _=>by walk_at "X"
def qL (K:aa)(p13:Sp):TS:=aH (cK (tOp (aR K) (bJ [none] (dU K (aC 1)) (aE 0) [] λacc=>(bG (bH (aA (aC 0) (aA (AC 1) aF))) acc)) (bJ [none] (dU K (aC 1)) (aE 0) [(aT (tOp (gH K) (tCB (gE K) (AR 0)) (AC 1)))] λacc=>(bG (bH (aA (aC 0) (aA (tUn pK (AC 1)) aF))) acc)))) aG
def lK (K:aa)(p13:Sp):TS:=aH (aP (bJ [none,some 0] (dU K (aL p13 [] E0 (AR 0))) (aE 0) [(tOr (aT (tOp (gH K) (aC 0) (bH (aA (AC 0) aF)))) (aJW (aT (tOp (rIn K true) (AC 0) (aC 0))) (aT (tOp yLt (tCB (gE K) (AR 0)) (tOp jL (aC 1) (AC 1))))))] λacc=>(bG (aC 0) acc)) (aE 1)) (qL K p13)
def wG:OkN P w K mg base "price_steps" (top 28) 2 ["many","sets"] ["many"] (lK K p13):=by walk_at "K"
def vJ (K:aa)(p14:Sp):TS:=aH (fF (tBM K "list" bY (aC 3) (aA (tOp (aR K) (tOp (aR K) (aC 6) (bJ [none,some 4,some 5] (dU K (aC 1)) (aE 0) [] λacc=>(bG (tIf (aT (tOp (gH K) (aC 0) (bH (aA (aC 1) (AR 2))))) (AC 1) (AC 0)) acc))) (dC (aA (tOp (aN K) (tOp (aN K) (aC 0) (aC 4)) (aC 5)) aF))) aF))) aG
def tO (K:aa)(p14:Sp):TS:=aH (cK (tOp (aR K) (aC 3) (dC (aA (tOp (aR K) (tOp (aR K) (bJ [none,none] (dU K (aC 2)) (jG K 2 (bE (aE 0) (bE (aE 1) jU))) [] λacc=>(bG (tOp cM (tUn pK (AC 2)) (aC 1)) acc)) (bJ [none] (dU K (aC 1)) (aE 0) [] λacc=>(bG (AC 0) acc))) (dC (aA (AC 0) aF))) aF)))) aG
def uC (K:aa)(p14:Sp):TS:=aH (iJ (dU K (aC 1)) (jG K 2 (bE (aE 4) (bE (aE 5) jU))) (aH (aP (bJ [none,none,some 4,some 5] (dU K (aC 2)) (jG K 2 (bE (aE 0) (bE (aE 1) jU))) [] λacc=>(bG (tIf (tB (aL p14 [] E0 (aA (aC 0) (aA (aC 2) (AR 3))))) (aC 1) (AC 0)) acc)) (aE 6)) (vJ K p14))) (tO K p14)
def pT (K:aa)(p14:Sp):TS:=aH (aP (dC aF) (aE 3)) (uC K p14)
def yG:OkN P w K mg base "first_rows" (top 29) 2 ["table","pairs","steps","rows","i","j","taken"] ["table","pairs","steps"] (pT K p14):=by walk_at "K"
def aEk (K:aa)(p15 p16 p17:Sp):TS:=aH (aP (tOp (aN K) (tOp (aN K) (aC 0) (aC 4)) (aC 3)) (aE 2)) (aH (aP (aL p15 [] E0 (AR 0)) (aE 3)) aG)
def aEH (K:aa)(p15 p16 p17:Sp):TS:=aH (aP (aC 3) (nE (aC 1) (aC 4) dO)) (aEk K p15 p16 p17)
def aEf (K:aa)(p15 p16 p17:Sp):TS:=aH (fF (aL p17 [] E0 (aA (aC 0) (aA (aC 4) (aA (aC 3) (AR 2)))))) (aEH K p15 p16 p17)
def aEj (K:aa)(p15 p16 p17:Sp):TS:=aH (wW (aT (tOp xU (aC 3) (tC .non))) (aH (aP (aL p16 [] E0 (aA (aC 0) (aA (aC 1) (AR 3)))) (aE 4)) (aEf K p15 p16 p17))) (aH (cK (aC 2)) aG)
def aEB (K:aa)(p15 p16 p17:Sp):TS:=aH (aP (aL p15 [] E0 (AR 0)) (aE 3)) (aEj K p15 p16 p17)
def aEZ (K:aa)(p15 p16 p17:Sp):TS:=aH (aP (AC 1) (aE 2)) (aEB K p15 p16 p17)
def aIm:OkN P w K mg base "climb" (top 30) 3 ["rows","held","bottom","column","at"] ["rows","held"] (aEZ K p15 p16 p17):=by walk_at "K"
def iY (K:aa):TS:=aH (iJ (aFC K (aA (tSl (nD K) (tOp (aN K) (aC 0) (tUn pK (AC 1))) bN (dQ (tUn pK (AC 1)))) aF)) (jG K 2 (bE (aE 1) (bE (aE 2) jU))) (aH (eC (aT (tOp yLt (aC 2) (AC 0))) (aH (cK (aC 1)) aG) aG) aG)) (aH (cK (tC .non)) aG)
def qQ:OkN P w K mg base "rising_column" (top 31) 1 ["rows","column","turned"] ["rows"] (iY K):=by walk_at "K"
def oW (K:aa)(p18:Sp):TS:=aH (iJ (aFC K (aA (tSl (nD K) (aC 0) bN (dQ (tUn pK (AC 1)))) aF)) (jG K 2 (bE (aE 4) (bE (aE 5) jU))) (aH (eC (aJW (aT (tOp yGt (tOp (aN K) (aC 5) (aC 2)) (AC 0))) (tOr (aT (tOp aPc (aC 3) (tC .non))) (tB (aL p18 [] E0 (aA (aC 0) (aA (aC 1) (aA (aC 2) (aA (aC 4) (AR 3))))))))) (aH (aP (aC 4) (aE 3)) aG) aG) aG)) (aH (cK (aC 3)) aG)
def jX (K:aa)(p18:Sp):TS:=aH (aP (tC .non) (aE 3)) (oW K p18)
def vA:OkN P w K mg base "tightest_row" (top 32) 2 ["rows","held","column","best","at","row"] ["rows","held","column"] (jX K p18):=by walk_at "K"
def vM (K:aa):TS:=aH (cK (aOK (tOp yLt (aC 5) (aC 6)) (aBs (tOp (gH K) (aC 5) (aC 6)) (tOp yLt (tOp (aN K) (aC 1) (aC 3)) (tOp (aN K) (aC 1) (aC 4)))))) aG
def sO (K:aa):TS:=aH (aP (tOp cM (tOp (aN K) (tOp (aN K) (aC 0) (aC 4)) (tUn pK (AC 1))) (tOp (aN K) (tOp (aN K) (aC 0) (aC 3)) (aC 2))) (aE 6)) (vM K)
def pV (K:aa):TS:=aH (aP (tOp cM (tOp (aN K) (tOp (aN K) (aC 0) (aC 3)) (tUn pK (AC 1))) (tOp (aN K) (tOp (aN K) (aC 0) (aC 4)) (aC 2))) (aE 5)) (sO K)
def yB:OkN P w K mg base "is_tighter" (top 33) 1 ["rows","held","column","at","other","one_room","other_room"] ["rows","held","column","at","other"] (pV K):=by walk_at "K"
def aFE (K:aa):TS:=aH (aP (bJ [none,none,some 4,some 2,some 6,some 3] (aKs K (aA (tOp (aN K) (aC 0) (aC 5)) (AR 4))) (jG K 2 (bE (aE 0) (bE (aE 1) jU))) [] λacc=>(bG (tOp qA (tOp jL (tOp cM (aC 0) (tOp (aN K) (aC 2) (aC 3))) (tOp cM (aC 4) (aC 1))) (aC 5)) acc)) (nE (aC 0) (aC 5) dO)) aG
def aFq (K:aa):TS:=aH (iJ (gJ (aA (tCB (gE K) (AR 0)) aF)) (aE 5) (aH (eC (aT (tOp (aAk K) (aC 5) (aC 1))) (aH (aP (tOp (aN K) (tOp (aN K) (aC 0) (aC 5)) (aC 2)) (aE 6)) (aFE K)) aG) aG)) aG
def aJV (K:aa):TS:=aH (aP (tOp (aN K) (aC 0) (aC 1)) (aE 4)) (aFq K)
def aLL:OkN P w K mg base "turn" (top 34) 1 ["rows","at","column","bottom","pivot","other","factor"] ["rows","at","column","bottom"] (aJV K):=okN λ_ _ _ _ _ _ _ nd hr=>(aS (iO (i:=4) nd rfl (.inr rfl) (gU (dL (K:=K) rfl) (pv 0) (pv 1) (λ_ _=>rfl))) (aS (aDA tf rfl (iS rfl B.range (dJ (bF (gI (K:=K) rfl) rfl B.len wX (aQ (pv 0) aY)) aY)) (cH (i:=5) nd rfl (Or.inl rfl)) (aS (aEE (vF (aCZ (K:=K) rfl hr) (pv 5) (pv 1) (wV _)) (aS (iO (i:=6) nd rfl (.inr rfl) (gU (dL (K:=K) rfl) (gU (dL (K:=K) rfl) (pv 0) (pv 5) (λ_ _=>rfl)) (pv 2) (λ_ _=>rfl))) (aS (aJL (iQ (N':=["part","own","pivot","column","factor","bottom"]) (ix:=[none,none,some 4,some 2,some 6,some 3]) rfl rfl rfl (aGY (K:=K) rfl rfl B.zip (rN (gU (dL (K:=K) rfl) (pv 0) (pv 5) (λ_ _=>rfl)) (aQ (pv 4) aY))) (λ_ _ _=>(oH (K:=K) rfl rfl (dE (cH (i:=0) (show(["part","own","pivot","column","factor","bottom"]:List u8).Nodup from by decide+kernel) rfl (Or.inl rfl)) (dE (cH (i:=1) (show(["part","own","pivot","column","factor","bottom"]:List u8).Nodup from by decide+kernel) rfl (Or.inl rfl)) oZ)))) (λ_ _ _=>.nil) (λ_ _ _ _=>(fA rfl (wJ aDX (wJ aBC (wJ xQ (pv 0) (gU (dL (K:=K) rfl) (pv 2) (pv 3) (λ_ _=>rfl))) (wJ xQ (pv 4) (pv 1))) (pv 5)) rfl))) (aJA (pv 0) (pv 5) aDB)) cT)) cT) cT)) cT))
def vY (K:aa)(p3:Sp):TS:=aH (fF (tBM K "list" bY (aC 4) (aA (bH (aA (aC 7) (aA (aL p3 [] E0 (aA (tOp cM (aC 8) (tOp (aN K) (aC 5) (tUn pK (AC 1)))) (AR 3))) aF))) aF))) aG
def wN (K:aa)(p3:Sp):TS:=aH (iJ (aKs K (aA (aC 1) (AR 2))) (jG K 2 (bE (aE 5) (bE (aE 6) jU))) (aH (eC (aJW (aT (tOp yLt (aC 6) (tCB (gE K) (AR 0)))) (aT (tOp (aAk K) (tOp (aN K) (aC 5) (tUn pK (AC 1))) (AC 0)))) (aH (aP (tOp (aN K) (aC 0) (aC 6)) (jG K 2 (bE (aE 7) (bE (aE 8) jU)))) (vY K p3)) aG) aG)) (aH (cK (tCB (oD K) (AR 4))) aG)
def tJ (K:aa)(p3:Sp):TS:=aH (aP (dC aF) (aE 4)) (wN K p3)
def aAO:OkN P w K mg base "told_cuts" (top 35) 3 ["steps","rows","held","bottom","cuts","row","column","some","sign"] ["steps","rows","held","bottom"] (tJ K p3):=by walk_at "K"
def aAR (K:aa):TS:=aH (cK (tCB (aMf K) (aA (bJ [none,none] (aKs K (aA (aC 0) (aA (tSl (nD K) (aC 0) (dQ (AC 1)) bN) aF))) (jG K 2 (bE (aE 0) (bE (aE 1) jU))) [] λacc=>(bG (tOp (aOI K) (aC 0) (aC 1)) acc)) aF))) aG
def aEv:OkN P w K mg base "do_rise" (top 36) 1 ["some"] ["some"] (aAR K):=by walk_at "K"
def zI (K:aa)(c3:ww)(E:XK)(p7 p19 p20 p21 p22 p23 p24 p12:Sp):TS:=aH (cK (tOp (gH K) (aL p23 [] E0 (aA (tC (.ref c3)) (aA (aL p24 [] E0 (aA (bJ [none,none] (dU K (aC 1)) (jG K 2 (bE (aE 0) (bE (aE 1) jU))) [] λacc=>(bG (aC 1) acc)) aF)) aF))) (aC 2))) aG
def zZ (K:aa)(c3:ww)(E:XK)(p7 p19 p20 p21 p22 p23 p24 p12:Sp):TS:=aH (eC (tB (tCB (aPg K) (aA (bJ [none,none,some 0,some 1] (dU K (aL p7 [] E0 (AR 3))) (jG K 2 (bE (aE 0) (bE (aE 1) jU))) [] λacc=>(bG (aL p22 [] E0 (aA (bH (aA (tOp (aN K) (tOp (aN K) (aC 2) (aC 0)) (aC 1)) (aA (AC 1) aF))) (aA (aL p19 [] E0 (aA (aC 3) (aA (aC 0) (AR 1)))) aF))) acc)) aF))) (aH (cK (tC (.bl false))) aG) aG) (zI K c3 E p7 p19 p20 p21 p22 p23 p24 p12)
def aAa (K:aa)(c3:ww)(E:XK)(p7 p19 p20 p21 p22 p23 p24 p12:Sp):TS:=aH (eC (tOr (vV (tB (tCB (aMf K) (aA (bJ [none,some 3] (dU K (aC 1)) (aE 0) [] λacc=>(bG (aL p21 [] E0 (aA (aC 1) (AR 0))) acc)) aF)))) (vV (tB (aL p20 [] E0 (aA (bJ [none] (dU K (aC 1)) (aE 0) [] λacc=>(bG (tOp (aN K) (aC 0) (AC 0)) acc)) aF))))) (aH (cK (tC (.bl false))) aG) aG) (zZ K c3 E p7 p19 p20 p21 p22 p23 p24 p12)
def zS (K:aa)(c3:ww)(E:XK)(p7 p19 p20 p21 p22 p23 p24 p12:Sp):TS:=aH (aP (tCB (gE K) (AR 0)) (aE 3)) (aAa K c3 E p7 p19 p20 p21 p22 p23 p24 p12)
def xK (K:aa)(c3:ww)(E:XK)(p7 p19 p20 p21 p22 p23 p24 p12:Sp):TS:=aH (fF (aL p12 [] E (AR 0))) (zS K c3 E p7 p19 p20 p21 p22 p23 p24 p12)
def aCE:OkX P w K mg base "are_cuts" (top 37) 5 ["table","some","worth","many"] ["table","some","worth"] (λE=>xK K c3 E p7 p19 p20 p21 p22 p23 p24 p12):=okX λ_ _ _ _ _ _ E nd hr=>(aS (tZ (aGF (y0.mono (by decide)) hr rfl xL (aQ (pv 0) aY))) (aS (PS.nox (iO (i:=3) nd rfl (.inr rfl) (bF (gI (K:=K) rfl) rfl B.len wX (aQ (pv 0) aY)))) (aS (PS.nox (aEE (PW.pt (aNn (aHm (aBr (bF (aAT (K:=K) rfl rfl) rfl B.all aJF (dB (iQ (N':=["thing","many"]) (ix:=[none,some 3]) rfl rfl rfl (gL (K:=K) rfl (pv 1)) (λ_ _ _=>(cH (i:=0) (show(["thing","many"]:List u8).Nodup from by decide+kernel) rfl (Or.inl rfl))) (λ_ _ _=>.nil) (λ_ _ _ _=>(fA rfl (eJ (d20.mono (by decide)) hr rfl (aQ (pv 1) (aQ (pv 0) aY))) rfl))) aY)))) (aKb (aHm (aBr (eJ (d19.mono (by decide)) hr rfl (dB (iQ (N':=["thing"]) (ix:=[none]) rfl rfl rfl (gL (K:=K) rfl (pv 1)) (λ_ _ _=>(cH (i:=0) (show(["thing"]:List u8).Nodup from by decide+kernel) rfl (Or.inl rfl))) (λ_ _ _=>.nil) (λ_ _ _ _=>(fA rfl (gU (dL (K:=K) rfl) (pv 0) eP (λ_ _=>rfl)) rfl))) aY))))))) (aS (aAP aLV) cT) cT)) (aS (PS.nox (aEE (aBr (bF (aAx (K:=K) rfl rfl) rfl GA aJv (dB (iQ (N':=["i","j","table","some"]) (ix:=[none,none,some 0,some 1]) rfl rfl rfl (gL (K:=K) rfl (eJ (d7.mono (by decide)) hr rfl (aQ (pv 3) aY))) (λ_ _ _=>(oH (K:=K) rfl rfl (dE (cH (i:=0) (show(["i","j","table","some"]:List u8).Nodup from by decide+kernel) rfl (Or.inl rfl)) (dE (cH (i:=1) (show(["i","j","table","some"]:List u8).Nodup from by decide+kernel) rfl (Or.inl rfl)) oZ)))) (λ_ _ _=>.nil) (λ_ _ _ _=>(fA rfl (eJ (d21.mono (by decide)) hr rfl (rD (uI (rN (gU (dL (K:=K) rfl) (gU (dL (K:=K) rfl) (pv 2) (pv 0) (λ_ _=>rfl)) (pv 1) (λ_ _=>rfl)) (dM eP aY))) (dJ (eJ (d18.mono (by decide)) hr rfl (aQ (pv 3) (aQ (pv 0) (aQ (pv 1) aY)))) aY))) rfl))) aY))) (aS (aAP aLV) cT) cT)) (aS (PS.nox (aAP (aGx (aJI (K:=K) rfl hr) (eJ (d22.mono (by decide)) hr rfl (aQ (aBP (v:=.ref c3) rfl e3 rfl) (dJ (eJ (d23.mono (by decide)) hr rfl (dB (iQ (N':=["cut","price"]) (ix:=[none,none]) rfl rfl rfl (gL (K:=K) rfl (pv 1)) (λ_ _ _=>(oH (K:=K) rfl rfl (dE (cH (i:=0) (show(["cut","price"]:List u8).Nodup from by decide+kernel) rfl (Or.inl rfl)) (dE (cH (i:=1) (show(["cut","price"]:List u8).Nodup from by decide+kernel) rfl (Or.inl rfl)) oZ)))) (λ_ _ _=>.nil) (λ_ _ _ _=>(fA rfl (pv 1) rfl))) aY)) aY))) (pv 2) (wV _)))) cT)))))
def aCC (K:aa)(p13 p2 p25:Sp):TS:=aH (cK (aOK (tOp yGt (tOp (aN K) (aC 3) (AC 0)) (AC 0)) (aBs (tOp (gH K) (tCB (gE K) (AR 2)) (AC 1)) (tOp yLt (tOp (aN K) (aC 3) (AC 0)) (AC 0))))) aG
def aBV (K:aa)(p13 p2 p25:Sp):TS:=aH (eC (tOr (vV (tB (aL p2 [] E0 (AR 2)))) (tOr (aT (tOp (aMb K true) (aC 2) (aL p13 [] E0 (AR 0)))) (vV (tB (aL p25 [] E0 (AR 3)))))) (aH (cK (tC (.bl false))) aG) aG) (aCC K p13 p2 p25)
def aCi (K:aa)(p13 p2 p25:Sp):TS:=aH (aP (aC 1) (jG K 2 (bE (aE 2) (bE (aE 3) jU)))) (aBV K p13 p2 p25)
def aDw (K:aa)(p13 p2 p25:Sp):TS:=aH (eC (tOr (vV (tB (tCB (aBQ K) (aA (aC 1) (aA (tC (.ty "tuple")) aF))))) (aT (tOp (aAk K) (tCB (gE K) (AR 1)) (AC 2)))) (aH (cK (tC (.bl false))) aG) aG) (aCi K p13 p2 p25)
def aET:OkN P w K mg base "is_cut" (top 38) 4 ["many","thing","cut","price"] ["many","thing"] (aDw K p13 p2 p25):=by walk_at "K"
def aAq (K:aa)(p14 p24:Sp):TS:=aH (cK (aL p24 [] E0 (aA (bJ [none,none,some 1,some 2] (dU K (aC 0)) (jG K 2 (bE (aE 0) (bE (aE 1) jU))) [(tB (aL p14 [] E0 (aA (aC 0) (aA (aC 2) (AR 3)))))] λacc=>(bG (aC 1) acc)) aF))) aG
def aEF:OkN P w K mg base "between" (top 39) 4 ["some","i","j"] ["some","i","j"] (aAq K p14 p24):=by walk_at "K"
def qI (K:aa):TS:=aH (aP (tOp aBL (tOp (aR K) (tOp (aR K) (tOp cM (aC 3) (aC 3)) (tOp cM (aC 2) (AC 31))) (AC 5)) (AC 2147483563)) (aE 4)) (aH (cK (tOp (aR K) (tOp cM (tOp (aR K) (tOp cM (aC 2) (AC 2147483659)) (aC 3)) (AC 2147483693)) (aC 4))) aG)
def qS (K:aa):TS:=aH (aP (tOp aBL (tOp (aR K) (tOp (aR K) (tOp cM (aC 2) (aC 2)) (tOp cM (aC 1) (AC 7919))) (tOp aBL (aC 0) (AC 65537))) (AC 2147483587)) (aE 3)) (qI K)
def mP (K:aa):TS:=aH (aP (tOp aBL (tOp (aR K) (tOp (aR K) (tOp cM (tOp aBL (aC 0) (AC 1000000007)) (AC 69069)) (tOp cM (aC 1) (AC 40503))) (AC 977)) (AC 2147483629)) (aE 2)) (qS K)
def wC:OkN P w K mg base "_law_cmixed" (top 41) 1 ["cell","at","one","two","three"] ["cell","at"] (mP K):=by walk_at "K"
def pU (K:aa):TS:=aH (cK (dC (aA (tCB (aBZ K) (aA (tSl (nD K) (aC 0) bN (dQ (AC 40))) aF)) (aA (AC 0) (aA (AC 0) aF))))) aG
def zB:OkN P w K mg base "_law_copen" (top 42) 1 ["script"] ["script"] (pU K):=by walk_at "K"
def tR (K:aa)(p26:Sp):TS:=aH (eC (tOr (aT (tOp yLt (aC 3) (tOp aEy (AC 10) (AC 18)))) (aT (tOp yGe (aC 2) (tCB (gE K) (aA (tOp (aN K) (aC 0) (AC 0)) aF))))) (aH (aP (aL p26 [] E0 (aA (aC 3) (AR 2))) (nE (aC 0) (AC 2) dO)) aG) aG) aG
def uW (K:aa)(p26:Sp):TS:=aH (aP (aC 3) (nE (aC 0) (AC 2) dO)) (tR K p26)
def uN (K:aa)(p26:Sp):TS:=aH (aP (tOp (aR K) (aC 2) (AC 1)) (nE (aC 0) (AC 1) dO)) (uW K p26)
def uA (K:aa)(p26:Sp):TS:=aH (aP (tOp (aN K) (tOp (aN K) (aC 0) (AC 0)) (tOp aBL (aC 2) (tCB (gE K) (aA (tOp (aN K) (aC 0) (AC 0)) aF)))) (aE 3)) (uN K p26)
def uH (K:aa)(p26:Sp):TS:=aH (aP (tOp aBL (tOp (aN K) (aC 0) (AC 2)) (aC 1)) (aE 4)) (aH (aP (tOp qA (tOp (aN K) (aC 0) (AC 2)) (aC 1)) (nE (aC 0) (AC 2) dO)) (aH (cK (aC 4)) aG))
def pG (K:aa)(p26:Sp):TS:=aH (eC (aJW (aT (tOp yLt (tOp (aN K) (aC 0) (AC 2)) (aC 1))) (aT (tOp yGt (tCB (gE K) (aA (tOp (aN K) (aC 0) (AC 0)) aF)) (AC 0)))) (aH (aP (tOp (aN K) (aC 0) (AC 1)) (aE 2)) (uA K p26)) aG) (uH K p26)
def aAd:OkN P w K mg base "_law_cdraw" (top 43) 2 ["feed","many","at","cell","found"] ["feed","many"] (pG K p26):=by walk_at "K"
def zU (K:aa):TS:=aH (cK (aBs (tCB (aBQ K) (aA (aC 0) (aA (tC (.ty "int")) aF))) (aIv (tCB (aBQ K) (aA (aC 0) (aA (tC (.ty "bool")) aF)))))) aG
def wE:OkN P w K mg base "_law_cwhole" (top 44) 1 ["thing"] ["thing"] (zU K):=by walk_at "K"
def qX (K:aa):TS:=aH (iJ (gJ (AR 0)) (aE 2) (aH (aP (tOp (aR K) (aC 1) (bJ [none,some 2] (aIr (aA (tOp (aR K) (aC 2) (AC 1)) (AR 0))) (aE 0) [] λacc=>(bG (bH (aA (aC 1) (AR 0))) acc))) (aE 1)) aG)) (aH (cK (aC 1)) aG)
def lD (K:aa):TS:=aH (aP (dC aF) (aE 1)) (qX K)
def wF:OkN P w K mg base "_law_cpairs" (top 45) 1 ["many","found","i"] ["many"] (lD K):=by walk_at "K"
def qF (K:aa):TS:=aH (aP (tCB wH (aA (tOp (aN K) (tOp (aN K) (aC 1) (aC 3)) (aC 4)) (AR 5))) (nE (tOp (aN K) (aC 1) (aC 3)) (aC 4) dO)) aG
def qK (K:aa):TS:=aH (cK (tCB (lR K) (aA (bJ [none] (dU K (aC 1)) (aE 0) [] λacc=>(bG (tCB (lR K) (AR 0)) acc)) aF))) aG
def qN (K:aa):TS:=aH (iJ (gJ (aA (tCB (gE K) (AR 0)) aF)) (aE 2) (aH (iJ (gJ (aA (tCB (gE K) (AR 0)) aF)) (aE 3) (aH (iJ (gJ (aA (tCB (gE K) (AR 0)) aF)) (aE 4) (aH (aP (tOp (aR K) (tOp (aN K) (tOp (aN K) (aC 1) (aC 3)) (aC 2)) (tOp (aN K) (tOp (aN K) (aC 1) (aC 2)) (aC 4))) (aE 5)) (qF K))) aG)) aG)) (qK K)
def lS (K:aa):TS:=aH (aP (bJ [none] (dU K (aC 0)) (aE 0) [] λacc=>(bG (tCB (aBZ K) (AR 0)) acc)) (aE 1)) (qN K)
def wO:OkN P w K mg base "_law_cshort" (top 46) 1 ["rows","found","k","i","j","step"] ["rows"] (lS K):=by walk_at "K"
def uS (K:aa)(p27 p28 p29:Sp):TS:=aH (aP (tCB wH (aA (aC 10) (aA (tOp aEy (AC 10) (AC 6)) aF))) (nE (tOp (aN K) (aC 6) (aC 8)) (aC 9) dO)) (aH (aP (tOp (aN K) (tOp (aN K) (aC 6) (aC 8)) (aC 9)) (nE (tOp (aN K) (aC 6) (aC 9)) (aC 8) dO)) aG)
def vN (K:aa)(p27 p28 p29:Sp):TS:=aH (eC (aT (tOp (gH K) (aC 4) (AC 4))) (aH (aP (tOp jL (aC 5) (AC 1)) (aE 10)) aG) aG) (uS K p27 p28 p29)
def vL (K:aa)(p27 p28 p29:Sp):TS:=aH (eC (aT (tOp (gH K) (aC 4) (AC 3))) (aH (aP (tOp (aR K) (aC 10) (tCB aCF (aA (tOp jL (tOp (aN K) (tOp (aN K) (aC 7) (aC 8)) (AC 1)) (tOp (aN K) (tOp (aN K) (aC 7) (aC 9)) (AC 1))) aF))) (aE 10)) aG) aG) (vN K p27 p28 p29)
def uR (K:aa)(p27 p28 p29:Sp):TS:=aH (eC (tOr (aT (tOp (gH K) (aC 4) (AC 2))) (aT (tOp (gH K) (aC 4) (AC 3)))) (aH (aP (tCB aCF (aA (tOp jL (tOp (aN K) (tOp (aN K) (aC 7) (aC 8)) (AC 0)) (tOp (aN K) (tOp (aN K) (aC 7) (aC 9)) (AC 0))) aF)) (aE 10)) aG) aG) (vL K p27 p28 p29)
def tK (K:aa)(p27 p28 p29:Sp):TS:=aH (eC (aT (tOp (gH K) (aC 4) (AC 1))) (aH (aP (tOp cM (tOp aBL (aC 10) (AC 2)) (tOp jL (aC 5) (AC 1))) (aE 10)) aG) aG) (uR K p27 p28 p29)
def uJ (K:aa)(p27 p28 p29:Sp):TS:=aH (cK (tCB (lR K) (aA (bJ [none] (dU K (aC 6)) (aE 0) [] λacc=>(bG (tCB (lR K) (AR 0)) acc)) aF))) aG
def tP (K:aa)(p27 p28 p29:Sp):TS:=aH (eC (aT (tOp yGt (aC 4) (AC 5))) (aH (cK (aL p29 [] E0 (AR 6))) aG) aG) (uJ K p27 p28 p29)
def vH (K:aa)(p27 p28 p29:Sp):TS:=aH (iJ (dU K (aL p28 [] E0 (AR 3))) (jG K 2 (bE (aE 8) (bE (aE 9) jU))) (aH (aP (aL p27 [] E0 (aA (aC 0) (AR 5))) (aE 10)) (tK K p27 p28 p29))) (tP K p27 p28 p29)
def tL (K:aa)(p27 p28 p29:Sp):TS:=aH (aP (bJ [none,some 0,some 5] (gJ (AR 3)) (aE 0) [] λacc=>(bG (bH (aA (aL p27 [] E0 (aA (aC 1) (AR 2))) (aA (aL p27 [] E0 (aA (aC 1) (AR 2))) aF))) acc)) (aE 7)) (vH K p27 p28 p29)
def sI (K:aa)(p27 p28 p29:Sp):TS:=aH (aP (bJ [none,some 3] (gJ (AR 3)) (aE 0) [] λacc=>(bG (tOp cM (dC (aA (AC 0) aF)) (aC 1)) acc)) (aE 6)) (tL K p27 p28 p29)
def qE (K:aa)(p27 p28 p29:Sp):TS:=aH (aP (tOp (aN K) (dC (aA (AC 2) (aA (AC 5) (aA (AC 30) (aA (AC 1000001) aF))))) (aL p27 [] E0 (aA (aC 0) (aA (AC 4) aF)))) (aE 5)) (sI K p27 p28 p29)
def qJ (K:aa)(p27 p28 p29:Sp):TS:=aH (aP (aL p27 [] E0 (aA (aC 0) (aA (AC 8) aF))) (aE 4)) (qE K p27 p28 p29)
def pF (K:aa)(p27 p28 p29:Sp):TS:=aH (aP (tOp (aR K) (aC 1) (aL p27 [] E0 (aA (aC 0) (aA (tOp (aR K) (tOp jL (aC 2) (aC 1)) (AC 1)) aF)))) (aE 3)) (qJ K p27 p28 p29)
def zA:OkN P w K mg base "_law_ceven" (top 47) 3 ["feed","least","most","many","way","top","rows","spots","i","j","found"] ["feed","least","most"] (pF K p27 p28 p29):=by walk_at "K"
def wA (K:aa):TS:=aH (wW (aT (tOp yGt (aC 3) (AC 0))) (aH (aOQ 2 3 (aA (aC 3) (aA (tOp aBL (aC 2) (aC 3)) aF))) aG)) (aH (cK (bH (aA (tOp qA (aC 0) (aC 2)) (aA (tOp qA (aC 1) (aC 2)) aF)))) aG)
def sE (K:aa):TS:=aH (aOQ 2 3 (aA (tCB aCF (AR 0)) (AR 1))) (wA K)
def aBy:OkN P w K mg base "_law_clow" (top 48) 1 ["top","bottom","one","other"] ["top","bottom"] (sE K):=by walk_at "K"
def uL (K:aa)(p30:Sp):TS:=aH (iJ (dU K (aC 0)) (aE 3) (aH (aP (aL p30 [] E0 (aA (tOp (aR K) (tOp cM (aC 1) (tOp (aN K) (aC 3) (AC 1))) (tOp cM (tOp (aN K) (aC 3) (AC 0)) (aC 2))) (aA (tOp cM (aC 2) (tOp (aN K) (aC 3) (AC 1))) aF))) (jG K 2 (bE (aE 1) (bE (aE 2) jU)))) aG)) (aH (cK (bH (aA (aC 1) (AR 2)))) aG)
def pI (K:aa)(p30:Sp):TS:=aH (aP (bH (aA (AC 0) (aA (AC 1) aF))) (jG K 2 (bE (aE 1) (bE (aE 2) jU)))) (uL K p30)
def zE:OkN P w K mg base "_law_cplus" (top 49) 2 ["some","top","bottom","one"] ["some"] (pI K p30):=by walk_at "K"
def iI (K:aa)(p30 p31:Sp):TS:=aH (cK (tOp (gH K) (aL p30 [] E0 (aA (tOp (aN K) (aC 0) (AC 0)) (aA (tOp (aN K) (aC 0) (AC 1)) aF))) (aC 0))) aG
def iH (K:aa)(p30 p31:Sp):TS:=aH (eC (tOr (vV (tB (aL p31 [] E0 (aA (tOp (aN K) (aC 0) (AC 0)) aF)))) (tOr (vV (tB (aL p31 [] E0 (aA (tOp (aN K) (aC 0) (AC 1)) aF)))) (aT (tOp yLt (tOp (aN K) (aC 0) (AC 1)) (AC 1))))) (aH (cK (tC (.bl false))) aG) aG) (iI K p30 p31)
def fH (K:aa)(p30 p31:Sp):TS:=aH (eC (tOr (vV (tB (tCB (aBQ K) (aA (aC 0) (aA (tC (.ty "tuple")) aF))))) (aT (tOp (aAk K) (tCB (gE K) (AR 0)) (AC 2)))) (aH (cK (tC (.bl false))) aG) aG) (iH K p30 p31)
def jP:OkN P w K mg base "_law_cis_fraction" (top 50) 2 ["thing"] ["thing"] (fH K p30 p31):=by walk_at "K"
def qC (K:aa)(p27:Sp):TS:=aH (wW (aT (tOp (aAk K) (aC 2) (dC aF))) (aH (fF (tBM K "list" bY (aC 3) (aA (tBM K "list" aFN (aC 2) (aA (aL p27 [] E0 (aA (aC 0) (aA (tCB (gE K) (AR 2)) aF))) aF)) aF))) aG)) (aH (cK (aC 3)) aG)
def qH (K:aa)(p27:Sp):TS:=aH (aP (dC aF) (aE 3)) (qC K p27)
def mG (K:aa)(p27:Sp):TS:=aH (aP (tCB (aBZ K) (AR 1)) (aE 2)) (qH K p27)
def wK:OkN P w K mg base "_law_corder" (top 51) 3 ["feed","some","left","found"] ["feed","some"] (mG K p27):=by walk_at "K"
def uD (K:aa):TS:=aH (cK (bJ [none,some 0] (dU K (aC 1)) (aE 0) [(aT (aBj yLt yLt (AC 0) (tCB (gE K) (AR 0)) (aC 1)))] λacc=>(bG (aC 0) acc))) aG
def uP (K:aa):TS:=aH (iJ (gJ (AR 0)) (aE 2) (aH (aP (tOp (aR K) (aC 1) (bJ [none,some 2] (dU K (aC 1)) (aE 0) [] λacc=>(bG (tOp (aR K) (aC 0) (bH (AR 1))) acc))) (aE 1)) aG)) (uD K)
def pL (K:aa):TS:=aH (aP (dC (aA (bH aF) aF)) (aE 1)) (uP K)
def xZ:OkN P w K mg base "_law_csets" (top 52) 1 ["many","found","place"] ["many"] (pL K):=by walk_at "K"
def aAw (K:aa):TS:=aH (cK (tOp (aAk K) (tOp (rIn K false) (aC 1) (aC 0)) (tOp (rIn K false) (aC 2) (aC 0)))) aG
def aAe:OkN P w K mg base "_law_cover" (top 53) 1 ["some","i","j"] ["some","i","j"] (aAw K):=by walk_at "K"
def lC (K:aa)(p31:Sp):TS:=aH (iJ (dU K (aC 1)) (aE 2) (aH (eC (tOr (vV (tB (aL p31 [] E0 (AR 2)))) (vV (aT (aBj yLe yLt (AC 0) (aC 2) (aC 0))))) (aH (cK (tC (.bl false))) aG) aG) aG)) (aH (cK (tOp (gH K) (tCB (aBZ K) (AR 1)) (tCB (rSS K) (AR 1)))) aG)
def iL (K:aa)(p31:Sp):TS:=aH (eC (tOr (vV (tB (tCB (aBQ K) (aA (aC 1) (aA (tC (.ty "tuple")) aF))))) (vV (aT (aBj yLt yLt (AC 0) (tCB (gE K) (AR 1)) (aC 0))))) (aH (cK (tC (.bl false))) aG) aG) (lC K p31)
def qV:OkN P w K mg base "_law_cis_side" (top 54) 2 ["many","some","place"] ["many","some"] (iL K p31):=by walk_at "K"
def kQ (K:aa)(p32 p33 p34 p28 p35:Sp):TS:=aH (eC (tOr (aT (tOp (gH K) (tOp (aN K) (tOp (aN K) (aC 4) (AC 1)) (AC 0)) (AC 0))) (aJW (aT (tOp yGt (tCB (gE K) (aA (tOp (aN K) (aC 4) (AC 0)) aF)) (AC 1))) (aT (tOp yLt (tOp (aN K) (tOp (aN K) (aC 4) (AC 1)) (AC 0)) (AC 0))))) (aH (cK (tC (.bl false))) aG) aG) aG
def kE (K:aa)(p32 p33 p34 p28 p35:Sp):TS:=aH (eC (tOr (vV (tB (aL p33 [] E0 (aA (aC 3) (aA (tOp (aN K) (aC 4) (AC 0)) aF))))) (vV (tB (aL p32 [] E0 (aA (tOp (aN K) (aC 4) (AC 1)) aF))))) (aH (cK (tC (.bl false))) aG) aG) (kQ K p32 p33 p34 p28 p35)
def kK (K:aa)(p32 p33 p34 p28 p35:Sp):TS:=aH (eC (aT (tOp yGt (tOp (aN K) (aC 9) (AC 0)) (tOp cM (tOp (aN K) (tOp (aN K) (aC 0) (aC 6)) (aC 7)) (tOp (aN K) (aC 9) (AC 1))))) (aH (cK (tC (.bl false))) aG) aG) aG
def kD (K:aa)(p32 p33 p34 p28 p35:Sp):TS:=aH (aP (aL p35 [] E0 (aA (bJ [none] (dU K (aC 8)) (aE 0) [] λacc=>(bG (tOp (aN K) (aC 0) (AC 1)) acc)) aF)) (aE 9)) (kK K p32 p33 p34 p28 p35)
def kI (K:aa)(p32 p33 p34 p28 p35:Sp):TS:=aH (aP (bJ [none,none] (dU K (aC 1)) (jG K 2 (bE (aE 0) (bE (aE 1) jU))) [] λacc=>(bG (aC 1) acc)) (aE 10)) (aH (cK (tOp (gH K) (aL p35 [] E0 (aA (tOp (aR K) (aC 10) (aC 10)) aF)) (aC 2))) aG)
def kS (K:aa)(p32 p33 p34 p28 p35:Sp):TS:=aH (iJ (dU K (aL p28 [] E0 (AR 3))) (jG K 2 (bE (aE 6) (bE (aE 7) jU))) (aH (aP (bJ [none,some 6,some 7] (dU K (aC 1)) (aE 0) [(tB (aL p34 [] E0 (aA (tOp (aN K) (aC 0) (AC 0)) (aA (aC 1) (AR 2)))))] λacc=>(bG (aC 0) acc)) (aE 8)) (kD K p32 p33 p34 p28 p35))) (kI K p32 p33 p34 p28 p35)
def kH (K:aa)(p32 p33 p34 p28 p35:Sp):TS:=aH (eC (aT (tOp (aAk K) (aC 5) (tCB (aLR K) (AR 5)))) (aH (cK (tC (.bl false))) aG) aG) (kS K p32 p33 p34 p28 p35)
def kO (K:aa)(p32 p33 p34 p28 p35:Sp):TS:=aH (aP (bJ [none] (dU K (aC 1)) (aE 0) [] λacc=>(bG (tOp (aN K) (aC 0) (AC 0)) acc)) (aE 5)) (kH K p32 p33 p34 p28 p35)
def kW (K:aa)(p32 p33 p34 p28 p35:Sp):TS:=aH (iJ (dU K (aC 1)) (aE 4) (aH (eC (tOr (vV (tB (tCB (aBQ K) (aA (aC 4) (aA (tC (.ty "tuple")) aF))))) (aT (tOp (aAk K) (tCB (gE K) (AR 4)) (AC 2)))) (aH (cK (tC (.bl false))) aG) aG) (kE K p32 p33 p34 p28 p35))) (kO K p32 p33 p34 p28 p35)
def kP (K:aa)(p32 p33 p34 p28 p35:Sp):TS:=aH (eC (vV (tB (tCB (aBQ K) (aA (aC 1) (aA (tC (.ty "list")) aF))))) (aH (cK (tC (.bl false))) aG) aG) (kW K p32 p33 p34 p28 p35)
def iD (K:aa)(p32 p33 p34 p28 p35:Sp):TS:=aH (aP (tCB (gE K) (AR 0)) (aE 3)) (kP K p32 p33 p34 p28 p35)
def nZ:OkN P w K mg base "_law_care_cuts" (top 55) 3 ["table","some","worth","many","thing","sides","i","j","over","paid","whole"] ["table","some","worth"] (iD K p32 p33 p34 p28 p35):=by walk_at "K"
def cV (K:aa)(p30 p35:Sp):TS:=aH (fF (tBM K "list" bY (aC 3) (aA (aL p35 [] E0 (aA (dC (aA (aC 0) (aA (bH (aA (AC 1) (aA (tOp aEy (AC 10) (AC 20)) aF))) aF))) aF)) aF))) (aH (cK (aC 3)) aG)
def gD (K:aa)(p30 p35:Sp):TS:=aH (fF (tBM K "list" bY (aC 3) (aA (aL p35 [] E0 (aA (dC (aA (aC 0) (aA (bH (aA (AC 1) (aA (AC 2) aF))) aF))) aF)) aF))) (cV K p30 p35)
def fZ (K:aa)(p30 p35:Sp):TS:=aH (aP (tOp (aR K) (aC 3) (dC (aA (bH (aA (bH (AR 1)) (AR 2))) (aA (bH (aA (aC 1) (aA (dC (AR 2)) aF))) (aA (bH (aA (tOp jL (AC 0) (aC 1)) (aA (tOp jL (AC 0) (aC 2)) aF))) aF))))) (aE 3)) (gD K p30 p35)
def gB (K:aa)(p30 p35:Sp):TS:=aH (aP (tOp (aR K) (aC 3) (dC (aA (bH (aA (aC 1) (aA (tCB aFO (AR 2)) aF))) (aA (bH (aA (tC .non) (AR 2))) (aA (bH (aA (aC 1) (aA (tC .non) aF))) aF))))) (aE 3)) (fZ K p30 p35)
def fY (K:aa)(p30 p35:Sp):TS:=aH (aP (tOp (aR K) (aC 3) (dC (aA (bH (aA (tC (.bl true)) (AR 2))) (aA (bH (aA (tOp (gH K) (aC 1) (AC 1)) (AR 2))) (aA (bH (aA (tCB aFO (AR 1)) (AR 2))) aF))))) (aE 3)) (gB K p30 p35)
def fU (K:aa)(p30 p35:Sp):TS:=aH (aP (tOp (aR K) (aC 3) (dC (aA (bH (aA (aC 1) (aA (tOp jL (AC 0) (aC 2)) aF))) (aA (bH (AR 1)) (aA (bH (aA (aC 1) (aA (tC (.bl true)) aF))) (aA (aC 1) (aA (tC .non) aF))))))) (aE 3)) (fY K p30 p35)
def fV (K:aa)(p30 p35:Sp):TS:=aH (aP (tOp (aR K) (aC 3) (dC (aA (bH (aA (tOp cM (AC 2) (aC 1)) (aA (tOp cM (AC 2) (aC 2)) aF))) (aA (bH (aA (AC 0) (aA (AC 1) aF))) (aA (bH (aA (aC 1) (aA (AC 0) aF))) (aA (dC (aA (aC 1) (AR 2))) aF)))))) (aE 3)) (fU K p30 p35)
def fT (K:aa)(p30 p35:Sp):TS:=aH (aP (bJ [none] (dU K (aC 3)) (aE 0) [] λacc=>(bG (aL p30 [] E0 (aA (tOp (aN K) (aC 0) (AC 0)) (aA (tOp (aN K) (aC 0) (AC 1)) aF))) acc)) (aE 3)) (fV K p30 p35)
def gC (K:aa)(p30 p35:Sp):TS:=aH (aP (dC (aA (bH (aA (tOp (aR K) (aC 1) (AC 1)) (AR 2))) (aA (bH (aA (tOp jL (aC 1) (AC 1)) (AR 2))) (aA (bH (aA (tOp jL (AC 0) (aC 1)) (AR 2))) aF)))) (aE 3)) (fT K p30 p35)
def dR (K:aa)(p30 p35:Sp):TS:=aH (aP (aC 0) (jG K 2 (bE (aE 1) (bE (aE 2) jU)))) (gC K p30 p35)
def gV:OkN P w K mg base "_law_cfraction_bends" (top 56) 3 ["part","top","bottom","found"] ["part"] (dR K p30 p35):=by walk_at "K"
def jS (K:aa):TS:=aH (cK (tCB (oD K) (aA (tOp (aR K) (aC 0) (aC 1)) aF))) aG
def uU:OkN P w K mg base "_law_cbeside" (top 57) 1 ["some","more"] ["some","more"] (jS K):=by walk_at "K"
def mS (K:aa):TS:=aH (cK (tOp (aR K) (tOp (aR K) (tSl (nD K) (aC 0) bN (dQ (aC 1))) (aCo K (aC 2))) (tSl (nD K) (aC 0) (dQ (tOp (aR K) (aC 1) (AC 2))) bN))) aG
def iR (K:aa):TS:=aH (aP (tSl (nD K) (aC 0) (dQ (aC 1)) (dQ (tOp (aR K) (aC 1) (AC 2)))) (aE 2)) (mS K)
def pZ:OkN P w K mg base "_law_cswapped" (top 58) 1 ["some","at","pair"] ["some","at"] (iR K):=by walk_at "K"
def oP (K:aa)(p27 p30 p34 p28 p35 p36:Sp):TS:=aH (fF (tBM K "list" bY (aC 4) (aA (tOp jL (aC 6) (aL p27 [] E0 (aA (aC 0) (aA (AC 3) aF)))) aF))) aG
def nM (K:aa)(p27 p30 p34 p28 p35 p36:Sp):TS:=aH (aP (bJ [none,none] (dU K (aC 7)) (jG K 2 (bE (aE 0) (bE (aE 1) jU))) [] λacc=>(bG (aC 1) acc)) (aE 12)) (aH (cK (bH (aA (aC 7) (aA (aL p35 [] E0 (aA (tOp (aR K) (aC 12) (aC 12)) aF)) aF)))) aG)
def oO (K:aa)(p27 p30 p34 p28 p35 p36:Sp):TS:=aH (aP (tCB (oD K) (aA (bJ [none] (dU K (aC 7)) (aE 0) [(aT (tOp (aAk K) (tOp (aN K) (aC 0) (AC 1)) (bH (aA (AC 0) (aA (AC 1) aF)))))] λacc=>(bG (aC 0) acc)) aF)) (aE 7)) (nM K p27 p30 p34 p28 p35 p36)
def oU (K:aa)(p27 p30 p34 p28 p35 p36:Sp):TS:=aH (fF (tBM K "list" bY (aC 7) (aA (bH (aA (aC 9) (aA (aL p30 [] E0 (aA (tCB (aIL K) (AR 10)) (AR 3))) aF))) aF))) (oO K p27 p30 p34 p28 p35 p36)
def pE (K:aa)(p27 p30 p34 p28 p35 p36:Sp):TS:=aH (iJ (dU K (aL p28 [] E0 (AR 2))) (jG K 2 (bE (aE 5) (bE (aE 11) jU))) (aH (eC (tB (aL p34 [] E0 (aA (aC 9) (aA (aC 5) (AR 11))))) (aH (fF (tBM K "list" bY (aC 10) (aA (tOp jL (tOp jL (tOp cM (aC 3) (tOp (aN K) (tOp (aN K) (aC 1) (aC 5)) (aC 11))) (tOp (aN K) (aC 4) (aC 5))) (tOp (aN K) (aC 4) (aC 11))) aF))) aG) aG) aG)) (oU K p27 p30 p34 p28 p35 p36)
def oJ (K:aa)(p27 p30 p34 p28 p35 p36:Sp):TS:=aH (aP (dC aF) (aE 10)) (pE K p27 p30 p34 p28 p35 p36)
def oY (K:aa)(p27 p30 p34 p28 p35 p36:Sp):TS:=aH (aP (tOp (aN K) (aC 8) (aL p27 [] E0 (aA (aC 0) (aA (tCB (gE K) (AR 8)) aF)))) (aE 9)) (oJ K p27 p30 p34 p28 p35 p36)
def nH (K:aa)(p27 p30 p34 p28 p35 p36:Sp):TS:=aH (aP (bJ [none] (dU K (aL p36 [] E0 (AR 2))) (aE 0) [(aT (tOp yGt (tCB (gE K) (AR 0)) (AC 1)))] λacc=>(bG (aC 0) acc)) (aE 8)) (oY K p27 p30 p34 p28 p35 p36)
def nJ (K:aa)(p27 p30 p34 p28 p35 p36:Sp):TS:=aH (aP (bJ [none,some 4,some 3] (gJ (AR 2)) (aE 0) [] λacc=>(bG (bH (aA (bH (AR 0)) (aA (aL p30 [] E0 (aA (tOp (aN K) (aC 1) (aC 0)) (AR 2))) aF))) acc)) (aE 7)) (nH K p27 p30 p34 p28 p35 p36)
def nY (K:aa)(p27 p30 p34 p28 p35 p36:Sp):TS:=aH (iJ (gJ (AR 2)) (aE 5) (aH (aP (tCB (aIL K) (aA (bJ [none,some 5,some 1] (gJ (AR 2)) (aE 0) [(aT (tOp (aAk K) (aC 0) (aC 1)))] λacc=>(bG (tOp (aN K) (tOp (aN K) (aC 2) (aC 1)) (aC 0)) acc)) aF)) (aE 6)) (oP K p27 p30 p34 p28 p35 p36))) (nJ K p27 p30 p34 p28 p35 p36)
def mT (K:aa)(p27 p30 p34 p28 p35 p36:Sp):TS:=aH (aP (dC aF) (aE 4)) (nY K p27 p30 p34 p28 p35 p36)
def mY (K:aa)(p27 p30 p34 p28 p35 p36:Sp):TS:=aH (aP (tOp (aN K) (dC (aA (AC 2) (aA (AC 2) (aA (AC 3) (aA (AC 7) (aA (AC 97) aF)))))) (aL p27 [] E0 (aA (aC 0) (aA (AC 5) aF)))) (aE 3)) (mT K p27 p30 p34 p28 p35 p36)
def jW (K:aa)(p27 p30 p34 p28 p35 p36:Sp):TS:=aH (aP (tCB (gE K) (AR 1)) (aE 2)) (mY K p27 p30 p34 p28 p35 p36)
def sZ:OkN P w K mg base "_law_c_drawn" (top 59) 3 ["feed","table","many","by","lows","i","low","some","sides","side","left","j","parts"] ["feed","table"] (jW K p27 p30 p34 p28 p35 p36):=okN λ_ _ _ _ _ _ _ nd hr=>(aS (iO (i:=2) nd rfl (.inl rfl) (bF (gI (K:=K) rfl) rfl B.len wX (aQ (pv 1) aY))) (aS (iO (i:=3) nd rfl (.inr rfl) (gU (dL (K:=K) rfl) (aDD (dM eP (dM eP (dM eP (dM eP (dM eP aY)))))) (eJ (d26.mono (by decide)) hr rfl (aQ (pv 0) (dM eP aY))) (λ_ _=>rfl))) (aS (iO (i:=4) nd rfl (.inr rfl) (aDD aY)) (aS (aDA tf rfl (iS rfl B.range (aQ (pv 2) aY)) (cH (i:=5) nd rfl (Or.inr rfl)) (aS (iO (i:=6) nd rfl (.inl rfl) (bF (nU (K:=K) rfl hr rfl) rfl B.min aDy (dB (iQ (N':=["j","i","table"]) (ix:=[none,some 5,some 1]) rfl rfl rfl (iS rfl B.range (aQ (pv 2) aY)) (λ_ _ _=>(cH (i:=0) (show(["j","i","table"]:List u8).Nodup from by decide+kernel) rfl (Or.inl rfl))) (λ_ _ _=>(.cons (vF (aCZ (K:=K) rfl hr) (pv 0) (pv 1) (wV _)) .nil)) (λ_ _ _ _=>(fA rfl (gU (dL (K:=K) rfl) (gU (dL (K:=K) rfl) (pv 2) (pv 1) (λ_ _=>rfl)) (pv 0) (λ_ _=>rfl)) rfl))) aY))) (aS (tZ (aAt (K:=K) rfl ku ng nh iM (pv 4) (rX (wJ aBC (pv 6) (eJ (d26.mono (by decide)) hr rfl (aQ (pv 0) (dM eP aY)))) aY))) cT))) (aS (jK (i:=7) nd rfl (Or.inl rfl) (N':=["i","lows","by"]) (ix:=[none,some 4,some 3]) rfl rfl rfl (iS rfl B.range (aQ (pv 2) aY)) (λ_ _ _=>(cH (i:=0) (show(["i","lows","by"]:List u8).Nodup from by decide+kernel) rfl (Or.inl rfl))) (λ_ _ _=>.nil) (λ_ _ _ _=>(fA rfl (uI (rD (uI (aQ (pv 0) aY)) (dJ (eJ (d29.mono (by decide)) hr rfl (rN (gU (dL (K:=K) rfl) (pv 1) (pv 0) (λ_ _=>rfl)) (aQ (pv 2) aY))) aY))) rfl))) (aS (jK (i:=8) nd rfl (Or.inl rfl) (N':=["side"]) (ix:=[none]) rfl rfl rfl (gL (K:=K) rfl (eJ (d35.mono (by decide)) hr rfl (aQ (pv 2) aY))) (λ_ _ _=>(cH (i:=0) (show(["side"]:List u8).Nodup from by decide+kernel) rfl (Or.inl rfl))) (λ_ _ _=>(.cons (vF aMt (bF (gI (K:=K) rfl) rfl B.len wX (aQ (pv 0) aY)) eP (wV _)) .nil)) (λ_ _ _ _=>(fA rfl (pv 0) rfl))) (aS (iO (i:=9) nd rfl (.inl rfl) (gU (dL (K:=K) rfl) (pv 8) (eJ (d26.mono (by decide)) hr rfl (aQ (pv 0) (dJ (bF (gI (K:=K) rfl) rfl B.len wX (aQ (pv 8) aY)) aY))) (λ_ _=>rfl))) (aS (iO (i:=10) nd rfl (.inl rfl) (aDD aY)) (aS (aDA tf rfl (gL (K:=K) rfl (eJ (d27.mono (by decide)) hr rfl (aQ (pv 2) aY))) (oH (K:=K) rfl rfl (dE (cH (i:=5) nd rfl (Or.inr rfl)) (dE (cH (i:=11) nd rfl (Or.inl rfl)) oZ))) (aS (aEE (aBr (eJ (d33.mono (by decide)) hr rfl (aQ (pv 9) (aQ (pv 5) (aQ (pv 11) aY))))) (aS (tZ (aAt (K:=K) rfl ku ng nh iM (pv 10) (rX (wJ aBC (wJ aBC (wJ xQ (pv 3) (gU (dL (K:=K) rfl) (gU (dL (K:=K) rfl) (pv 1) (pv 5) (λ_ _=>rfl)) (pv 11) (λ_ _=>rfl))) (gU (dL (K:=K) rfl) (pv 4) (pv 5) (λ_ _=>rfl))) (gU (dL (K:=K) rfl) (pv 4) (pv 11) (λ_ _=>rfl))) aY))) cT) cT) cT)) (aS (tZ (aAt (K:=K) rfl ku ng nh iM (pv 7) (rD (uI (aQ (pv 9) (dJ (eJ (d29.mono (by decide)) hr rfl (dJ (bF (nU (K:=K) rfl hr rfl) rfl B.min aDy (aQ (pv 10) aY)) (aQ (pv 3) aY))) aY))) aY))) (aS (iO (i:=7) nd rfl (.inl rfl) (bF (pO (K:=K) rfl hr) rfl B.sorted lO (dB (iQ (N':=["one"]) (ix:=[none]) rfl rfl rfl (gL (K:=K) rfl (pv 7)) (λ_ _ _=>(cH (i:=0) (show(["one"]:List u8).Nodup from by decide+kernel) rfl (Or.inl rfl))) (λ_ _ _=>(.cons (vF (aCZ (K:=K) rfl hr) (gU (dL (K:=K) rfl) (pv 0) eP (λ_ _=>rfl)) (uI (dM eP (dM eP aY))) (wV _)) .nil)) (λ_ _ _ _=>(fA rfl (pv 0) rfl))) aY))) (aS (jK (i:=12) nd rfl (Or.inl rfl) (N':=["side","part"]) (ix:=[none,none]) rfl rfl rfl (gL (K:=K) rfl (pv 7)) (λ_ _ _=>(oH (K:=K) rfl rfl (dE (cH (i:=0) (show(["side","part"]:List u8).Nodup from by decide+kernel) rfl (Or.inl rfl)) (dE (cH (i:=1) (show(["side","part"]:List u8).Nodup from by decide+kernel) rfl (Or.inl rfl)) oZ)))) (λ_ _ _=>.nil) (λ_ _ _ _=>(fA rfl (pv 1) rfl))) (aS (aAP (uI (aQ (pv 7) (dJ (eJ (d34.mono (by decide)) hr rfl (rX (wJ (aEX (K:=K) rfl) (pv 12) (pv 12)) aY)) aY)))) cT)))))))))))))
def lV (K:aa)(p37 p38 p36:Sp):TS:=aH (eC (aT (tOp (aMb K true) (aC 6) (aC 4))) (aH (fF (tBM K "list" bY (aC 3) (aA (aL p37 [] E0 (aA (aC 1) (aA (dC (aA (bH (aA (aC 5) (aA (bH (aA (AC 1) (aA (AC 2) aF))) aF))) (aA (bH (aA (aC 6) (aA (bH (aA (tUn pK (AC 1)) (aA (AC 2) aF))) aF))) aF))) aF))) aF))) aG) aG) aG
def lI (K:aa)(p37 p38 p36:Sp):TS:=aH (eC (aT (tOp (aMb K true) (aC 5) (aC 4))) (aH (fF (tBM K "list" bY (aC 3) (aA (aL p37 [] E0 (aA (aC 1) (aA (dC (aA (bH (aA (aC 5) (aA (bH (aA (AC 0) (aA (AC 1) aF))) aF))) aF)) aF))) aF))) (lV K p37 p38 p36)) aG) aG
def mV (K:aa)(p37 p38 p36:Sp):TS:=aH (iJ (dU K (tSl (nD K) (aL p38 [] E0 (aA (aC 0) (aA (aL p36 [] E0 (AR 2)) aF))) bN (dQ (AC 12)))) (aE 5) (aH (aP (tCB (lR K) (aA (bJ [none,some 5] (gJ (AR 2)) (aE 0) [(aT (tOp (aMb K true) (aC 0) (aC 1)))] λacc=>(bG (aC 0) acc)) aF)) (aE 6)) (lI K p37 p38 p36))) (aH (cK (aC 3)) aG)
def mI (K:aa)(p37 p38 p36:Sp):TS:=aH (aP (bJ [none,none] (dU K (aC 1)) (jG K 2 (bE (aE 0) (bE (aE 1) jU))) [] λacc=>(bG (aC 0) acc)) (aE 4)) (mV K p37 p38 p36)
def iN (K:aa)(p37 p38 p36:Sp):TS:=aH (aP (dC aF) (aE 3)) (mI K p37 p38 p36)
def qR:OkN P w K mg base "_law_c_put_in" (top 60) 4 ["feed","some","many","found","known","side","rest"] ["feed","some","many"] (iN K p37 p38 p36):=by walk_at "K"
def nI (K:aa)(p39 p27 p40 p30 p38 p36 p41:Sp):TS:=aH (fF (tBM K "list" bY (aC 3) (aA (tOp (aR K) (tSl (nD K) (aC 1) bN (dQ (aC 4))) (tSl (nD K) (aC 1) (dQ (tOp (aR K) (aC 4) (AC 1))) bN)) aF))) (aH (fF (tBM K "list" bY (aC 3) (aA (aL p41 [] E0 (aA (aC 1) (AR 4))) aF))) aG)
def nP (K:aa)(p39 p27 p40 p30 p38 p36 p41:Sp):TS:=aH (iJ (dU K (aC 10)) (aE 11) (aH (fF (tBM K "list" bY (aC 3) (aA (tOp (aR K) (tOp (aR K) (tSl (nD K) (aC 1) bN (dQ (aC 4))) (dC (AR 11))) (tSl (nD K) (aC 1) (dQ (tOp (aR K) (aC 4) (AC 1))) bN)) aF))) aG)) (nI K p39 p27 p40 p30 p38 p36 p41)
def nK (K:aa)(p39 p27 p40 p30 p38 p36 p41:Sp):TS:=aH (aP (tOp (aR K) (aC 10) (dC (aA (dC (aA (aC 7) (AR 8))) (aA (bH (AR 7)) (aA (bH (aA (aC 7) (aA (aC 8) (AR 8)))) aF))))) (aE 10)) (nP K p39 p27 p40 p30 p38 p36 p41)
def nO (K:aa)(p39 p27 p40 p30 p38 p36 p41:Sp):TS:=aH (aP (tOp (aR K) (aC 10) (bJ [none,some 8] (dU K (tOp (aR K) (aC 6) (dC (aA (aNM K (aC 7)) aF)))) (aE 0) [] λacc=>(bG (bH (aA (aC 0) (AR 1))) acc))) (aE 10)) (nK K p39 p27 p40 p30 p38 p36 p41)
def pC (K:aa)(p39 p27 p40 p30 p38 p36 p41:Sp):TS:=aH (aP (bJ [none,some 7] (dU K (aL p40 [] E0 (AR 8))) (aE 0) [] λacc=>(bG (bH (aA (aC 1) (AR 0))) acc)) (aE 10)) (nO K p39 p27 p40 p30 p38 p36 p41)
def nW (K:aa)(p39 p27 p40 p30 p38 p36 p41:Sp):TS:=aH (fF (tBM K "list" bY (aC 3) (aA (tOp (aR K) (tOp (aR K) (tSl (nD K) (aC 1) bN (dQ (aC 4))) (tOp aEA (dC (aA (bH (aA (aC 7) (AR 9))) aF)) (AC 2))) (tSl (nD K) (aC 1) (dQ (tOp (aR K) (aC 4) (AC 1))) bN)) aF))) (pC K p39 p27 p40 p30 p38 p36 p41)
def oB (K:aa)(p39 p27 p40 p30 p38 p36 p41:Sp):TS:=aH (aP (aL p30 [] E0 (aA (tOp (aN K) (aC 8) (AC 0)) (aA (tOp aEA (AC 2) (tOp (aN K) (aC 8) (AC 1))) aF))) (aE 9)) (nW K p39 p27 p40 p30 p38 p36 p41)
def oR (K:aa)(p39 p27 p40 p30 p38 p36 p41:Sp):TS:=aH (iJ (dU K (tSl (nD K) (aL p38 [] E0 (aA (aC 0) (aA (tCB (aBZ K) (aA (tCB aMc (aA (tCB (gE K) (AR 1)) aF)) aF)) aF))) bN (dQ (AC 5)))) (aE 4) (aH (aP (tOp (aN K) (aC 1) (aC 4)) (jG K 2 (bE (aE 7) (bE (aE 8) jU)))) (oB K p39 p27 p40 p30 p38 p36 p41))) (aH (cK (tOp (aR K) (aC 3) (aL p39 [] E0 (aA (aC 0) (aA (aC 1) (AR 2)))))) aG)
def nV (K:aa)(p39 p27 p40 p30 p38 p36 p41:Sp):TS:=aH (aP (tOp (aR K) (aC 6) (dC (aA (bH (aA (tC (.bl true)) aF)) (aA (bH (aA (AC 0) (aA (tC (.bl true)) aF))) (aA (bH (aA (tC (.bl false)) (aA (AC 1) aF))) (aA (dC (aA (AC 0) aF)) (aA (AC 0) (aA (tC .non) (aA (bH (aA (tC (.str "0")) aF)) aF))))))))) (aE 6)) (oR K p39 p27 p40 p30 p38 p36 p41)
def pD (K:aa)(p39 p27 p40 p30 p38 p36 p41:Sp):TS:=aH (aP (tOp (aR K) (aL p36 [] E0 (AR 2)) (dC (aA (bH aF) (aA (tCB aFl (aA (tCB aMc (AR 2)) aF)) (aA (bH (aA (AC 0) (aA (AC 0) aF))) (aA (bH (AR 2)) (aA (bH (aA (tUn pK (AC 1)) aF)) aF))))))) (aE 6)) (nV K p39 p27 p40 p30 p38 p36 p41)
def lZ (K:aa)(p39 p27 p40 p30 p38 p36 p41:Sp):TS:=aH (iJ (dU K (bH (aA (AC 7) (aA (tC (.bl true)) (aA (tC (.str "abc")) (aA (bH aF) (aA (bH (aA (bH aF) aF)) aF))))))) (aE 5) (aH (fF (tBM K "list" bY (aC 3) (aA (tOp (aR K) (tOp (aR K) (tSl (nD K) (aC 1) bN (dQ (aC 4))) (dC (AR 5))) (tSl (nD K) (aC 1) (dQ (aC 4)) bN)) aF))) aG)) (pD K p39 p27 p40 p30 p38 p36 p41)
def lX (K:aa)(p39 p27 p40 p30 p38 p36 p41:Sp):TS:=aH (aP (aL p27 [] E0 (aA (aC 0) (aA (tOp (aR K) (tCB (gE K) (AR 1)) (AC 1)) aF))) (aE 4)) (lZ K p39 p27 p40 p30 p38 p36 p41)
def fR (K:aa)(p39 p27 p40 p30 p38 p36 p41:Sp):TS:=aH (aP (dC (aA (aCo K (aC 1)) (aA (tOp (aR K) (aC 1) (tSl (nD K) (aC 1) bN (dQ (AC 1)))) (aA (tOp (aR K) (aC 1) (dC (aA (tC .non) aF))) (aA (dC aF) aF))))) (aE 3)) (lX K p39 p27 p40 p30 p38 p36 p41)
def uQ:OkN P w K mg base "_law_c_bends" (top 61) 5 ["feed","some","many","found","at","odd","sides","side","part","half","other","one"] ["feed","some","many"] (fR K p39 p27 p40 p30 p38 p36 p41):=by walk_at "K"
def aJi (K:aa)(p42 p43 p44 p45 p46 p35 p47 p48:Sp):TS:=aH (eC (aT (tOp (aAk K) (aC 12) (aL p44 [] E0 (aA (aC 2) (aA (aC 9) (AR 10)))))) (aH (cK (tC (.bl false))) aG) aG) aG
def aIJ (K:aa)(p42 p43 p44 p45 p46 p35 p47 p48:Sp):TS:=aH (eC (tOr (vV (tB (tCB (aBQ K) (aA (aC 12) (aA (tC (.ty "bool")) aF))))) (aT (tOp (aAk K) (tCB (aHa K) (AR 9)) (aC 11)))) (aH (cK (tC (.bl false))) aG) aG) (aJi K p42 p43 p44 p45 p46 p35 p47 p48)
def aHR (K:aa)(p42 p43 p44 p45 p46 p35 p47 p48:Sp):TS:=aH (aP (aL p47 [] E0 (aA (aC 2) (aA (aC 9) (AR 10)))) (aE 12)) (aIJ K p42 p43 p44 p45 p46 p35 p47 p48)
def aHM (K:aa)(p42 p43 p44 p45 p46 p35 p47 p48:Sp):TS:=aH (eC (tOr (vV (tB (tCB (aBQ K) (aA (aC 12) (aA (tC (.ty "bool")) aF))))) (aT (tOp (aAk K) (aC 12) (aL p44 [] E0 (aA (aC 13) (aA (aC 4) (AR 5))))))) (aH (cK (tC (.bl false))) aG) aG) aG
def aIF (K:aa)(p42 p43 p44 p45 p46 p35 p47 p48:Sp):TS:=aH (iJ (dU K (bH (aA (aC 2) (aA (aC 8) (AR 2))))) (aE 13) (aH (aP (aL p47 [] E0 (aA (aC 13) (aA (aC 4) (AR 5)))) (aE 12)) (aHM K p42 p43 p44 p45 p46 p35 p47 p48))) aG
def aHY (K:aa)(p42 p43 p44 p45 p46 p35 p47 p48:Sp):TS:=aH (aP (aL p45 [] E0 (aA (aC 1) (aA (tCB (gE K) (AR 2)) (aA (tCB (gE K) (AR 2)) aF)))) (aE 8)) (aIF K p42 p43 p44 p45 p46 p35 p47 p48)
def aIt (K:aa)(p42 p43 p44 p45 p46 p35 p47 p48:Sp):TS:=aH (iJ (dU K (aC 7)) (jG K 2 (bE (aE 9) (bE (aE 10) jU))) (aH (aP (tCB (aHa K) (AR 9)) (aE 11)) (aHR K p42 p43 p44 p45 p46 p35 p47 p48))) (aHY K p42 p43 p44 p45 p46 p35 p47 p48)
def aIC (K:aa)(p42 p43 p44 p45 p46 p35 p47 p48:Sp):TS:=aH (iJ (dU K (dC (aA (bH (aA (AC 1) (aA (AC 1) aF))) (aA (bH (aA (tUn pK (AC 1)) (aA (AC 1) aF))) (aA (bH (aA (AC 1) (aA (tOp aEy (AC 10) (AC 9)) aF))) aF))))) (aE 8) (aH (fF (tBM K "list" bY (aC 7) (aA (bH (aA (aC 4) (aA (aL p35 [] E0 (aA (dC (aA (aC 5) (AR 8))) aF)) aF))) aF))) aG)) (aIt K p42 p43 p44 p45 p46 p35 p47 p48)
def aIz (K:aa)(p42 p43 p44 p45 p46 p35 p47 p48:Sp):TS:=aH (aP (bJ [none,some 5] (dU K (aC 6)) (aE 0) [] λacc=>(bG (bH (aA (aC 0) (AR 1))) acc)) (aE 7)) (aIC K p42 p43 p44 p45 p46 p35 p47 p48)
def aIM (K:aa)(p42 p43 p44 p45 p46 p35 p47 p48:Sp):TS:=aH (iJ (dU K (dC (aA (bH (aA (tOp (aN K) (aC 3) (AC 2)) (aA (tOp (aN K) (aC 3) (AC 0)) aF))) (aA (aL p43 [] E0 (aA (aC 1) (AR 2))) aF)))) (jG K 2 (bE (aE 4) (bE (aE 5) jU))) (aH (aP (tOp (aR K) (dC (AR 4)) (aL p42 [] E0 (aA (aC 1) (aA (aC 4) (aA (tCB (gE K) (AR 2)) aF))))) (aE 6)) (aIz K p42 p43 p44 p45 p46 p35 p47 p48))) (aH (cK (tC (.bl true))) aG)
def aFU (K:aa)(p42 p43 p44 p45 p46 p35 p47 p48:Sp):TS:=aH (aP (aL p48 [] E0 (AR 2)) (aE 3)) (aIM K p42 p43 p44 p45 p46 p35 p47 p48)
def aFM (K:aa)(p42 p43 p44 p45 p46 p35 p47 p48:Sp):TS:=aH (aP (aL p45 [] E0 (aA (aC 1) (aA (AC 3) (aA (AC 6) aF)))) (aE 2)) (aFU K p42 p43 p44 p45 p46 p35 p47 p48)
def aMD (K:aa)(p42 p43 p44 p45 p46 p35 p47 p48:Sp):TS:=aH (aP (aL p46 [] E0 (AR 0)) (aE 1)) (aFM K p42 p43 p44 p45 p46 p35 p47 p48)
def aOw:OkN P w K mg base "law" (top 62) 6 ["script","feed","table","told","some","worth","bends","things","other","thing","number","seen","found","one"] ["script"] (aMD K p42 p43 p44 p45 p46 p35 p47 p48):=by walk_at "K"
end
def gd (i j:Int):Int:=((i.gcd j:Nat):Int)
def mH (h:0<j):0<gd i j:=by
 unfold gd;have:0<i.gcd j:=Int.gcd_pos_of_ne_zero_right i (by lia);lia
def jY (h:0<j):i=gd i j*(i / gd i j)/\j=gd i j*(j / gd i j)/\0<j / gd i j/\(i / gd i j).gcd (j / gd i j)=1:=by
 have g0:=mH (i:=i) h;have d1:gd i j∣i:=Int.gcd_dvd_left i j;have d2:gd i j∣j:=Int.gcd_dvd_right i j;have e2:j=gd i j*(j / gd i j):=(AM d2).symm;refine⟨(AM d1).symm,e2,?_,?_⟩
 ·apply dn;intro hn;have:=Int.mul_nonpos_of_nonneg_of_nonpos (show 0<=gd i j by lia) (show j / gd i j<=0 by lia);lia
 ·exact Int.gcd_ediv_gcd_ediv_gcd (by unfold gd at g0;lia)
def aCU {a b d:Int}(h:b∣a*d)(g:a.gcd b=1):b∣d:=by
 have h1:b.natAbs∣a.natAbs*d.natAbs:=by rw[<- xa];exact AD.mpr h
 have h2:Nat.Coprime b.natAbs a.natAbs:=by unfold Nat.Coprime;rw[wq];exact g
 exact AD.mp (Nat.Coprime.dvd_of_dvd_mul_left h2 h1)
def aOo (hb:0<b)(hd:0<d)(h:a*d=c*b):a / gd a b=c / gd c d/\b / gd a b=d / gd c d:=by
 obtain⟨e1,e2,p1,q1⟩:=jY (i:=a) hb;obtain⟨e3,e4,p2,q2⟩:=jY (i:=c) hd;have g1:=mH (i:=a) hb;have g2:=mH (i:=c) hd;generalize gd a b=g at *;generalize gd c d=k at *;generalize a / g=a' at *;generalize b / g=b' at *;generalize c / k=c' at *;generalize d / k=d' at *;have h1:a'*d'=c'*b':=by
  have:(g*k)*(a'*d')=(g*k)*(c'*b'):=by
   have l:(g*k)*(a'*d')=a*d:=by rw[e1,e4];simp only[fw,ff,fe]
   have r:(g*k)*(c'*b')=c*b:=by rw[e3,e2];simp only[fw,ff,fe]
   rw[l,r,h]
  exact xb (by have:=lr g1 g2;lia) this
 have v1:b'∣d':=by
  have:b'∣a'*d':=⟨c',by rw[h1,fe]⟩;exact aCU this q1
 have v2:d'∣b':=by
  have:d'∣c'*b':=⟨a',by rw[<- h1,fe]⟩;exact aCU this q2
 have e:b'=d':=vx (yz p2 v1) (yz p1 v2);subst e;exact⟨Int.eq_of_mul_eq_mul_right (by lia) h1,rfl⟩
def iB {x y:Int}{a b:Nat}(hx:x.natAbs<2^a)(hy:y.natAbs<2^b):(x*y).natAbs<2^(a+b):=by
 rw[xa,Nat.pow_add];exact Nat.mul_lt_mul'' hx hy
def aMZ (h:0<j)(hi:i.natAbs<2^a):(i / gd i j).natAbs<2^a:=by
 obtain⟨e1,_⟩:=jY (i:=i) h;have g0:=mH (i:=i) h;have:i.natAbs=(gd i j).natAbs*(i / gd i j).natAbs:=by rw[<- xa,<- e1]
 have:(i / gd i j).natAbs<=i.natAbs:=by
  rw[this];exact Nat.le_mul_of_pos_left _ (by lia)
 lia
def aQf {x:Int}{a b:Nat}(hx:x.natAbs<2^a)(h:a<=b):x.natAbs<2^b:=av hx (az (by decide) h)
def aOV:Sp:=λvs H Q _=>∃i j:Int,vs=[.int i,.int j]/\Q (.int (gd i j)) H
def aQy (i:Int):(if i<0 then -i else i)=((i.natAbs:Nat):Int):=by split<;>lia
def aRh {a b:Nat}:((a:Int) % (b:Int))=((a % b:Nat):Int):=(Int.natCast_emod a b).symm
def aPo:qQ1 aOV (iC K) ["one","other","left"]:=by
 intro vs H Q E h;obtain⟨i,j,rfl,q⟩:=h;refine⟨_,rfl,i,rfl,?_⟩;refine⟨_,rfl,j,rfl,?_⟩;refine⟨λm σ' H'=>H'=H/\∃(a b:Nat) (x2:Option V),σ'=[some (.int (a:Int)),some (.int (b:Int)),x2]/\b=m/\Nat.gcd a b=i.gcd j,⟨j.natAbs,rfl,i.natAbs,j.natAbs,none,by rw[aQy,aQy];rfl,rfl,rfl⟩,?_⟩;rintro m σ' H' ⟨rfl,a,b,x2,rfl,rfl,hg⟩;refine⟨_,rfl,_,_,rfl,rfl,_,rfl,?_⟩;by_cases c:0<b
 ·refine aW (At (by lia)) ⟨λσ2 H2=>H2=H'/\∃(a' b':Nat) (x2:Option V),σ2=[some (.int (a':Int)),some (.int (b':Int)),x2]/\b'<b/\Nat.gcd a' b'=i.gcd j,λσ2 H2 ⟨e,a',b',x2,e1,e2,e3⟩=>⟨b',e2,e,a',b',x2,e1,rfl,e3⟩,?_⟩;refine⟨_,rfl,_,rfl,_,_,rfl,rfl,by show(0:Int)<(b:Int);lia,_,rfl,_,rfl,rfl,b,a % b,some (.int ((a % b:Nat):Int)),?_,Nat.mod_lt _ c,?_⟩
  ·show[some (V.int (b:Int)),some (V.int ((a:Int) % (b:Int))),some (V.int ((a:Int) % (b:Int)))]=_;rw[aRh]
  ·rw[wq,<- Nat.gcd_rec,wq];exact hg
 ·refine bB (Au (by lia)) ⟨_,rfl,?_⟩;have:b=0:=by lia
  subst this;rw[Nat.gcd_zero_right] at hg;rw[hg];exact q
def qO (K:aa):Sp:=λvs H Q _=>∃i j:Int,vs=[.int i,.int j]/\0<j/\j.natAbs<2^8000/\∀p H',Same H H'->H' p=some (.tup [.int (i / gd i j),.int (j / gd i j)])->Q (.ref p) H'
def aAp (h:0<j)(hj:j.natAbs<2^8000):aOg i (gd i j):=by
 refine⟨mH h,bj ?_ hj⟩;have:=yz h (show gd i j∣j from Int.gcd_dvd_right i j);have:=mH (i:=i) h;lia
def aNV:qQ1 (qO K) (aDL K aOV) ["top","bottom","measure"]:=by
 intro vs H Q E h;obtain⟨i,j,rfl,hj,hb,q⟩:=h;refine⟨_,rfl,_,rfl,i,j,rfl,?_⟩;refine⟨_,rfl,_,_,rfl,rfl,_,rfl,bB (Au (by lia)) ?_⟩;refine⟨_,rfl,_,rfl,_,_,rfl,rfl,aAp hj hb,_,rfl,_,rfl,_,_,rfl,rfl,aAp hj hb,C9,λp hp=>?_⟩;exact q p _ (aD hp _) aB
def aLc:qQ1 (qO K) (sE K) ["top","bottom","one","other"]:=by
 intro vs H Q E h;obtain⟨i,j,rfl,hj,hb,q⟩:=h;refine⟨_,rfl,i,rfl,_,rfl,_,_,rfl,?_⟩;refine⟨λm σ' H'=>H'=H/\∃(a b:Nat),σ'=[some (.int i),some (.int j),some (.int (a:Int)),some (.int (b:Int))]/\b=m/\Nat.gcd a b=i.gcd j,⟨j.natAbs,rfl,i.natAbs,j.natAbs,by rw[aQy];show[_,_,_,some (V.int j)]=_;rw[show((j.natAbs:Nat):Int)=j by lia],rfl,rfl⟩,?_⟩;rintro m σ' H' ⟨rfl,a,b,rfl,rfl,hg⟩;refine⟨_,rfl,_,_,rfl,rfl,_,rfl,?_⟩;by_cases c:0<b
 ·refine aW (At (by lia)) ⟨λσ2 H2=>H2=H'/\∃(a' b':Nat),σ2=[some (.int i),some (.int j),some (.int (a':Int)),some (.int (b':Int))]/\b'<b/\Nat.gcd a' b'=i.gcd j,λσ2 H2 ⟨e,a',b',e1,e2,e3⟩=>⟨b',e2,e,a',b',e1,rfl,e3⟩,?_⟩;refine⟨_,rfl,_,rfl,_,rfl,_,_,rfl,rfl,by show(0:Int)<(b:Int);lia,_,_,rfl,rfl,b,a % b,?_,Nat.mod_lt _ c,?_⟩
  ·show[some (V.int i),some (V.int j),some (V.int (b:Int)),some (V.int ((a:Int) % (b:Int)))]=_;rw[aRh]
  ·rw[wq,<- Nat.gcd_rec,wq];exact hg
 ·refine bB (Au (by lia)) ?_;have:b=0:=by lia
  subst this;rw[Nat.gcd_zero_right] at hg;have eg:(a:Int)=gd i j:=by unfold gd;rw[hg]
  rw[eg];refine⟨_,rfl,_,rfl,_,_,rfl,rfl,aAp hj hb,_,rfl,_,rfl,_,_,rfl,rfl,aAp hj hb,C9,λp hp=>?_⟩;exact q p _ (aD hp _) aB
abbrev Pr:=List (Int×Int)
def prI (P:Pr):List (List Int):=P.map λe=>[e.1,e.2]
def aFP {K:aa}{H:Hp}{xs:List V}(h:Rows K H xs (prI P)){i:Nat}{x:V}(hx:xs[i]?=some x):∃e b,P[i]?=some e/\x=.ref b/\SqT K H b [.int e.1,.int e.2]:=by
 have hi:i<xs.length:=(ai.mp hx).1;have hl:i<P.length:=by rw[h.1] at hi;unfold prI at hi;rwa[af] at hi
 obtain⟨b,e1,e2⟩:=h.2 i [P[i].1,P[i].2] (by unfold prI;rw[bp,ah hl];rfl);rw[hx] at e1;exact⟨P[i],b,ah hl,cf e1,e2⟩
def aDe (h0:0<m)(h1:m<=4611686018427387904):CMul (a % m) j:=.inl ⟨by have:=Ao a (show m≠0 by lia);lia,by have:=Int.emod_lt_of_pos a h0;lia⟩
def aRa (l:ww)(k:Nat)(z:Int):HO:=.lst [.ref l,.int (k:Int),.int z]
def PenAt (H:Hp)(p l:ww)(ns:List Int)(k:Nat)(z:Int):Prop:=H p=some (aRa l k z)/\H l=some (.lst (ns.map V.int))/\l≠p
def Pen (H:Hp)(p l:ww)(ns:List Int):Prop:=∃k z,PenAt H p l ns k z
def PenAt.put (h:PenAt H p l ns k z):PenAt (upd H p (aRa l k' z')) p l ns k' z':=⟨aB,by rw[aM h.2.2];exact h.2.1,h.2.2⟩
def PenAt.x (h:PenAt H p l ns k z)(s:Same H H'):PenAt H' p l ns k z:=⟨s _ _ h.1,s _ _ h.2.1,h.2.2⟩
def Pen.x (h:Pen H p l ns)(s:Same H H'):Pen H' p l ns:=by
 obtain⟨k,z,h⟩:=h;exact⟨k,z,h.x s⟩
def Pen.ne {H:Hp}{p l:ww}{ns:List Int}(h:Pen H p l ns){x:ww}(hx:H x=none):x≠p/\x≠l:=by
 obtain⟨k,z,h⟩:=h;exact⟨λe=>(by rw[e,h.1] at hx;cases hx),λe=>(by rw[e,h.2.1] at hx;cases hx)⟩
def Pen.upd {H:Hp}{p l:ww}{ns:List Int}(h:Pen H p l ns){x:ww}{o:HO}(h1:x≠p)(h2:x≠l):Pen (upd H x o) p l ns:=by
 obtain⟨k,z,h⟩:=h;exact⟨k,z,by rw[aM (gf h1)];exact h.1,by rw[aM (gf h2)];exact h.2.1,h.2.2⟩
def aEO:at2 (dr n (dr n 0)) a b=0:=by
 unfold at2;have:(dr n (dr n (0:Int))).getD a []=[]\/(dr n (dr n (0:Int))).getD a []=dr n 0:=by
  rw[ak,nj];split
  ·exact .inr rfl
  ·exact .inl rfl
 rcases this with e|e
 ·rw[e];rfl
 ·rw[e,ak,nj];split<;>rfl
def fL (h:SqT K H a xs)(hp:H p=some (.lst ys))(sx:SameX p H H'):SqT K H' a xs:=by
 rcases h with(h|⟨ob,h⟩)|h
 ·exact .inl (.inl (sx _ _ (ne_of h hp (λz=>nomatch z)) h))
 ·exact .inl (.inr ⟨ob,sx _ _ (ne_of h hp (λz=>nomatch z)) h⟩)
 ·exact .inr h
def aLC:Sp:=λvs H Q _=>∃(c:Int) (k:Nat),vs=[.int c,.int (k:Int)]/\∀v:Int,Q (.int v) H
def aMj:qQ1 aLC (mP K) ["cell","at","one","two","three"]:=by
 intro vs H Q E h;obtain⟨c,k,rfl,q⟩:=h;refine⟨_,rfl,_,_,rfl,rfl,by show(0:Int)<1000000007;decide,.inl (.inr ⟨by decide,by decide⟩),_,rfl,.inl (.inr ⟨by decide,by decide⟩),_,_,rfl,rfl,by show(0:Int)<2147483629;decide,?_⟩;refine⟨_,rfl,_,rfl,.inl (aDe (by decide) (by decide)),_,rfl,.inl (.inr ⟨by decide,by decide⟩),_,rfl,_,_,rfl,rfl,by show(0:Int)<65537;decide,_,_,rfl,rfl,by show(0:Int)<2147483587;decide,?_⟩;refine⟨_,rfl,_,rfl,.inl (aDe (by decide) (by decide)),_,rfl,.inl (.inr ⟨by decide,by decide⟩),_,_,rfl,rfl,by show(0:Int)<2147483563;decide,?_⟩;exact⟨_,rfl,.inl (.inr ⟨by decide,by decide⟩),_,rfl,.inl (.inr ⟨by decide,by decide⟩),_,rfl,q _⟩
def aJS (K:aa):Sp:=λvs H Q _=>∃(a:ww) (ns:List Int),vs=[.ref a]/\SqL K H a (ns.map V.int)/\∀p l ms H',Same H H'->Pen H' p l ms->Q (.ref p) H'
def aLA:qQ1 (aJS K) (pU K) ["script"]:=by
 intro vs H Q E h;obtain⟨a,ns,rfl,hS,q⟩:=h;refine⟨_,rfl,_,rfl,.inl ⟨a,_,rfl,hS,λsc hsc=>?_⟩⟩;obtain⟨ms,ems,_⟩:=aJf ns none (some 40);rw[ems];refine .inl ⟨sc,_,rfl,.inl (.of aB),λl hl=>⟨Ch,λp hp=>?_⟩⟩;have hlp:l≠p:=λe=>by rw[<- e,aB] at hp;cases hp
 refine q p l ms _ (((aD hsc _).trans (aD hl _)).trans (aD hp _)) ⟨0,0,aB,?_,hlp⟩;rw[aM hlp];exact aB
def iE:Sp:=λvs H Q _=>∃(p l:ww) (ns:List Int) (m:Nat),vs=[.ref p,.int (m:Int)]/\Pen H p l ns/\1<=m/\m<2^100/\∀(r:Nat) H',r<m->Pen H' p l ns->SameX p H H'->Q (.int (r:Int)) H'
def aLl:qQ1 iE (pG K aLC) ["feed","many","at","cell","found"]:=by
 intro vs H Q E h;obtain⟨p,l,ns,m,rfl,⟨k,z,hP⟩,h1,hm,q⟩:=h;have rest:∀(G:Hp) (k':Nat) (z':Int) (x2 x3:Option V),PenAt G p l ns k' z'->SameX p H G->aH (aP (tOp aBL (tOp (aN K) (aC 0) (AC 2)) (aC 1)) (aE 4)) (aH (aP (tOp qA (tOp (aN K) (aC 0) (AC 2)) (aC 1)) (nE (aC 0) (AC 2) dO)) (aH (cK (aC 4)) aG)) {nx:=λ_ H'=>Q .non H',rt:=Q} [some (.ref p),some (.int (m:Int)),x2,x3,none] G:=λG k' z' x2 x3 hG sx=>by
  obtain⟨r,er,hr⟩:=aFT (c:=z') (n:=m) h1;refine⟨_,rfl,ixL (j:=2) (.of hG.1) rfl ⟨_,rfl,aDg h1 er ?_⟩⟩;refine⟨_,rfl,ixL (j:=2) (.of hG.1) rfl ⟨_,rfl,_,_,rfl,rfl,⟨by lia,aQf (a:=100) (by lia) (by decide)⟩,_,rfl,p,_,2,2,rfl,rfl,hG.1,rfl,?_⟩⟩;exact⟨_,rfl,q r _ hr ⟨k',z' / (m:Int),hG.put⟩ (sx.trans (SameX.put _))⟩
 refine⟨_,rfl,ixL (j:=2) (.of hP.1) rfl ⟨_,rfl,_,_,rfl,rfl,_,rfl,?_⟩⟩;by_cases c1:z<(m:Int)
 ·refine aW (At c1) ⟨_,rfl,ixL (j:=0) (.of hP.1) rfl ⟨l,_,rfl,.inl (.of hP.2.1),_,_,rfl,rfl,_,rfl,?_⟩⟩;rw[af];by_cases c2:0<ns.length
  ·refine aW (At (by lia)) ?_;obtain⟨j,ej,hj⟩:=aFT (c:=(k:Int)) (n:=ns.length) c2;refine⟨_,rfl,ixL (j:=1) (.of hP.1) rfl ?_⟩;refine⟨_,rfl,ixL (j:=0) (.of hP.1) rfl ⟨_,rfl,_,rfl,ixL (j:=0) (.of hP.1) rfl ⟨l,_,rfl,.inl (.of hP.2.1),?_⟩⟩⟩;rw[af];refine aDg c2 ej ?_;refine ixL (j:=j) (v:=.int (ns.getD j 0)) (.of hP.2.1) (by rw[bp,L2.aCL hj];rfl) ?_;generalize ns.getD j 0=c;refine⟨_,rfl,_,rfl,p,_,1,1,rfl,rfl,hP.1,rfl,?_⟩;have hP1:PenAt (upd H p (.lst ([.ref l,.int (k:Int),.int z].set 1 (.int ((k:Int)+1))))) p l ns (k+1) z:=hP.put;have sx1:SameX p H (upd H p (.lst ([.ref l,.int (k:Int),.int z].set 1 (.int ((k:Int)+1))))):=SameX.put _;generalize upd H p (.lst ([.ref l,.int (k:Int),.int z].set 1 (.int ((k:Int)+1))))=G1 at *;refine⟨_,rfl,_,rfl,p,_,2,2,rfl,rfl,hP1.1,rfl,?_⟩;have hP2:PenAt (upd G1 p (.lst ([.ref l,.int ((k+1:Nat):Int),.int z].set 2 (.int c)))) p l ns (k+1) c:=hP1.put;have sx2:=sx1.trans (SameX.put (H:=G1) (.lst ([.ref l,.int ((k+1:Nat):Int),.int z].set 2 (.int c))));generalize upd G1 p (.lst ([.ref l,.int ((k+1:Nat):Int),.int z].set 2 (.int c)))=G2 at *;have mixed:aH (aP (aL aLC [] E0 (aA (aC 3) (AR 2))) (nE (aC 0) (AC 2) dO)) aG {nx:=λσ' H'=>aH (aP (tOp aBL (tOp (aN K) (aC 0) (AC 2)) (aC 1)) (aE 4)) (aH (aP (tOp qA (tOp (aN K) (aC 0) (AC 2)) (aC 1)) (nE (aC 0) (AC 2) dO)) (aH (cK (aC 4)) aG)) {nx:=λ_ H'=>Q .non H',rt:=Q} σ' H',rt:=Q} [some (.ref p),some (.int (m:Int)),some (.int (k:Int)),some (.int c),none] G2:=by
    refine⟨_,rfl,_,rfl,c,k,rfl,λv=>⟨_,rfl,p,_,2,2,rfl,rfl,hP2.1,rfl,?_⟩⟩;exact rest _ (k+1) v _ _ hP2.put (sx2.trans (SameX.put _))
   refine⟨_,rfl,10,18,rfl,rfl,⟨by decide,by decide,by decide⟩,_,_,rfl,rfl,_,rfl,?_⟩;by_cases c3:c<10^18
   ·exact aW (At c3) (aW rfl mixed)
   ·refine bB (Au c3) ⟨_,rfl,_,rfl,ixL (j:=0) (.of hP2.1) rfl ⟨l,_,rfl,.inl (.of hP2.2.1),_,_,rfl,rfl,_,rfl,?_⟩⟩;exact tH (λ_=>mixed) λ_=>rest _ (k+1) c _ _ hP2 sx2
  ·exact bB (Au (by lia)) (rest H k z _ _ hP (SameX.refl _ _))
 ·exact bB (Au c1) (rest H k z _ _ hP (SameX.refl _ _))
def Bs (M:List (List Int))(n:Nat):Prop:=∀i j,i<n->j<n->0<=at2 M i j/\at2 M i j<=1000000
def Sy (M:List (List Int))(n:Nat):Prop:=∀i j,i<n->j<n->at2 M i j=at2 M j i
def aJG (b:Bs M n)(s:Sy M n)(q:Quad M n)(hi:i<n)(hj:j<n)(h0:0<=v)(h1:v<=1000000):Bs (aBM (aBM M i j v) j i v) n/\Sy (aBM (aBM M i j v) j i v) n:=by
 have q1:=lG (j:=j) (v:=v) q hi;have e:∀a c,at2 (aBM (aBM M i j v) j i v) a c=if(a=j/\c=i)\/(a=i/\c=j) then v else at2 M a c:=λa c=>by
  rw[zC q1 hj hi,zC q hi hj];by_cases h1:a=j/\c=i
  ·rw[C5 h1,C5 (.inl h1)]
  ·rw[C4 h1];by_cases h2:a=i/\c=j
   ·rw[C5 h2,C5 (.inr h2)]
   ·rw[C4 h2,C4 (λz=>z.elim h1 h2)]
 refine⟨λa c ha hc=>?_,λa c ha hc=>?_⟩
 ·rw[e];split
  ·exact⟨h0,h1⟩
  ·exact b a c ha hc
 ·rw[e,e];by_cases c1:(a=j/\c=i)\/(a=i/\c=j)
  ·rw[C5 c1,C5 (by lia)]
  ·rw[C4 c1,C4 (by lia)];exact s a c ha hc
def prN (L:List (Nat×Nat)):List (List Int):=L.map λe=>[(e.1:Int),(e.2:Int)]
def sN {K:aa}{H:Hp}{xs:List V}{L:List (Nat×Nat)}(h:Rows K H xs (prN L)){i:Nat}{x:V}(hx:xs[i]?=some x):∃e b,L[i]?=some e/\x=.ref b/\SqT K H b [cB e.1,cB e.2]:=by
 have hi:i<xs.length:=(ai.mp hx).1;have hl:i<L.length:=by rw[h.1] at hi;unfold prN at hi;rwa[af] at hi
 obtain⟨b,e1,e2⟩:=h.2 i [(L[i].1:Int),(L[i].2:Int)] (by unfold prN;rw[bp,ah hl];rfl);rw[hx] at e1;exact⟨L[i],b,ah hl,cf e1,e2⟩
def gN:(prN L).length=L.length:=by unfold prN;rw[af]
def aKX:prN (L++M)=prN L++prN M:=by unfold prN;rw[c4]
def mJ (h:Rows K H xs T)(g:Rows K H ys U):Rows K H (xs++ys) (T++U):=by
 refine⟨by rw[aq,aq,h.1,g.1],λi row e=>?_⟩;by_cases hi:i<T.length
 ·rw[dg hi] at e;obtain⟨b,e1,e2⟩:=h.2 i row e;exact⟨b,by rw[dg (by rw[h.1];exact hi)];exact e1,e2⟩
 ·rw[c9 (by lia)] at e;obtain⟨b,e1,e2⟩:=g.2 _ row e;exact⟨b,by rw[c9 (by rw[h.1];lia),h.1];exact e1,e2⟩
def fJ (K:aa):Sp:=λvs H Q _=>∃n:Nat,vs=[.int (n:Int)]/\n<=8/\∀F ys M H',Same H H'->H F=none->H' F=some (.lst ys)->Rows K H' ys (prN M)->(∀e∈M,e.1<e.2/\e.2<n)->(∀a b,a<b->b<n->(a,b)∈M)->M.length<=64->Q (.ref F) H'
def aHJ:qQ1 (fJ K) (lD K) ["many","found","i"]:=by
 intro vs H Q E h;obtain⟨n,rfl,h8,q⟩:=h;refine⟨C7,λF hF=>?_⟩;have mF:=aD hF (.lst []);have hF1:(upd H F (.lst [])) F=some (.lst []):=aB;generalize upd H F (.lst [])=G at *;refine⟨_,rfl,(n:Int),rfl,by lia,by lia,?_⟩;rw[cv];refine bR (lo:=0) (n:=n) (λi σ' H'=>Same H H'/\∃F x2 ys M,σ'=[some (.int (n:Int)),some (.ref F),x2]/\H F=none/\H' F=some (.lst ys)/\Rows K H' ys (prN M)/\(∀e∈M,e.1<e.2/\e.2<n)/\(∀a b,a<i->a<b->b<n->(a,b)∈M)/\M.length<=8*i) ⟨mF,F,none,[],[],rfl,hF,hF1,Rows.nil,(λ_ z=>nomatch z),(λa _ h=>absurd h (i5 a)),ar _⟩ (λi σ' H1 hi ⟨m1,F1,x2,ys,M,es,hF0,hF2,r2,g2,c2,z2⟩=>?_) λσ' H1 ⟨m1,F1,x2,ys,M,es,hF0,hF2,r2,g2,c2,z2⟩=>?_
 ·subst es;rw[jd];refine⟨_,rfl,_,rfl,_,rfl,_,_,rfl,⟨by lia,by lia,by lia,by lia⟩,λA hA=>?_⟩;rw[show((n:Int)-((i:Int)+1)).toNat=n-(i+1) by lia];have e1:prN ((bc (n-(i+1))).map λk=>(i,i+1+k))=(bc (n-(i+1))).flatMap λk=>[[(i:Int),((i+1+k:Nat):Int)]]:=by
   unfold prN;rw[fg];have:∀(L:List Nat) (f:Nat->List Int),(L.flatMap λk=>[f k])=L.map f:=λL f=>by
    induction L with
    |nil=>rfl
    |cons a L ih=>rw[m8,ih];rfl
   rw[this];rfl
  refine aDk (K:=K) [0] (prN ((bc (n-(i+1))).map λk=>(i,i+1+k))) hA (by rw[gN,af,e8];lia) (EmR.cast (yR (lo:=(i:Int)+1) (by decide) (by show 0<2;decide) λk σ2 H2 hk l2 ag2 s0 sx2=>?_) e1.symm) λσ2 H2 pre m2 hA2 r3=>?_
  ·have t1:σ2[1]?=some (some (.int (i:Int))):=(ag2 1 (by decide)).trans rfl;have e3:(i:Int)+1+(k:Int)=((i+1+k:Nat):Int):=by lia
   rw[e3] at s0;exact aHh (by show 2<=100;decide) λR hR=>⟨_,t1,_,s0,hR⟩
  ·have hF3:=m2 _ _ hF2;refine .inl ⟨F1,A,ys,pre,rfl,rfl,hF3,hA2,?_,λF4 hF4=>?_⟩
   ·rw[r3.1,r2.1,gN,gN,af,e8];exact bo (show _<=100 by lia) (by decide)
   ·have m4:=aD hF4 (.lst (ys++pre));refine⟨(m1.trans m2).trans m4,F4,_,ys++pre,M++(bc (n-(i+1))).map λk=>(i,i+1+k),rfl,(m1.trans m2).free hF4,aB,?_,λe he=>?_,λx y hx hxy hy=>?_,?_⟩
    ·rw[aKX];exact(mJ (r2.same m2) r3).same m4
    ·rcases cg.mp he with he|he
     ·exact g2 e he
     ·obtain⟨k,hk,rfl⟩:=cw.mp he;have hk:=fc.mp hk;exact⟨by show i<i+1+k;lia,by show i+1+k<n;lia⟩
    ·by_cases ci:x<i
     ·exact j3 _ (c2 x y ci hxy hy)
     ·obtain rfl:x=i:=by lia
      exact du _ (cw.mpr ⟨y-(x+1),fc.mpr (by lia),by show(x,x+1+(y-(x+1)))=(x,y);rw[show x+1+(y-(x+1))=y by lia]⟩)
    ·rw[aq,af,e8];lia
 ·subst es;exact⟨_,rfl,q F1 ys M H1 m1 hF0 hF2 r2 g2 (λa b h1 h2=>c2 a b (by lia) h1 h2) (by lia)⟩
def Flo (M:List (List Int))(n k i0 j0:Nat)(M':List (List Int)):Prop:=∀a b,a<n->b<n->at2 M' a b=if a<i0\/(a=i0/\b<j0) then min (at2 M a b) (at2 M a k+at2 M k b) else at2 M a b
def aKU (hk:k<n)(b:Bs M n)(s:Sy M n)(f:Flo M n k n 0 M'):Bs M' n/\Sy M' n:=by
 refine⟨λi j hi hj=>?_,λi j hi hj=>?_⟩
 ·rw[f i j hi hj,C5 (.inl hi)];have:=b i j hi hj;have:=b i k hi hk;have:=b k j hk hj;lia
 ·rw[f i j hi hj,f j i hj hi,C5 (.inl hi),C5 (.inl hj),s i j hi hj,s i k hi hk,s k j hk hj,BW]
def aFs (hk:k<n)(b:Bs M n)(f:Flo M n k i0 j0 M')(hx:x<n):at2 M' x k=at2 M x k/\at2 M' k x=at2 M k x:=by
 have:=b k k hk hk;constructor
 ·rw[f x k hx hk];split
  ·lia
  ·rfl
 ·rw[f k x hk hx];split
  ·lia
  ·rfl
def eU (K:aa):Sp:=λvs H Q _=>∃(F:ww) (ls:List ww) (M:List (List Int)) (n:Nat),vs=[.ref F]/\Mat H F ls M/\Quad M n/\Bs M n/\Sy M n/\1<=n/\n<=8/\∀T v H',Same H H'->Quad T n->Bs T n->Sy T n->Sh K H' (xI T) v->Q v H'
def aFn:qQ1 (eU K) (lS K) ["rows","found","k","i","j","step"]:=by
 intro vs H Q E h;obtain⟨F0,ls0,M0,n,rfl,m0,q0,b0,y0,n1,n8,q⟩:=h;have l0:ls0.length=n:=by rw[m0.len,q0.len]
 have lenF:∀{H'},Same H H'->SqL K H' F0 (ls0.map V.ref):=λs=>.of (s _ _ m0.top);refine⟨_,rfl,F0,rfl,.inl ⟨⟨_,.of m0.top⟩,λF hF=>?_⟩⟩;refine lA (vars:=[0]) (K:=K) (a:=F0) (xs:=ls0.map V.ref) (λi L H'=>∃ls:List ww,L=ls.map V.ref/\ls.length=i/\ls.Nodup/\F∉ls/\(∀(j:Nat) (x:ww) (r:List Int),ls[j]?=some x->M0[j]?=some r->H' x=some (.lst (r.map V.int)))/\(∀x∈ls,∃r:List Int,H' x=some (.lst (r.map V.int)))/\∀x∈ls,H x=none) (by decide) (by show 0<1;decide) ⟨[],rfl,rfl,w9,by simp,(λ_ _ _ z=>by cases z),by simp,by simp⟩ hF (λi L H' sm _=>lenF sm) (λi x σ1 H2 L D hx l1 ag1 s1 sm1 ha1 ⟨ls,e1,e2,e3,e4,e5,e55,e6⟩ hD=>?_) λσ1 H2 L sm1 ha1 ⟨ls,e1,e2,e3,e4,e5,e55,e6⟩=>?_
 ·have hi:i<ls0.length:=by have:=(ai.mp hx).1;rwa[af] at this
  obtain⟨row,g1,g2,g3⟩:=q0.get (show i<n by lia);obtain rfl:x=.ref ls0[i]:=by
   rw[bp,ah hi] at hx;exact(cf hx).symm
  have hrow:=m0.row i _ row (ah hi) g1;refine⟨_,s1,.inl ⟨ls0[i],row.map V.int,rfl,.inl (.of (sm1 _ _ hrow)),λp2 hp2=>?_⟩⟩;have hp2F:p2≠F:=λe=>by rw[e,ha1] at hp2;cases hp2
  refine⟨L,by rw[aM (gf hp2F)];exact ha1,bj (show L.length<=9 by rw[e1,af];lia) (by decide),?_⟩;have keep:∀b o,b≠F->H2 b=some o->upd (upd H2 p2 (.lst (row.map V.int))) F (.lst (L++[V.ref p2])) b=some o:=λb o hb e=>by
   rw[aM hb,aM (aJ e hp2)];exact e
  refine hD σ1 _ (L++[.ref p2]) l1 ag1 (λb o e=>keep b o (aJ e hF) (sm1 _ _ e)) aB ⟨ls++[p2],by rw[e1,c4];rfl,by rw[aq,e2];rfl,?_,?_,?_,?_,?_⟩
  ·refine jA e3 λhmem=>?_;obtain⟨r,g⟩:=e55 p2 hmem;rw[g] at hp2;cases hp2
  ·intro hmem;rcases cg.mp hmem with y|y
   ·exact e4 y
   ·exact hp2F (br.mp y).symm
  ·intro j x r hj hr;by_cases cj:j<ls.length
   ·rw[dg cj] at hj;exact keep x _ (λe=>e4 (e▸au hj)) (e5 j x r hj hr)
   ·have ej:j=ls.length:=by
     have:=(ai.mp hj).1;rw[aq,gg] at this;lia
    rw[ej,c9 (ar _),BU] at hj;cases hj;rw[ej,e2,g1] at hr;cases hr;rw[aM hp2F];exact aB
  ·intro x hx;rcases cg.mp hx with y|y
   ·obtain⟨r,g⟩:=e55 x y;exact⟨r,keep x _ (λe=>e4 (e▸y)) g⟩
   ·rw[br.mp y];exact⟨row,by rw[aM hp2F];exact aB⟩
  ·intro x hx;rcases cg.mp hx with y|y
   ·exact e6 x y
   ·rw[br.mp y];exact sm1.free hp2
 rw[af] at e2;have mat0:Mat H2 F ls M0:=⟨by rw[ha1,e1],by rw[e2];exact m0.len,e5,e3,e4⟩;refine⟨_,rfl,F0,_,rfl,.inl (lenF sm1),(n:Int),by rw[af,l0],by lia,by lia,?_⟩;rw[cv];refine bR (lo:=0) (n:=n) (λk σ' H'=>Same H H'/\∃x2 x3 x4 x5 M,σ'=[some (.ref F0),some (.ref F),x2,x3,x4,x5]/\Mat H' F ls M/\Quad M n/\Bs M n/\Sy M n) ⟨sm1,_,_,_,_,M0,rfl,mat0,q0,b0,y0⟩ (λk σ2 H3 hk ⟨s3,x2,x3,x4,x5,M,es,mM,qM,bM,yM⟩=>?_) λσ2 H3 ⟨s3,x2,x3,x4,x5,M,es,mM,qM,bM,yM⟩=>?_
 ·subst es;rw[jd];refine⟨_,rfl,F0,_,rfl,.inl (lenF s3),(n:Int),by rw[af,l0],by lia,by lia,?_⟩;rw[cv];refine bR (lo:=0) (n:=n) (λi σ' H'=>Same H H'/\∃x3 x4 x5 M',σ'=[some (.ref F0),some (.ref F),some (.int (k:Int)),x3,x4,x5]/\Mat H' F ls M'/\Quad M' n/\Flo M n k i 0 M') ⟨s3,_,_,_,M,rfl,mM,qM,λa b _ _=>by rw[C4 (by lia)]⟩ (λi σ3 H4 hi ⟨s4,x3,x4,x5,M4,es,m4,q4,f4⟩=>?_) λσ3 H4 ⟨s4,x3,x4,x5,M4,es,m4,q4,f4⟩=>?_
  ·subst es;rw[jd];refine⟨_,rfl,F0,_,rfl,.inl (lenF s4),(n:Int),by rw[af,l0],by lia,by lia,?_⟩;rw[cv];refine bR (lo:=0) (n:=n) (λj σ' H'=>Same H H'/\∃x4 x5 M',σ'=[some (.ref F0),some (.ref F),some (.int (k:Int)),some (.int (i:Int)),x4,x5]/\Mat H' F ls M'/\Quad M' n/\Flo M n k i j M') ⟨s4,_,_,M4,rfl,m4,q4,f4⟩ (λj σ4 H5 hj ⟨s5,x4,x5,M5,es,m5,q5,f5⟩=>?_) λσ4 H5 ⟨s5,x4,x5,M5,es,m5,q5,f5⟩=>?_
   ·subst es;rw[jd];refine aDx (t:=1) (si:=3) (sj:=2) m5 q5 rfl rfl rfl hi hk (aDx (t:=1) (si:=2) (sj:=4) m5 q5 rfl rfl rfl hk hj ?_);dsimp only[aR];refine aDx (t:=1) (si:=3) (sj:=4) m5 q5 rfl rfl rfl hi hj ⟨_,rfl,_,_,rfl,?_⟩;have ik:=(aFs hk bM f5 hi).1;have kj:=(aFs hk bM f5 hj).2;refine aBN (t:=1) (si:=3) (sj:=4) m5 q5 rfl rfl rfl hi hj λl' H6 hl' e6' m6=>⟨?_,_,_,_,rfl,m6,lG q5 hi,λa b ha hb=>?_⟩
    ·intro c o e;rw[e6',aM (aJ e (e6 l' hl'))];exact s5 _ _ e
    ·rw[zC q5 hi hj];have hij:at2 M5 i j=at2 M i j:=by rw[f5 i j hi hj,C4 (by lia)]
     by_cases ce:a=i/\b=j
     ·rw[C5 ce,hij,ik,kj];obtain⟨rfl,rfl⟩:=ce;rw[C5 (show a<a\/(a=a/\b<b+1) by lia)];split<;>lia
     ·rw[C4 ce,f5 a b ha hb];by_cases cl:a<i\/(a=i/\b<j)
      ·rw[C5 cl,C5 (by lia)]
      ·rw[C4 cl,C4 (by lia)]
   ·subst es;refine⟨s5,_,_,_,M5,rfl,m5,q5,λa b ha hb=>?_⟩;rw[f5 a b ha hb];by_cases cl:a<i+1
    ·rw[C5 (by lia),C5 (.inl cl)]
    ·rw[C4 (by lia),C4 (by lia)]
  ·subst es;obtain⟨b5,y5⟩:=aKU hk bM yM f4;exact⟨s4,_,_,_,_,M4,rfl,m4,q4,b5,y5⟩
 ·subst es;exact aAu (t:=1) rfl mM qM (by lia) λp9 H' sm hS=>q M _ H' (s3.trans sm) qM bM yM hS
def e1 (K:aa)(cQ cX cY:Sp):TS:=aH (aP (aL cQ [] E0 (aA (aC 0) (AR 5))) (aE 10)) (aH (eC (aT (tOp (gH K) (aC 4) (AC 1))) (aH (aP (tOp cM (tOp aBL (aC 10) (AC 2)) (tOp jL (aC 5) (AC 1))) (aE 10)) aG) aG) (aH (eC (tOr (aT (tOp (gH K) (aC 4) (AC 2))) (aT (tOp (gH K) (aC 4) (AC 3)))) (aH (aP (tCB aCF (aA (tOp jL (tOp (aN K) (tOp (aN K) (aC 7) (aC 8)) (AC 0)) (tOp (aN K) (tOp (aN K) (aC 7) (aC 9)) (AC 0))) aF)) (aE 10)) aG) aG) (aH (eC (aT (tOp (gH K) (aC 4) (AC 3))) (aH (aP (tOp (aR K) (aC 10) (tCB aCF (aA (tOp jL (tOp (aN K) (tOp (aN K) (aC 7) (aC 8)) (AC 1)) (tOp (aN K) (tOp (aN K) (aC 7) (aC 9)) (AC 1))) aF))) (aE 10)) aG) aG) (aH (eC (aT (tOp (gH K) (aC 4) (AC 4))) (aH (aP (tOp jL (aC 5) (AC 1)) (aE 10)) aG) aG) (aH (aP (tCB wH (aA (aC 10) (aA (tOp aEy (AC 10) (AC 6)) aF))) (nE (tOp (aN K) (aC 6) (aC 8)) (aC 9) dO)) (aH (aP (tOp (aN K) (tOp (aN K) (aC 6) (aC 8)) (aC 9)) (nE (tOp (aN K) (aC 6) (aC 9)) (aC 8) dO)) aG))))))
def e2 (K:aa)(cQ cX cY:Sp):TS:=aH (eC (aT (tOp (gH K) (aC 4) (AC 1))) (aH (aP (tOp cM (tOp aBL (aC 10) (AC 2)) (tOp jL (aC 5) (AC 1))) (aE 10)) aG) aG) (aH (eC (tOr (aT (tOp (gH K) (aC 4) (AC 2))) (aT (tOp (gH K) (aC 4) (AC 3)))) (aH (aP (tCB aCF (aA (tOp jL (tOp (aN K) (tOp (aN K) (aC 7) (aC 8)) (AC 0)) (tOp (aN K) (tOp (aN K) (aC 7) (aC 9)) (AC 0))) aF)) (aE 10)) aG) aG) (aH (eC (aT (tOp (gH K) (aC 4) (AC 3))) (aH (aP (tOp (aR K) (aC 10) (tCB aCF (aA (tOp jL (tOp (aN K) (tOp (aN K) (aC 7) (aC 8)) (AC 1)) (tOp (aN K) (tOp (aN K) (aC 7) (aC 9)) (AC 1))) aF))) (aE 10)) aG) aG) (aH (eC (aT (tOp (gH K) (aC 4) (AC 4))) (aH (aP (tOp jL (aC 5) (AC 1)) (aE 10)) aG) aG) (aH (aP (tCB wH (aA (aC 10) (aA (tOp aEy (AC 10) (AC 6)) aF))) (nE (tOp (aN K) (aC 6) (aC 8)) (aC 9) dO)) (aH (aP (tOp (aN K) (tOp (aN K) (aC 6) (aC 8)) (aC 9)) (nE (tOp (aN K) (aC 6) (aC 9)) (aC 8) dO)) aG)))))
def e3 (K:aa)(cQ cX cY:Sp):TS:=aH (eC (tOr (aT (tOp (gH K) (aC 4) (AC 2))) (aT (tOp (gH K) (aC 4) (AC 3)))) (aH (aP (tCB aCF (aA (tOp jL (tOp (aN K) (tOp (aN K) (aC 7) (aC 8)) (AC 0)) (tOp (aN K) (tOp (aN K) (aC 7) (aC 9)) (AC 0))) aF)) (aE 10)) aG) aG) (aH (eC (aT (tOp (gH K) (aC 4) (AC 3))) (aH (aP (tOp (aR K) (aC 10) (tCB aCF (aA (tOp jL (tOp (aN K) (tOp (aN K) (aC 7) (aC 8)) (AC 1)) (tOp (aN K) (tOp (aN K) (aC 7) (aC 9)) (AC 1))) aF))) (aE 10)) aG) aG) (aH (eC (aT (tOp (gH K) (aC 4) (AC 4))) (aH (aP (tOp jL (aC 5) (AC 1)) (aE 10)) aG) aG) (aH (aP (tCB wH (aA (aC 10) (aA (tOp aEy (AC 10) (AC 6)) aF))) (nE (tOp (aN K) (aC 6) (aC 8)) (aC 9) dO)) (aH (aP (tOp (aN K) (tOp (aN K) (aC 6) (aC 8)) (aC 9)) (nE (tOp (aN K) (aC 6) (aC 9)) (aC 8) dO)) aG))))
def e4 (K:aa)(cQ cX cY:Sp):TS:=aH (eC (aT (tOp (gH K) (aC 4) (AC 3))) (aH (aP (tOp (aR K) (aC 10) (tCB aCF (aA (tOp jL (tOp (aN K) (tOp (aN K) (aC 7) (aC 8)) (AC 1)) (tOp (aN K) (tOp (aN K) (aC 7) (aC 9)) (AC 1))) aF))) (aE 10)) aG) aG) (aH (eC (aT (tOp (gH K) (aC 4) (AC 4))) (aH (aP (tOp jL (aC 5) (AC 1)) (aE 10)) aG) aG) (aH (aP (tCB wH (aA (aC 10) (aA (tOp aEy (AC 10) (AC 6)) aF))) (nE (tOp (aN K) (aC 6) (aC 8)) (aC 9) dO)) (aH (aP (tOp (aN K) (tOp (aN K) (aC 6) (aC 8)) (aC 9)) (nE (tOp (aN K) (aC 6) (aC 9)) (aC 8) dO)) aG)))
def e5 (K:aa)(cQ cX cY:Sp):TS:=aH (eC (aT (tOp (gH K) (aC 4) (AC 4))) (aH (aP (tOp jL (aC 5) (AC 1)) (aE 10)) aG) aG) (aH (aP (tCB wH (aA (aC 10) (aA (tOp aEy (AC 10) (AC 6)) aF))) (nE (tOp (aN K) (aC 6) (aC 8)) (aC 9) dO)) (aH (aP (tOp (aN K) (tOp (aN K) (aC 6) (aC 8)) (aC 9)) (nE (tOp (aN K) (aC 6) (aC 9)) (aC 8) dO)) aG))
def e6 (K:aa)(cQ cX cY:Sp):TS:=aH (aP (tCB wH (aA (aC 10) (aA (tOp aEy (AC 10) (AC 6)) aF))) (nE (tOp (aN K) (aC 6) (aC 8)) (aC 9) dO)) (aH (aP (tOp (aN K) (tOp (aN K) (aC 6) (aC 8)) (aC 9)) (nE (tOp (aN K) (aC 6) (aC 9)) (aC 8) dO)) aG)
def aKm (p:ww)(ls:List ww)(H H':Hp):Prop:=∀b o,b≠p->b∉ls->H b=some o->H' b=some o
def aNF {a b:Nat}:eqD (.int (a:Int)) (.int (b:Int))=decide (a=b):=by
 rw[eqD];by_cases c:a=b
 ·rw[At c,c];simp
 ·rw[Au c];simp;lia
section
variable {K:aa}{p l F:ww}{ls:List ww}{ns:List Int}{n:Nat}
structure Ro (K:aa)(G:Hp)(p l F:ww)(ls:List ww)(ns:List Int)(n:Nat)(H':Hp):Prop where
 ex:∃M,Quad M n/\Bs M n/\Sy M n/\Mat H' F ls M
 pen:Pen H' p l ns
 sl:aKm p ls G H'
def Ro.draw (h:Ro K G p l F ls ns n H')(hF:F≠p)(hl:∀x∈ls,x≠p)(hP:Pen H2 p l ns)(sx:SameX p H' H2):Ro K G p l F ls ns n H2:=by
 obtain⟨M,q,b,s,m⟩:=h.ex;exact⟨⟨M,q,b,s,m.keep λc o hc e=>sx c o (by rcases hc with rfl|hc;exact hF;exact hl c hc) e⟩,hP,λc o hc hn e=>sx c o hc (h.sl c o hc hn e)⟩
variable {G:Hp}{x1 x2:Option V}{way top i j A:Nat}{D:xX}{zs:List V}{R:List (List Int)}
structure Fx (K:aa)(G:Hp)(p l F:ww)(ls:List ww)(n A:Nat)(zs:List V)(R:List (List Int)):Prop where
 F:F≠p
 l:∀x∈ls,x≠p/\x≠l
 Ap:A≠p
 Al:A∉ls
 hA:G A=some (.lst zs)
 rows:Rows K G zs R
 two:R.length=n/\∀r∈R,∃a b,r=[a,b]
 pen:∃o,G p=some (.lst o)
 lst:∀x∈ls,∃o,G x=some (.lst o)
def aKM (fx:Fx K G p l F ls n A zs R)(sl:aKm p ls G H')(h:SqT K G b xs):SqT K H' b xs:=by
 obtain⟨o,ho⟩:=fx.pen;have np:∀u,G b=some u->(∀ys,u≠.lst ys)->b≠p/\b∉ls:=λu e hu=>⟨λz=>by rw[z,ho] at e;exact hu _ (cf e).symm,λz=>by
  obtain⟨o',ho'⟩:=fx.lst b z;rw[ho'] at e;exact hu _ (cf e).symm⟩
 rcases h with(h|⟨ob,h⟩)|h
 ·have:=np _ h (λys e=>by cases e);exact .inl (.inl (sl _ _ this.1 this.2 h))
 ·have:=np _ h (λys e=>by cases e);exact .inl (.inr ⟨ob,sl _ _ this.1 this.2 h⟩)
 ·exact .inr h
def yE {H':Hp}{σ:St}{t s k:Nat}{c:Nat}(hk:k<2)(fx:Fx K G p l F ls n A zs R)(sl:aKm p ls G H')(ht:σ[t]?=some (some (.ref A)))(hs:σ[s]?=some (some (.int (c:Int))))(hc:c<n)(q:∀v:Int,Q (.int v) H'):tOp (aN K) (tOp (aN K) (aC t) (aC s)) (tC (.int (k:Int))) σ H' Q:=by
 have hcR:c<R.length:=by rw[fx.two.1];exact hc
 obtain⟨a,b,e⟩:=fx.two.2 _ (f7 hcR);obtain⟨d,e1,e2⟩:=fx.rows.2 c R[c] (ah hcR);have hA':=sl _ _ fx.Ap fx.Al fx.hA;rw[e] at e2;refine⟨_,ht,_,hs,ixL (j:=c) (.of hA') e1 ?_⟩
 match k,hk with
 |0,_=>exact ixT (j:=0) (aKM fx sl e2) rfl (q a)
 |1,_=>exact ixT (j:=1) (aKM fx sl e2) rfl (q b)
def StE (p:ww)(x1 x2:Option V)(n way top:Nat)(F A:ww)(i j:Nat)(x:Option V):St:=[some (.ref p),x1,x2,some (.int (n:Int)),some (.int (way:Int)),some (.int (top:Int)),some (.ref F),some (.ref A),some (.int (i:Int)),some (.int (j:Int)),x]
def aNx (fx:Fx K G p l F ls n A zs R)(ro:Ro K G p l F ls ns n H')(hi:i<n)(hj:j<n)(hij:i<j)(h0:0<=v)(q:∀x H2,Ro K G p l F ls ns n H2->D.nx (StE p x1 x2 n way top F A i j x) H2):e6 K iE (fJ K) (eU K) D (StE p x1 x2 n way top F A i j (some (.int v))) H':=by
 obtain⟨M,qM,bM,sM,mM⟩:=ro.ex;refine⟨_,rfl,10,6,rfl,rfl,⟨by decide,by decide,by decide⟩,_,_,rfl,?_⟩;have hw:∃w:Int,(if((10:Int)^(6:Int).toNat)<v then((10:Int)^(6:Int).toNat) else v)=w/\0<=w/\w<=1000000:=by
  refine⟨_,rfl,?_⟩;have:((10:Int)^(6:Int).toNat)=1000000:=by decide
  rw[this];split<;>lia
 obtain⟨w,ew,w0,w1⟩:=hw;rw[ew];refine aBN (t:=6) (si:=8) (sj:=9) mM qM rfl rfl rfl hi hj λl1 H1 hl1 e1 m1=>?_;have q1:=lG (j:=j) (v:=w) qM hi;refine aDx (t:=6) (si:=8) (sj:=9) m1 q1 rfl rfl rfl hi hj ?_;rw[zC qM hi hj,C5 ⟨rfl,rfl⟩];refine aBN (t:=6) (si:=9) (sj:=8) m1 q1 rfl rfl rfl hj hi λl2 H2 hl2 e2 m2=>q _ H2 ⟨⟨_,lG q1 hj,(aJG bM sM qM hi hj w0 w1).1,(aJG bM sM qM hi hj w0 w1).2,m2⟩,?_,λc o hc hn e=>?_⟩
 ·rw[e2,e1];exact(ro.pen.upd (fx.l l1 hl1).1 (fx.l l1 hl1).2).upd (fx.l l2 hl2).1 (fx.l l2 hl2).2
 ·rw[e2,aM (λz=>hn (by rw[z];exact hl2)),e1,aM (λz=>hn (by rw[z];exact hl1))];exact ro.sl c o hc hn e
def aNo (fx:Fx K G p l F ls n A zs R)(ro:Ro K G p l F ls ns n H')(hi:i<n)(hj:j<n)(hij:i<j)(ht:2<=top)(h0:0<=v)(q:∀x H2,Ro K G p l F ls ns n H2->D.nx (StE p x1 x2 n way top F A i j x) H2):e5 K iE (fJ K) (eU K) D (StE p x1 x2 n way top F A i j (some (.int v))) H':=by
 refine⟨_,rfl,.int (way:Int),.int 4,bh _,rfl,rfl,_,rfl,tH (λ_=>?_) λ_=>?_⟩
 ·exact⟨_,rfl,_,_,rfl,rfl,aNx fx ro hi hj hij (by lia) q⟩
 ·exact aNx fx ro hi hj hij h0 q
def aNl (fx:Fx K G p l F ls n A zs R)(ro:Ro K G p l F ls ns n H')(hi:i<n)(hj:j<n)(hij:i<j)(ht:2<=top)(h0:0<=v)(q:∀x H2,Ro K G p l F ls ns n H2->D.nx (StE p x1 x2 n way top F A i j x) H2):e4 K iE (fJ K) (eU K) D (StE p x1 x2 n way top F A i j (some (.int v))) H':=by
 refine⟨_,rfl,.int (way:Int),.int 3,bh _,rfl,rfl,_,rfl,tH (λ_=>?_) λ_=>?_⟩
 ·refine⟨_,rfl,yE (t:=7) (s:=8) (k:=1) (by decide) fx ro.sl rfl rfl hi λa=>yE (t:=7) (s:=9) (k:=1) (by decide) fx ro.sl rfl rfl hj λb=>⟨_,_,rfl,rfl,_,rfl,?_⟩⟩;exact aNo fx ro hi hj hij ht (by split<;>lia) q
 ·exact aNo fx ro hi hj hij ht h0 q
def aMR (fx:Fx K G p l F ls n A zs R)(ro:Ro K G p l F ls ns n H')(hi:i<n)(hj:j<n)(hij:i<j)(ht:2<=top)(h0:0<=v)(q:∀x H2,Ro K G p l F ls ns n H2->D.nx (StE p x1 x2 n way top F A i j x) H2):e3 K iE (fJ K) (eU K) D (StE p x1 x2 n way top F A i j (some (.int v))) H':=by
 have go:(aH (aP (tCB aCF (aA (tOp jL (tOp (aN K) (tOp (aN K) (aC 7) (aC 8)) (AC 0)) (tOp (aN K) (tOp (aN K) (aC 7) (aC 9)) (AC 0))) aF)) (aE 10)) aG) {D with nx:=e4 K iE (fJ K) (eU K) D} (StE p x1 x2 n way top F A i j (some (.int v))) H':=by
  refine yE (t:=7) (s:=8) (k:=0) (by decide) fx ro.sl rfl rfl hi λa=>yE (t:=7) (s:=9) (k:=0) (by decide) fx ro.sl rfl rfl hj λb=>⟨_,_,rfl,rfl,_,rfl,?_⟩;exact aNl fx ro hi hj hij ht (by split<;>lia) q
 refine⟨_,rfl,.int (way:Int),.int 2,bh _,rfl,rfl,_,rfl,tH (λ_=>aW rfl go) λ_=>⟨_,rfl,.int (way:Int),.int 3,bh _,rfl,rfl,_,rfl,tH (λ_=>go) λ_=>aNl fx ro hi hj hij ht h0 q⟩⟩
def aPt (fx:Fx K G p l F ls n A zs R)(ro:Ro K G p l F ls ns n H')(hi:i<n)(hj:j<n)(hij:i<j)(ht:2<=top)(ht2:top<=1000001)(h0:0<=v)(q:∀x H2,Ro K G p l F ls ns n H2->D.nx (StE p x1 x2 n way top F A i j x) H2):e2 K iE (fJ K) (eU K) D (StE p x1 x2 n way top F A i j (some (.int v))) H':=by
 refine⟨_,rfl,.int (way:Int),.int 1,bh _,rfl,rfl,_,rfl,tH (λ_=>?_) λ_=>?_⟩
 ·refine⟨_,rfl,_,_,rfl,rfl,by show(0:Int)<2;decide,_,rfl,_,_,rfl,rfl,.inl (.inr ⟨by lia,by lia⟩),?_⟩;exact aMR fx ro hi hj hij ht (jl (Ao _ (by decide)) (by lia)) q
 ·exact aMR fx ro hi hj hij ht h0 q
def aPV (fx:Fx K G p l F ls n A zs R)(ro:Ro K G p l F ls ns n H')(hi:i<n)(hj:j<n)(hij:i<j)(ht:2<=top)(ht2:top<=1000001)(q:∀x H2,Ro K G p l F ls ns n H2->D.nx (StE p x1 x2 n way top F A i j x) H2):e1 K iE (fJ K) (eU K) D (StE p x1 x2 n way top F A i j x) H':=by
 refine⟨_,rfl,_,rfl,p,l,ns,top,rfl,ro.pen,by lia,bj ht2 (by decide),λr H2 hr hP sx=>?_⟩;exact aPt fx (ro.draw fx.F (λx hx=>(fx.l x hx).1) hP sx) hi hj hij ht ht2 (by lia) q
def aJr (K:aa):Sp:=λvs H Q _=>∃(p l:ww) (ns:List Int) (lo d:Nat),vs=[.ref p,.int (lo:Int),.int ((lo+d:Nat):Int)]/\1<=lo/\lo+d<=8/\Pen H p l ns/\∀T n v H',lo<=n->n<=lo+d->Quad T n->Bs T n->Sy T n->Sh K H' (xI T) v->Pen H' p l ns->SameX p H H'->Q v H'
def aIu:qQ1 (aJr K) (pF K iE (fJ K) (eU K)) ["feed","least","most","many","way","top","rows","spots","i","j","found"]:=by
 intro vs H Q E h;obtain⟨p,l,ns,lo,d,rfl,lo1,lo8,hP0,q⟩:=h;refine⟨_,rfl,_,rfl,_,rfl,_,rfl,_,_,rfl,rfl,p,l,ns,d+1,by show[V.ref p,.int (((lo+d:Nat):Int)-(lo:Int)+1)]=[V.ref p,.int ((d+1:Nat):Int)];rw[show((lo+d:Nat):Int)-(lo:Int)+1=((d+1:Nat):Int) by lia],hP0,by lia,bj (show d+1<=9 by lia) (by decide),λr0 H0 hr0 hP1 sx0=>?_⟩;dsimp only[aR];obtain⟨n,en⟩:∃n:Nat,n=lo+r0:=⟨_,rfl⟩;rw[show(lo:Int)+(r0:Int)=(n:Int) by lia];refine⟨_,rfl,p,l,ns,8,rfl,hP1,by decide,by decide,λway H1 hway hP2 sx1=>?_⟩;refine⟨show 4<=cm by decide,λt0 ht0=>⟨_,rfl,p,l,ns,4,rfl,hP2.x (aD ht0 _),by decide,by decide,λr2 H2 hr2 hP3 sx2=>?_⟩⟩;have et0:H2 t0=some (.lst [.int 2,.int 5,.int 30,.int 1000001]):=sx2 _ _ (hP2.ne ht0).1 aB;have sx02:SameX p H H2:=((sx0.trans sx1).trans (aD ht0 _).x).trans sx2;have ctop:∃top:Nat,[V.int 2,.int 5,.int 30,.int 1000001][r2]?=some (.int (top:Int))/\2<=top/\top<=1000001:=by
  match r2,hr2 with
  |0,_=>exact⟨2,rfl,by decide,by decide⟩
  |1,_=>exact⟨5,rfl,by decide,by decide⟩
  |2,_=>exact⟨30,rfl,by decide,by decide⟩
  |3,_=>exact⟨1000001,rfl,by decide,by decide⟩
 obtain⟨top,etop,top2,topb⟩:=ctop;refine ixL (j:=r2) (.of et0) etop ?_;refine⟨_,rfl,(n:Int),rfl,by lia,by lia,λF hF=>?_⟩;rw[cv];refine aFZ (vars:=[0]) (λi L H'=>∃ls:List ww,L=ls.map V.ref/\ls.length=i/\ls.Nodup/\F∉ls/\(∀l∈ls,H' l=some (.lst (dr n (.int 0))))/\∀l∈ls,H2 l=none) (by decide) (by show 0<2;decide) ⟨[],rfl,rfl,w9,by simp,by simp,by simp⟩ hF (λi σ1 H3 L D hi l1 ag1 s1 sm1 ha1 ⟨ls,e1,e2,e3,e4,e5,e6⟩ hD=>?_) λσ1 H3 L sm1 ha1 ⟨ls,e1,e2,e3,e4,e5,e6⟩=>?_
 ·have m1:σ1[1]?=some (some (.int (n:Int))):=(ag1 1 (by decide)).trans rfl;refine⟨by show 1<=cm;decide,λp' hp=>⟨_,m1,p',(n:Int),_,rfl,rfl,aB,by lia,by lia,?_,λp2 hp2=>?_⟩⟩
  ·rw[cv];exact bo (show 1*n<=9 by lia) (by decide)
  have hpF:p'≠F:=λe=>by rw[e,ha1] at hp;cases hp
  have hF2:upd H3 p' (.lst [V.int 0]) F=some (.lst L):=by rw[aM (gf hpF)];exact ha1
  have hp2F:p2≠F:=λe=>by rw[e,hF2] at hp2;cases hp2
  rw[cv,List.flatten_replicate_singleton];refine⟨L,by rw[aM (gf hp2F)];exact hF2,bj (show L.length<=9 by rw[e1,af];lia) (by decide),?_⟩;have keep:∀b o,b≠F->H3 b=some o->upd (upd (upd H3 p' (.lst [V.int 0])) p2 (.lst (dr n (V.int 0)))) F (.lst (L++[V.ref p2])) b=some o:=λb o hb e=>by
   have e':upd H3 p' (.lst [V.int 0]) b=some o:=by rw[aM (aJ e hp)];exact e
   rw[aM hb,aM (aJ e' hp2)];exact e'
  refine hD σ1 _ (L++[.ref p2]) l1 ag1 (λb o e=>keep b o (aJ e hF) (sm1 _ _ e)) aB ⟨ls++[p2],by rw[e1,c4];rfl,by rw[aq,e2];rfl,?_,?_,?_,?_⟩
  ·refine jA e3 λhmem=>?_;have g:=e5 p2 hmem;have g':upd H3 p' (.lst [V.int 0]) p2=some (.lst (dr n (.int 0))):=by rw[aM (aJ g hp)];exact g
   rw[g'] at hp2;cases hp2
  ·intro hmem;rcases cg.mp hmem with y|y
   ·exact e4 y
   ·exact hp2F (br.mp y).symm
  ·intro x hx;rcases cg.mp hx with y|y
   ·exact keep x _ (λe=>e4 (e▸y)) (e5 x y)
   ·rw[br.mp y,aM hp2F];exact aB
  ·intro x hx;rcases cg.mp hx with y|y
   ·exact e6 x y
   ·rw[br.mp y];exact(sm1.trans (aD hp _)).free hp2
 have mat0:Mat H3 F ls (dr n (dr n 0)):=by
  refine⟨by rw[ha1,e1],by rw[e2,oq],λi x r a b=>?_,e3,e4⟩;have:=e5 x (au a);rw[nj] at b;split at b
  ·cases b;rw[this,List.map_replicate]
  ·cases b
 have quad0:Quad (dr n (dr n (0:Int))) n:=⟨oq,λr hr=>by rw[List.eq_of_mem_replicate hr,oq]⟩;have hP4:=hP3.x sm1;have nFp:=(hP3.ne hF).1;have nls:∀x∈ls,x≠p/\x≠l:=λx hx=>hP3.ne (e6 x hx);refine⟨_,rfl,(n:Int),rfl,by lia,by lia,λA hA=>?_⟩;rw[cv];have nA:=hP4.ne hA;have nAls:A∉ls:=λh=>by have:=e5 A h;rw[this] at hA;cases hA
 refine bR (lo:=0) (n:=n) (λi σ' H'=>(∃y0,σ'=[y0,some (.ref p),some (.int (top:Int))])/\Pen H' p l ns/\SameX p H3 H'/\∃L R,H' A=some (.lst L)/\Rows K H' L R/\R.length=i/\∀r∈R,∃a b,r=[a,b]) ⟨⟨_,rfl⟩,hP4.x (aD hA _),(aD hA _).x,[],[],aB,Rows.nil,rfl,(λ_ z=>nomatch z)⟩ (λi σ2 H5 hi ⟨⟨y0,es⟩,hP5,sx5,L5,R5,hA5,r5,z5,t5⟩=>?_) λσ2 H5 ⟨⟨y0,es⟩,hP5,sx5,L5,R5,hA5,r5,z5,t5⟩=>?_
 ·subst es;refine⟨_,rfl,_,rfl,p,l,ns,top,rfl,hP5,by lia,bj topb (by decide),λra H6 _ hP6 sx6=>?_⟩;refine⟨_,rfl,_,rfl,p,l,ns,top,rfl,hP6,by lia,bj topb (by decide),λrb H7 _ hP7 sx7=>⟨C9,λu hu=>?_⟩⟩;have mu:=aD hu (.tup [V.int (ra:Int),.int (rb:Int)]);have sx67:=sx6.trans sx7;obtain⟨k5,z5',hp5⟩:=hP5;have hA7:=mu _ _ (sx67 _ _ nA.1 hA5);have r7:Rows K (upd H7 u (.tup [V.int (ra:Int),.int (rb:Int)])) L5 R5:=(r5.map λb rr hb=>fL hb hp5.1 sx67).same mu;refine⟨L5,hA7,bj (show L5.length<=9 by rw[r5.1];lia) (by decide),⟨_,rfl⟩,(hP7.x mu).upd nA.1 nA.2,?_,_,R5++[[(ra:Int),(rb:Int)]],aB,?_,by rw[aq,z5];rfl,λr hr=>?_⟩
  ·intro c o hc e;rw[aM (aJ e hA)];exact mu _ _ (sx67 _ _ hc (sx5 _ _ hc e))
  ·exact Rows.put (Rows.snoc r7 (.of aB)) hA7
  ·rcases cg.mp hr with hr|hr
   ·exact t5 r hr
   ·rw[br.mp hr];exact⟨_,_,rfl⟩
 subst es;have mat5:Mat H5 F ls (dr n (dr n 0)):=mat0.keep λc o hc e=>sx5 c o (by rcases hc with rfl|hc;exact nFp;exact(nls c hc).1) e
 refine⟨_,rfl,n,rfl,by lia,λFp ys M H6 m6 hFp0 hFp rp gM _ zM=>?_⟩;refine⟨Fp,rfl,.inl ⟨⟨_,.of hFp⟩,?_⟩⟩;obtain⟨k6,z6,hp6⟩:=hP5.x m6;have fx:Fx K H6 p l F ls n A L5 R5:=⟨nFp,nls,nA.1,nAls,m6 _ _ hA5,r5.same m6,⟨z5,t5⟩,⟨_,hp6.1⟩,λx hx=>⟨_,m6 _ _ (sx5 _ _ (nls x hx).1 (e5 x hx))⟩⟩;have nFpp:Fp≠p:=(hP5.ne hFp0).1;have nFpl:Fp∉ls:=λh=>by
  have:=sx5 _ _ (nls Fp h).1 (e5 Fp h);rw[hFp0] at this;cases this
 have ro0:Ro K H6 p l F ls ns n H6:=⟨⟨_,quad0,λi j _ _=>by rw[aEO];lia,λi j _ _=>by rw[aEO,aEO],mat5.same m6⟩,⟨k6,z6,hp6⟩,λc o _ _ e=>e⟩;refine aX (K:=K) (a:=Fp) (xs:=ys) (λk σ' H'=>Ro K H6 p l F ls ns n H'/\∃x8 x9 x10,σ'=[some (.ref p),some (.int (lo:Int)),some (.int ((lo+d:Nat):Int)),some (.int (n:Int)),some (.int (way:Int)),some (.int (top:Int)),some (.ref F),some (.ref A),x8,x9,x10]) ⟨ro0,_,_,_,rfl⟩ (λk σ' H' _ ⟨ro,_⟩=>.of (ro.sl _ _ nFpp nFpl hFp)) (λk x σ' H' hx ⟨ro,x8,x9,x10,es⟩=>?_) λσ' H' ⟨ro,x8,x9,x10,es⟩=>?_
 ·subst es;obtain⟨e,b,he,rfl,hb⟩:=sN rp hx;obtain⟨g1,g2⟩:=gM e (au he);refine⟨b,_,rfl,aKM fx ro.sl hb,rfl,cB e.1,[cB e.2],rfl,cB e.2,[],rfl,rfl,?_⟩;exact aPV (way:=way) (x:=x10) fx ro (by lia) g2 g1 top2 topb λx H7 ro7=>⟨ro7,_,_,_,rfl⟩
 ·subst es;obtain⟨M',qM,bM,sM,mM⟩:=ro.ex;have sxE:SameX p H H':=λc o hc e=>by
   have c3:H3 c=some o:=sm1 _ _ (sx02 _ _ hc e);have hn:c∉ls:=λh=>by
    have h2:=e6 c h;rw[sx02 _ _ hc e] at h2;cases h2
   exact ro.sl c o hc hn (m6 _ _ (sx5 _ _ hc c3))
  refine⟨_,rfl,_,_,rfl,rfl,_,rfl,tH (λ_=>?_) λ_=>?_⟩
  ·exact⟨_,rfl,F,ls,M',n,rfl,mM,qM,bM,sM,by lia,by lia,λT v H8 s8 qT bT sT hT=>q T n v H8 (by lia) (by lia) qT bT sT hT (ro.pen.x s8) (sxE.trans s8.x)⟩
  ·exact aAu (t:=6) rfl mM qM (by lia) λp9 H8 s8 hT=>q M' n _ H8 (by lia) (by lia) qM bM sM hT (ro.pen.x s8) (sxE.trans s8.x)
end
def Ev (T:List (List Int))(n:Nat):Prop:=∀i j,i<n->j<n->at2 T i j=at2 T j i
def qU (T:List (List Int))(n:Nat):List Bool:=(bc n).flatMap λi=>(bc i).flatMap λj=>[at2 T i j==at2 T j i]
def aNY (K:aa)(f:List (List Int)->Nat->Bool):Sp:=λvs H Q _=>∃(v:V) (T:List (List Int)) (n:Nat),vs=[v]/\Sh K H (xI T) v/\Quad T n/\1<=n/\n<=8/\∀H',Same H H'->Q (.bl (f T n)) H'
def aLe:qQ1 (aNY K (λT n=>(qU T n).all id)) (aBg K) ["table","many"]:=by
 intro vs H Q E h;obtain⟨v,T,n,rfl,hS,hq,h1,hn,q⟩:=h;obtain⟨a,rs,rfl,ha,hl,hrow⟩:=id hS.tab;have hl:rs.length=n:=hl.trans hq.len;refine⟨_,rfl,a,rs,rfl,.inr ha,?_⟩;rw[hl];refine⟨_,rfl,(n:Int),rfl,by lia,by lia,λacc hacc=>?_⟩;rw[cv];refine bW [0,1] ((qU T n).map V.bl) hacc ?_ ?_ λσ' H' sm hl'=>⟨acc,qU T n,rfl,.inl (.of hl'),q H' sm⟩
 ·rw[af];have:=eG (λi=>(bc i).flatMap λj=>[at2 T i j==at2 T j i]) 8 n λi hi=>by
   have:=eG (λj=>[at2 T i j==at2 T j i]) 1 i λ_ _=>ar _;lia
  unfold qU;lia
 ·refine Emits.cast (L:=(bc n).flatMap λi=>(bc i).flatMap λj=>[V.bl (at2 T i j==at2 T j i)]) ?_ (by unfold qU;simp only[pJ,de,Ah]);refine oT (by decide) (by show 0<3;decide) λi σ1 H1 hi l1 ag1 s1 sx1 _=>?_;rw[jd] at s1;refine Emits.mono (vars:=[1]) (aAI (by decide) (by rw[l1];show 1<3;decide) (by lia) (λQ hQ=>⟨_,s1,hQ H1 (Same.refl _)⟩) λj σ2 H2 hj l2 ag2 s2 sx2 _=>?_) (by simp);have t2:σ2[2]?=some (some (.ref a)):=(ag2 2 (by decide)).trans ((ag1 2 (by decide)).trans rfl);have u1:σ2[0]?=some (some (.int (i:Int))):=(ag2 0 (by decide)).trans s1;have S2:=hS.same (cE hacc (sx1.trans sx2));refine cU λQ hQ=>?_;refine tQ t2 u1 s2 S2 hq (by lia) (by lia) (tQ t2 s2 u1 S2 hq (by lia) (by lia) ⟨.int _,.int _,bh _,rfl,rfl,?_⟩);unfold eqD;exact hQ H2 (Same.refl _)
def aIU (h:Ev T n):(qU T n).all id=true:=by
 unfold qU;rw[uK];refine dk.mpr λi hi=>?_;rw[uK];refine dk.mpr λj hj=>?_;have hi:=fc.mp hi;have hj:=fc.mp hj;rw[h i j hi (by lia)];simp
abbrev aRH (K:aa):Sp:=aNY K (λT n=>(qU T n).all id)
end K38
namespace Sh
def sumN:Nat->(Nat->Int)->Int
 |0,_=>0
 |n+1,f=>sumN n f+f n
theorem cD:∀{n:Nat},(∀k,k<n->f k=g k)->sumN n f=sumN n g
 |0,_=>rfl
 |n+1,h=>by
  show sumN n f+f n=sumN n g+g n;rw[cD λk hk=>h k (gk hk),h n (j6 n)]
theorem aDh:∀n:Nat,sumN n (λk=>a*f k+g k)=a*sumN n f+sumN n g
 |0=>by simp[sumN]
 |n+1=>by
  show sumN n (λk=>a*f k+g k)+(a*f n+g n)=a*(sumN n f+f n)+(sumN n g+g n);rw[aDh n,ue];lia
theorem fM:∀n:Nat,sumN n (λk=>a*f k)=a*sumN n f
 |0=>by simp[sumN]
 |n+1=>by
  show sumN n (λk=>a*f k)+a*f n=a*(sumN n f+f n);rw[fM n,ue]
theorem jJ:∀n:Nat,sumN n (λk=>f k+g k)=sumN n f+sumN n g
 |0=>rfl
 |n+1=>by
  show sumN n (λk=>f k+g k)+(f n+g n)=(sumN n f+f n)+(sumN n g+g n);rw[jJ n];lia
def lJ (h:∀k,k<n->f k=0):sumN n f=0:=by
 induction n with
 |zero=>rfl
 |succ n ih=>
  show sumN n f+f n=0;rw[ih λk hk=>h k (by lia),h n (by lia)];rfl
def gZ (hi:i<n)(h:∀k,k<n->k≠i->f k=0):sumN n f=f i:=by
 induction n with
 |zero=>lia
 |succ n ih=>
  show sumN n f+f n=f i;by_cases c:i=n
  ·subst c;rw[lJ λk hk=>h k (by lia) (by lia)];lia
  ·rw[ih (by lia) λk hk hne=>h k (by lia) hne,h n (by lia) (gf c)];lia
def aDM (hi:i<n)(hj:j<n)(hij:i≠j)(h:∀k,k<n->k≠i->k≠j->f k=0):sumN n f=f i+f j:=by
 have e:sumN n f=sumN n (λk=>if k=i then f i else 0)+sumN n (λk=>if k=j then f j else 0):=by
  rw[<- jJ];refine cD λk hk=>?_;by_cases c1:k=i
  ·rw[C5 c1,C4 (by lia),c1];lia
  ·by_cases c2:k=j
   ·rw[C4 c1,C5 c2,c2];lia
   ·rw[C4 c1,C4 c2,h k hk c1 c2];rfl
 rw[e,gZ hi λk _ hne=>C4 hne,gZ hj λk _ hne=>C4 hne,C5 rfl,C5 rfl]
def uV (h:∀k,k<n->0<=f k):0<=sumN n f:=by
 induction n with
 |zero=>exact t8 _
 |succ n ih=>
  have h1:=ih λk hk=>h k (by lia);have h2:=h n (by lia);show 0<=sumN n f+f n;lia
def aDC (h:0<sumN n f):∃k,k<n/\0<f k:=by
 apply dn;intro no;have:0<=sumN n λk=>-1*f k:=uV λk hk=>by
  have:¬0<f k:=λz=>no ⟨k,hk,z⟩;lia
 rw[fM] at this;lia
abbrev Vec:=Nat->Int
abbrev Tup:=Nat->Vec
def up (b:Tup)(i:Nat)(v:Vec):Tup:=λk=>if k=i then v else b k
def dZ:up b i v i=v:=C5 rfl
def kL (h:k≠i):up b i v k=b k:=C4 h
def iV:up b i (b i)=b:=by
 funext k;unfold up;split
 ·rename_i h;rw[h]
 ·rfl
def aPD:up (up b i u) i v=up b i v:=by
 funext k;unfold up;split<;>rfl
def oA (h:i≠j):up (up b i u) j v=up (up b j v) i u:=by
 funext k;unfold up;by_cases c1:k=i
 ·by_cases c2:k=j
  ·exact absurd (c1.symm.trans c2) h
  ·rw[C4 c2,C5 c1,C5 c1]
 ·by_cases c2:k=j
  ·rw[C5 c2,C4 c1,C5 c2]
  ·rw[C4 c2,C4 c1,C4 c1,C4 c2]
def skip (i:Nat)(b:Tup):Tup:=λk=>if k<i then b k else b (k+1)
def sg (i:Nat):Int:=if i % 2=0 then 1 else -1
def aKh (i:Nat):sg (i+1)=- sg i:=by
 unfold sg;by_cases c:i % 2=0
 ·rw[C5 c,C4 (by lia)]
 ·rw[C4 c,C5 (by lia)];rfl
def aMs (i:Nat):sg (i+i)=1:=by unfold sg;rw[C5 (by lia)]
def det:Nat->Tup->Int
 |0,_=>1
 |M+1,b=>sumN (M+1) λi=>sg (i+M)*(b i M*det M (skip i b))
def aCv:∀{M:Nat},(∀k,k<M->b k=b' k)->det M b=det M b':=by
 intro M
 induction M generalizing b b' with
 |zero=>intro _;rfl
 |succ M ih=>
  intro h;refine cD λi hi=>?_;rw[h i hi,ih λk hk=>?_];unfold skip;split
  ·exact h k (by lia)
  ·exact h (k+1) (by lia)
def aCt (h:k≠i):skip k (up b i w)=up (skip k b) (if i<k then i else i-1) w:=by
 funext x;show(if x<k then(if x=i then w else b x) else(if x+1=i then w else b (x+1)))=if x=(if i<k then i else i-1) then w else if x<k then b x else b (x+1);by_cases c:i<k
 ·rw[C5 c];by_cases c1:x<k
  ·rw[C5 c1,C5 c1]
  ·rw[C4 c1,C4 c1,C4 (by lia),C4 (by lia)]
 ·rw[C4 c];by_cases c1:x<k
  ·rw[C5 c1,C5 c1,C4 (by lia),C4 (by lia)]
  ·rw[C4 c1,C4 c1];by_cases c2:x+1=i
   ·rw[C5 c2,C5 (by lia)]
   ·rw[C4 c2,C4 (by lia)]
def iP:skip i (up b i w)=skip i b:=by
 funext x;unfold skip up;by_cases c1:x<i
 ·rw[C5 c1,C5 c1,C4 (by lia)]
 ·rw[C4 c1,C4 c1,C4 (by lia)]
def oN:∀{M:Nat}{b:Tup}{i:Nat},i<M->det M (up b i λc=>a*u c+v c)=a*det M (up b i u)+det M (up b i v):=by
 intro M
 induction M with
 |zero=>intro b i h;lia
 |succ M ih=>
  intro b i hi;show sumN (M+1) _=a*sumN (M+1) _+sumN (M+1) _;rw[<- aDh];refine cD λk hk=>?_;by_cases c:k=i
  ·subst c;rw[iP,iP,iP,dZ,dZ,dZ];show sg (k+M)*((a*u M+v M)*det M (skip k b))=a*(sg (k+M)*(u M*det M (skip k b)))+sg (k+M)*(v M*det M (skip k b));rw[qy,ue,fw a,ff (sg (k+M)) a]
  ·rw[aCt c,aCt c,aCt c,kL c,kL c,kL c,ih (by split<;>lia),ue,ue,ff (b k M) a,ff (sg (k+M)) a]
def aLD (h:b i=b (i+1)):skip i b=skip (i+1) b:=by
 funext x;unfold skip;by_cases c1:x<i
 ·rw[C5 c1,C5 (by lia)]
 ·rw[C4 c1];by_cases c2:x=i
  ·subst c2;rw[C5 (by lia),h]
  ·rw[C4 (by lia)]
def aGB:∀{M:Nat}{b:Tup}{i:Nat},i+1<M->b i=b (i+1)->det M b=0:=by
 intro M
 induction M with
 |zero=>intro b i h;lia
 |succ M ih=>
  intro b i hi hb;show sumN (M+1) _=0;rw[aDM (i:=i) (j:=i+1) (by lia) hi (by lia) λk hk h1 h2=>?_]
  ·rw[aLD hb,hb,show i+1+M=(i+M)+1 by lia,aKh];rw[lu];lia
  ·have:det M (skip k b)=0:=by
    by_cases c:k<i
    ·refine ih (i:=i-1) (by lia) ?_;unfold skip;rw[C4 (by lia),C4 (by lia),show i-1+1=i by lia,hb]
    ·refine ih (i:=i) (by lia) ?_;unfold skip;rw[C5 (by lia),C5 (by lia),hb]
   rw[this,jv,jv]
def aFA (hi:i<M)(hj:j<M)(hij:i≠j)(z:∀w,det M (up (up b i w) j w)=0):det M (up (up b i u) j v)=- det M (up (up b i v) j u):=by
 have h:=z λc=>(1:Int)*u c+v c;rw[oN hj,oA hij,oN hi,oA hij,oN hi,oA (gf hij),oA (gf hij),oA (gf hij),oA (gf hij),z u,z v] at h;lia
def aAN (h:i+1<M):det M (up (up b i u) (i+1) v)=- det M (up (up b i v) (i+1) u):=
 aFA (by lia) h (by lia) λw=>aGB h (by rw[kL (by lia),dZ,dZ])
def aJM:∀(n:Nat) {b:Tup}{i j:Nat},j-i=n->i<j->j<M->b i=b j->det M b=0:=by
 intro n
 induction n with
 |zero=>intro b i j h1 h2;lia
 |succ n ih=>
  intro b i j h1 h2 h3 hb;by_cases c:j=i+1
  ·subst c;exact aGB h3 hb
  ·obtain⟨k,rfl⟩:∃k,j=k+1:=⟨j-1,by lia⟩;have e:det M b=det M (up (up b k (b k)) (k+1) (b (k+1))):=by rw[iV,iV]
   rw[e,aAN h3,ih (i:=i) (j:=k) (by lia) (by lia) (by lia) ?_]
   ·rfl
   ·rw[kL (by lia),kL (by lia),kL (by lia),dZ,hb]
def gK (hi:i<M)(hj:j<M)(hij:i≠j)(hb:b i=b j):det M b=0:=by
 rcases Nat.lt_or_gt_of_ne hij with h|h
 ·exact aJM _ rfl h hj hb
 ·exact aJM _ rfl h hi hb.symm
def aIB (hi:i<M)(hj:j<M)(hij:i≠j):det M (up (up b i u) j v)=- det M (up (up b i v) j u):=
 aFA hi hj hij λw=>gK hi hj hij (by rw[kL hij,dZ,dZ])
def unit (i:Nat):Vec:=λc=>if c=i then 1 else 0
def aDr:∀M:Nat,det M unit=1:=by
 intro M
 induction M with
 |zero=>rfl
 |succ M ih=>
  show sumN (M+1) _=1;rw[gZ (i:=M) (by lia) λk hk hne=>?_]
  ·have e:det M (skip M unit)=det M unit:=aCv λk hk=>by unfold skip;rw[C5 hk]
   rw[e,ih,aMs];show(1:Int)*((if M=M then 1 else 0)*1)=1;rw[C5 rfl];rfl
  ·have:unit k M=0:=C4 (by lia);rw[this,wt,jv]
def rE (hi:i<M):det M (up b i λc=>a*u c)=a*det M (up b i u):=by
 have z:det M (up b i λ_=>0)=0:=by
  have h:=oN (M:=M) (b:=b) (i:=i) (a:=1) (u:=λ_=>0) (v:=λ_=>0) hi;have e:(λc:Nat=>(1:Int)*(λ_=>0) c+(λ_=>(0:Int)) c)=λ_=>0:=by funext c;simp
  rw[e] at h;lia
 have h:=oN (M:=M) (b:=b) (i:=i) (a:=a) (u:=u) (v:=λ_=>0) hi;have e:(λc=>a*u c+(λ_=>(0:Int)) c)=λc=>a*u c:=by funext c;simp
 rw[e,z] at h;lia
theorem yK {M:Nat}{b:Tup}{i:Nat}{a:Nat->Int}{w:Nat->Vec}(hi:i<M):∀n:Nat,det M (up b i λc=>sumN n λk=>a k*w k c)=sumN n λk=>a k*det M (up b i (w k))
 |0=>by
  have:=rE (M:=M) (b:=b) (i:=i) (a:=0) (u:=λ_=>0) hi;simp at this;exact this
 |n+1=>by
  have e:(λc=>sumN (n+1) λk=>a k*w k c)=λc=>a n*w n c+(λc=>sumN n λk=>a k*w k c) c:=by
   funext c;show sumN n (λk=>a k*w k c)+a n*w n c=a n*w n c+sumN n (λk=>a k*w k c);exact BW ..
  rw[e,oN hi,yK hi n];show _=sumN n (λk=>a k*det M (up b i (w k)))+a n*det M (up b i (w n));exact BW ..
section
variable {A:Nat->Vec}{m N:Nat}{h h':Nat->Nat}
def bv (A:Nat->Vec)(m:Nat)(h:Nat->Nat):Tup:=λi=>if i<m then A (h i) else unit m
def R (A:Nat->Vec)(m:Nat)(h:Nat->Nat)(i j:Nat):Int:=det (m+1) (up (bv A m h) i (A j))
def dd (A:Nat->Vec)(m:Nat)(h:Nat->Nat):Int:=det (m+1) (bv A m h)
def put (h:Nat->Nat)(r c:Nat):Nat->Nat:=λi=>if i=r then c else h i
def aBh (hi:i<m):bv A m h i=A (h i):=C5 hi
def aOU:bv A m h m=unit m:=C4 (kn _)
def aBk (hr:r<m):bv A m (put h r c)=up (bv A m h) r (A c):=by
 funext i;unfold bv put up;by_cases e:i=r
 ·rw[C5 e,C5 e,C5 (by lia)]
 ·rw[C4 e,C4 e]
structure Ok (A:Nat->Vec)(m N:Nat)(h:Nat->Nat):Prop where
 d0:0<dd A m h
 hN:∀i,i<m->h i<N
 ex:∀j,j<=N->∀c,dd A m h*A j c=sumN (m+1) λi=>R A m h i j*bv A m h i c
 b0:∀i,i<m->0<=R A m h i N
def dd_put (hr:r<m):dd A m (put h r c)=R A m h r c:=by unfold dd R;rw[aBk hr]
def R_row (hr:r<m):R A m (put h r c) r j=R A m h r j:=by unfold R;rw[aBk hr,aPD]
def R_turn (k:Ok A m N h)(hr:r<m)(hi:i<=m)(hir:i≠r)(hj:j<=N):dd A m h*R A m (put h r c) i j=R A m h r c*R A m h i j-R A m h i c*R A m h r j:=by
 have hi':i<m+1:=by lia
 have e1:dd A m h*R A m (put h r c) i j=det (m+1) (up (up (bv A m h) r (A c)) i λq=>sumN (m+1) λk=>R A m h k j*bv A m h k q):=by
  have:(λq=>sumN (m+1) λk=>R A m h k j*bv A m h k q)=λq=>dd A m h*A j q:=by
   funext q;rw[k.ex j hj q]
  rw[this,rE hi'];unfold R;rw[aBk hr]
 rw[e1,yK hi',aDM (i:=i) (j:=r) hi' (by lia) hir λx hx h1 h2=>?_]
 ·have e2:up (up (bv A m h) r (A c)) i (bv A m h i)=up (bv A m h) r (A c):=by
   have:bv A m h i=up (bv A m h) r (A c) i:=(kL hir).symm;rw[this,iV]
  have e3:det (m+1) (up (up (bv A m h) r (A c)) i (bv A m h r))=- R A m h i c:=by
   rw[aIB (by lia) hi' (gf hir),iV];rfl
  rw[e2,e3];show R A m h i j*R A m h r c+R A m h r j*(- R A m h i c)=_;rw[Cn,fe (R A m h i j),fe (R A m h r j)];lia
 ·have:det (m+1) (up (up (bv A m h) r (A c)) i (bv A m h x))=0:=gK (i:=x) (j:=i) hx hi' h1 (by rw[kL h1,kL h2,dZ]);rw[this,jv]
def aPM (A:Nat->Vec)(m N:Nat)(h:Nat->Nat)(c r:Nat):Prop:=∀i,i<m->0<R A m h i c->R A m h r N*R A m h i c<=R A m h i N*R A m h r c/\(R A m h r N*R A m h i c=R A m h i N*R A m h r c->h r<=h i)
structure Stp (A:Nat->Vec)(m N:Nat)(h h':Nat->Nat)(c r:Nat):Prop where
 cN:c<N
 rm:r<m
 neg:R A m h m c<0
 fst:∀j,j<c->0<=R A m h m j
 pos:0<R A m h r c
 tig:aPM A m N h c r
 eq:h'=put h r c
def Ok.step (k:Ok A m N h)(s:Stp A m N h h' c r):Ok A m N h':=by
 obtain⟨cN,rm,neg,fst,pos,tig,rfl⟩:=s;have ed:=dd_put (A:=A) (h:=h) (c:=c) rm;refine⟨by rw[ed];exact pos,λi hi=>?_,λj hj q=>?_,λi hi=>?_⟩
 ·unfold put;split
  ·exact cN
  ·exact k.hN i hi
 ·have d0:=k.d0;refine xb (show dd A m h≠0 by lia) ?_;rw[ed,<- fM];have e:sumN (m+1) (λi=>dd A m h*(R A m (put h r c) i j*bv A m (put h r c) i q))=sumN (m+1) (λi=>(R A m h r c*(R A m h i j*bv A m h i q)+(- R A m h r j)*(R A m h i c*bv A m h i q))+if i=r then R A m h r j*(dd A m h*A c q) else 0):=by
   refine cD λi hi=>?_;by_cases ci:i=r
   ·subst ci;rw[C5 rfl,R_row rm,aBk rm,dZ,lu];rw[ff (dd A m h),ff (R A m h i c) (R A m h i j)];lia
   ·rw[C4 ci,aBk rm,kL ci,<- fw,R_turn k rm (by lia) ci hj,Int.sub_mul,fw,lu,fe (R A m h i c) (R A m h r j),fw];lia
  rw[e,jJ,jJ,fM,fM,<- k.ex j hj q,<- k.ex c (by lia) q,gZ (i:=r) (by lia) λx _ hx=>C4 hx,C5 rfl,lu,ff];lia
 ·by_cases ci:i=r
  ·subst ci;rw[R_row rm];exact k.b0 i hi
  ·have e:=R_turn (c:=c) k rm (show i<=m by lia) ci (ar N);have d0:=k.d0;have h1:=k.b0 i hi;have h2:=k.b0 r rm;have:0<=dd A m h*R A m (put h r c) i N:=by
    rw[e];by_cases cp:0<R A m h i c
    ·have:=(tig i hi cp).1;rw[fe (R A m h r c),fe (R A m h i c)];lia
    ·have p1:0<=R A m h r c*R A m h i N:=jl (by lia) h1;have p2:0<=(- R A m h i c)*R A m h r N:=jl (by lia) h2;rw[lu] at p2;lia
   exact Int.nonneg_of_mul_nonneg_right this d0
def Ok.held (hi:i<m):R A m h m (h i)=0:=by
 unfold R;refine gK (i:=i) (j:=m) (by lia) (by lia) (by lia) ?_;rw[kL (by lia),dZ,aBh hi]
def aOn:det (m+1) (up (bv A m h) m (unit m))=dd A m h:=by
 have:unit m=bv A m h m:=aOU.symm;rw[this,iV];rfl
def Ok.two (k:Ok A m N h)(hs:s<=N):dd A m h*R A m g m s=sumN m (λi=>R A m h i s*R A m g m (h i))+R A m h m s*dd A m g:=by
 have e:dd A m h*R A m g m s=det (m+1) (up (bv A m g) m λq=>sumN (m+1) λk=>R A m h k s*bv A m h k q):=by
  have:(λq=>sumN (m+1) λk=>R A m h k s*bv A m h k q)=λq=>dd A m h*A s q:=by
   funext q;rw[k.ex s hs q]
  rw[this,rE (by lia)];rfl
 rw[e,yK (by lia)];show sumN m _+R A m h m s*det (m+1) (up (bv A m g) m (bv A m h m))=_;rw[aOU,aOn];congr 1;refine cD λi hi=>?_;rw[aBh hi];rfl
def aDt (e:∀i,i<m->h i=g i):bv A m h=bv A m g:=by
 funext i;unfold bv;split
 ·rename_i hi;rw[e i hi]
 ·rfl
end
def aMr:∀(n:Nat) (f:Nat->Nat),(∀t,t<=n->f t<n)->∃a b,a<b/\b<=n/\f a=f b:=by
 intro n
 induction n with
 |zero=>intro f h;exact absurd (h 0 (ar _)) (by lia)
 |succ n ih=>
  intro f h;by_cases c:∃t,t<n+1/\f t=f (n+1)
  ·obtain⟨t,ht,e⟩:=c;exact⟨t,n+1,ht,ar _,e⟩
  ·have c':∀t,t<n+1->f t≠f (n+1):=λt ht e=>c ⟨t,ht,e⟩;obtain⟨a,b,hab,hb,e⟩:=ih (λt=>if f t=n then f (n+1) else f t) λt ht=>by
    show(if f t=n then f (n+1) else f t)<n;have h1:=h t (by lia);have h2:=h (n+1) (by lia);have h3:=c' t (by lia);split<;>lia
   refine⟨a,b,hab,by lia,?_⟩;have ha:=c' a (by lia);have hb':=c' b (by lia);by_cases e1:f a=n
   ·by_cases e2:f b=n
    ·lia
    ·simp only[e1,e2,if_true,if_false] at e;exact absurd e.symm hb'
   ·by_cases e2:f b=n
    ·simp only[e1,e2,if_true,if_false] at e;exact absurd e ha
    ·simp only[e1,e2,if_false] at e;exact e
def code (N:Nat)(h:Nat->Nat):Nat->Nat
 |0=>0
 |k+1=>code N h k*N+h k
theorem aFt:∀{m:Nat},(∀i,i<m->h i<N)->code N h m<N^m
 |0,_=>by simp[code]
 |m+1,k=>by
  have h1:=aFt (m:=m) λi hi=>k i (by lia);have h2:=k m (by lia);show code N h m*N+h m<N^m*N;have:(code N h m+1)*N<=N^m*N:=AN N h1;rw[Cc] at this;lia
theorem aDv:∀{m:Nat},(∀i,i<m->h i<N)->(∀i,i<m->g i<N)->code N h m=code N g m->∀i,i<m->h i=g i
 |0,_,_,_=>λi hi=>by lia
 |m+1,k,l,e=>by
  have h1:=k m (by lia);have h2:=l m (by lia);have e:code N h m*N+h m=code N g m*N+g m:=e;have em:h m=g m:=by
   have:=congrArg (· % N) e;simp only[Nat.mul_add_mod_self_right,Nat.mod_eq_of_lt h1,Nat.mod_eq_of_lt h2] at this;exact this
  have ed:code N h m=code N g m:=Nat.eq_of_mul_eq_mul_right (show 0<N by lia) (show code N h m*N=code N g m*N by lia);intro i hi;by_cases c:i=m
  ·rw[c];exact em
  ·exact aDv (λi hi=>k i (by lia)) (λi hi=>l i (by lia)) ed i (by lia)
theorem change {f:Nat->Nat}{a:Nat}:∀{n:Nat},f (a+n)≠f a->∃u,a<=u/\u<a+n/\f u=f a/\f (u+1)≠f a
 |0,h=>absurd rfl h
 |n+1,h=>by
  by_cases c:f (a+n)=f a
  ·exact⟨a+n,by lia,by lia,c,h⟩
  ·obtain⟨u,h1,h2,h3,h4⟩:=change c;exact⟨u,h1,by lia,h3,h4⟩
theorem aFz {f:Nat->Nat}{a:Nat}:∀{n:Nat},f (a+n)≠f a->∃u,a<=u/\u<a+n/\f u≠f (a+n)/\f (u+1)=f (a+n)
 |0,h=>absurd rfl h
 |n+1,h=>by
  by_cases c:f (a+n)=f (a+(n+1))
  ·rw[<- c] at h ⊢;obtain⟨u,h1,h2,h3,h4⟩:=aFz h;exact⟨u,h1,by lia,h3,h4⟩
  ·exact⟨a+n,by lia,by lia,c,rfl⟩
def jH {a b c d e f:Int}(hb:0<b)(hd:0<d)(hf:0<f)(h1:a*d<=c*b)(h2:c*f<=e*d):a*f<=e*b:=by
 have x1:=kg h1 (o6 hf);have x2:=kg h2 (o6 hb);refine Int.le_of_mul_le_mul_left (a:=d) ?_ hd;have e1:d*(a*f)=a*d*f:=by rw[fe a d,fw]
 have e2:d*(e*b)=e*d*b:=by rw[fe e d,fw]
 have e3:c*b*f=c*f*b:=by rw[fw,fe b f,<- fw]
 lia
section
variable {A:Nat->Vec}{m N:Nat}
def Ok.inj (k:Ok A m N h)(hi:i<m)(hj:j<m)(e:h i=h j):i=j:=by
 apply dn;intro ne;have:dd A m h=0:=gK (i:=i) (j:=j) (by lia) (by lia) ne (by rw[aBh hi,aBh hj,e]);have:=k.d0;lia
def aLv (e:∀i,i<m->h i=g i)(i j:Nat):R A m h i j=R A m g i j:=by unfold R;rw[aDt e]
def aIP (e:∀i,i<m->h i=g i):dd A m h=dd A m g:=by unfold dd;rw[aDt e]
def Stp.worth (k:Ok A m N h)(s:Stp A m N h h' c r):dd A m h*R A m h' m N=dd A m h'*R A m h m N-R A m h m c*R A m h r N:=by
 obtain⟨cN,rm,neg,fst,pos,tig,rfl⟩:=s;rw[dd_put rm,R_turn k rm (ar _) (by lia) (ar _)]
def Stp.zero (k:Ok A m N h)(s:Stp A m N h h' c r)(z:R A m h r N=0)(hi:i<m):R A m h' i N=0↔R A m h i N=0:=by
 obtain⟨cN,rm,neg,fst,pos,tig,rfl⟩:=s;by_cases c1:i=r
 ·subst c1;rw[R_row rm]
 ·have e:=R_turn (c:=c) k rm (show i<=m by lia) c1 (ar N);rw[z,jv,Int.sub_zero] at e;have d0:=k.d0;constructor
  ·intro z';rw[z',jv] at e;rcases AE.1 e.symm with q|q
   ·lia
   ·exact q
  ·intro z';rw[z',jv] at e;rcases AE.1 e with q|q
   ·lia
   ·exact q
structure Circ (A:Nat->Vec)(m N:Nat)(h:Nat->Nat->Nat)(c r:Nat->Nat)(n:Nat):Prop where
 ok:∀t,Ok A m N (h t)
 st:∀t,t<n->Stp A m N (h t) (h (t+1)) (c t) (r t)
 cl:∀i,i<m->h n i=h 0 i
 n0:0<n
variable {h:Nat->Nat->Nat}{c r:Nat->Nat}{n:Nat}
theorem Circ.le (k:Circ A m N h c r n):∀{t:Nat},t<=n->R A m (h 0) m N*dd A m (h t)<=R A m (h t) m N*dd A m (h 0)
 |0,_=>t8 _
 |t+1,ht=>by
  have ih:=Circ.le k (t:=t) (by lia);refine jH (k.ok 0).d0 (k.ok t).d0 (k.ok (t+1)).d0 ih ?_;have s:=k.st t (by lia);have e:=s.worth (k.ok t);have p:0<=(- R A m (h t) m (c t))*R A m (h t) (r t) N:=jl (by have:=s.neg;lia) ((k.ok t).b0 _ s.rm);rw[lu] at p;rw[fe (R A m (h (t+1)) m N),fe (R A m (h t) m N)];lia
theorem Circ.ge (k:Circ A m N h c r n):∀{j t:Nat},t+j=n->R A m (h t) m N*dd A m (h 0)<=R A m (h 0) m N*dd A m (h t)
 |0,t,e=>by
  have e:t=n:=e;subst e;rw[aLv k.cl,aIP k.cl];exact t8 _
 |j+1,t,e=>by
  have ih:=Circ.ge k (j:=j) (t:=t+1) (by lia);refine jH (k.ok t).d0 (k.ok (t+1)).d0 (k.ok 0).d0 ?_ ih;have s:=k.st t (by lia);have e:=s.worth (k.ok t);have p:0<=(- R A m (h t) m (c t))*R A m (h t) (r t) N:=jl (by have:=s.neg;lia) ((k.ok t).b0 _ s.rm);rw[lu] at p;rw[fe (R A m (h (t+1)) m N),fe (R A m (h t) m N)];lia
def Circ.still (k:Circ A m N h c r n)(ht:t<n):R A m (h t) (r t) N=0:=by
 have s:=k.st t ht;have e:=s.worth (k.ok t);have l:=jH (k.ok (t+1)).d0 (k.ok 0).d0 (k.ok t).d0 (k.ge (j:=n-(t+1)) (t:=t+1) (by lia)) (k.le (t:=t) (by lia));have z:(- R A m (h t) m (c t))*R A m (h t) (r t) N<=0:=by
  rw[lu];rw[fe (R A m (h (t+1)) m N),fe (R A m (h t) m N)] at l;lia
 have n1:=s.neg;have b:=(k.ok t).b0 _ s.rm;apply dn;intro ne;have:0<(- R A m (h t) m (c t))*R A m (h t) (r t) N:=lr (by lia) (by lia);lia
theorem Circ.zero0 (k:Circ A m N h c r n)(hi:i<m):∀{t:Nat},t<=n->(R A m (h t) i N=0↔R A m (h 0) i N=0)
 |0,_=>Iff.rfl
 |t+1,ht=>((k.st t (by lia)).zero (k.ok t) (k.still (by lia)) hi).trans (Circ.zero0 k hi (by lia))
def Stp.same {h h':Nat->Nat}{c r i:Nat}(s:Stp A m N h h' c r)(ne:h' i≠h i):i=r/\h' i=c:=by
 rw[s.eq] at ne ⊢;unfold put at ne ⊢;by_cases q:i=r
 ·rw[C5 q];exact⟨q,rfl⟩
 ·rw[C4 q] at ne;exact absurd rfl ne
def Stp.new {h h':Nat->Nat}{c r i:Nat}(s:Stp A m N h h' c r)(hi:i<m):h i≠c:=λe=>by
 have:=s.neg;rw[<- e,Ok.held hi] at this;lia
def Stp.at_r {h h':Nat->Nat}{c r:Nat}(s:Stp A m N h h' c r):h' r=c:=by rw[s.eq];exact C5 rfl
def Circ.comes (k:Circ A m N h c r n)(hi:i<m)(hs:s<=n)(ht:t<=n)(ne:h t i≠h s i):∃u,u<n/\i=r u/\c u=h s i:=by
 have g:∀a b,a<=b->b<=n->h b i≠h a i->∃u,a<=u/\u<b/\i=r u/\c u=h b i:=λa b hab hb ne=>by
  obtain⟨d,rfl⟩:∃d,b=a+d:=⟨b-a,by lia⟩;obtain⟨u,h1,h2,h3,h4⟩:=aFz (f:=λx=>h x i) ne;obtain⟨e1,e2⟩:=(k.st u (by lia)).same (i:=i) (by
   show h (u+1) i≠h u i;have h3:h u i≠h (a+d) i:=h3;have h4:h (u+1) i=h (a+d) i:=h4;rw[h4];exact gf h3)
  exact⟨u,h1,h2,e1,by rw[<- e2];exact h4⟩
 by_cases c1:h s i=h 0 i
 ·rcases BV 0 t with _|_
  ·obtain⟨u,_,h2,h3,h4⟩:=g t n ht (ar _) (by rw[k.cl i hi,<- c1];exact gf ne);exact⟨u,h2,h3,by rw[h4,k.cl i hi,c1]⟩
  ·obtain rfl:t=0:=by lia
   exact absurd c1.symm ne
 ·obtain⟨u,_,h2,h3,h4⟩:=g 0 s (bh _) hs c1;exact⟨u,by lia,h3,h4⟩
theorem aQN (f:Nat->Nat):∀{n:Nat},0<n->∃t,t<n/\∀u,u<n->f u<=f t
 |0,h=>absurd h (by lia)
 |1,_=>⟨0,by lia,λu hu=>by obtain rfl:u=0:=(by lia);exact ar _⟩
 |n+2,_=>by
  obtain⟨t,ht,h⟩:=aQN f (n:=n+1) (by lia);by_cases c:f (n+1)<=f t
  ·exact⟨t,by lia,λu hu=>by
    by_cases e:u=n+1
    ·rw[e];exact c
    ·exact h u (by lia)⟩
  ·exact⟨n+1,by lia,λu hu=>by
    by_cases e:u=n+1
    ·rw[e];exact ar _
    ·have:=h u (by lia);lia⟩
def Circ.none (k:Circ A m N h c r n):False:=by
 obtain⟨t,ht,top⟩:=aQN c k.n0;have st:=k.st t ht;have e1:h (t+1) (r t)=c t:=st.at_r;have e0:h t (r t)≠c t:=st.new st.rm;obtain⟨s,hs,es,eo⟩:∃s,s<n/\r t=r s/\h s (r t)=c t:=by
  by_cases q:h n (r t)=c t
  ·have q0:h 0 (r t)=c t:=by rw[<- k.cl _ st.rm];exact q
   have:h (0+t) (r t)≠h 0 (r t):=by
    rw[Nat.zero_add,q0];exact e0
   obtain⟨u,h1,h2,h3,h4⟩:=change (f:=λx=>h x (r t)) (a:=0) (n:=t) this;have h3:h u (r t)=h 0 (r t):=h3;have h4:h (u+1) (r t)≠h 0 (r t):=h4;obtain⟨x1,_⟩:=(k.st u (by lia)).same (i:=r t) (by rw[h3];exact h4);exact⟨u,by lia,x1,by rw[h3,q0]⟩
  ·obtain⟨d,hd⟩:∃d,n=t+1+d:=⟨n-(t+1),by lia⟩;have:h (t+1+d) (r t)≠h (t+1) (r t):=by
    rw[<- hd,e1];exact q
   obtain⟨u,h1,h2,h3,h4⟩:=change (f:=λx=>h x (r t)) (a:=t+1) (n:=d) this;have h3:h u (r t)=h (t+1) (r t):=h3;have h4:h (u+1) (r t)≠h (t+1) (r t):=h4;obtain⟨x1,_⟩:=(k.st u (by lia)).same (i:=r t) (by rw[h3];exact h4);exact⟨u,by lia,x1,by rw[h3,e1]⟩
 have ss:=k.st s hs;have rs:h s (r s)=c t:=by rw[<- es];exact eo
 have lt:c s<c t:=by
  have:=top s hs;have:c s≠c t:=λe=>ss.new ss.rm (rs.trans e.symm);lia
 have two:=(k.ok s).two (g:=h t) (s:=c s) (by have:=ss.cN;lia);have z1:0<=dd A m (h s)*R A m (h t) m (c s):=jl (o6 (k.ok s).d0) (st.fst _ lt);have z2:0<(- R A m (h s) m (c s))*dd A m (h t):=lr (by have:=ss.neg;lia) (k.ok t).d0;rw[lu] at z2;obtain⟨i,hi,pos⟩:=aDC (n:=m) (f:=λi=>R A m (h s) i (c s)*R A m (h t) m (h s i)) (by lia);have pos:0<R A m (h s) i (c s)*R A m (h t) m (h s i):=pos;have ne:h t i≠h s i:=λe=>by
  rw[<- e,Ok.held hi,jv] at pos;lia
 obtain⟨u,hu,iu,cu⟩:=k.comes hi (i6 hs) (i6 ht) ne;have le:h s i<=c t:=by rw[<- cu];exact top u hu
 by_cases eq:h s i=c t
 ·have:i=r s:=(k.ok s).inj hi ss.rm (by rw[eq,rs]);subst this;rw[eq] at pos;have p:=ss.pos;have q:0<R A m (h s) (r s) (c s)*(- R A m (h t) m (c t)):=lr p (by have:=st.neg;lia);rw[Cn] at q;lia
 ·have p0:=st.fst (h s i) (by lia);have p1:0<R A m (h s) i (c s):=by
   apply dn;intro no;have:0<=(- R A m (h s) i (c s))*R A m (h t) m (h s i):=jl (by lia) p0;rw[lu] at this;lia
  have zi:R A m (h s) i N=0:=by
   rw[k.zero0 hi (i6 hs),<- k.zero0 hi (i6 hu),iu];exact k.still hu
  have zr:=k.still hs;have:=(ss.tig i hi p1).2 (by rw[zi,zr,wt,wt]);rw[rs] at this;lia
def aNb (ok:∀t,Ok A m N (h t))(st:∀t,Stp A m N (h t) (h (t+1)) (c t) (r t)):False:=by
 obtain⟨a,b,hab,_,e⟩:=aMr (N^m) (λt=>code N (h t) m) λt _=>aFt (ok t).hN;have e:=aDv (ok a).hN (ok b).hN e;refine Circ.none (A:=A) (m:=m) (N:=N) (h:=λt=>h (a+t)) (c:=λt=>c (a+t)) (r:=λt=>r (a+t)) (n:=b-a) ⟨λt=>ok _,λt _=>st _,λi hi=>?_,by lia⟩;show h (a+(b-a)) i=h (a+0) i;rw[show a+(b-a)=b by lia];exact(e i hi).symm
def Nxt (A:Nat->Vec)(m N:Nat)(h' h:Nat->Nat):Prop:=∃c r,Stp A m N h h' c r
def Ok.acc {h:Nat->Nat}(k:Ok A m N h):Acc (Nxt A m N) h:=by
 apply dn;intro na
 let S:={g:Nat->Nat // Ok A m N g/\¬Acc (Nxt A m N) g}
 have nx:∀x:S,∃y:S,∃c r,Stp A m N x.1 y.1 c r:=λx=>by
  apply dn;intro no;refine x.2.2 (Acc.intro _ λy ⟨c,r,s⟩=>?_);apply dn;intro ny;exact no ⟨⟨y,x.2.1.step s,ny⟩,c,r,s⟩
 have nx2:∀x:S,∃q:S×Nat×Nat,Stp A m N x.1 q.1.1 q.2.1 q.2.2:=λx=>let⟨y,c,r,s⟩:=nx x;⟨(y,c,r),s⟩
 let f:S->S×Nat×Nat:=λx=>Classical.choose (nx2 x)
 have hf:∀x:S,Stp A m N x.1 (f x).1.1 (f x).2.1 (f x).2.2:=λx=>Classical.choose_spec (nx2 x)
 let sq:Nat->S:=λt=>Nat.rec ⟨h,k,na⟩ (λ_ x=>(f x).1) t
 exact aNb (h:=λt=>(sq t).1) (c:=λt=>(f (sq t)).2.1) (r:=λt=>(f (sq t)).2.2) (λt=>(sq t).2.1) λt=>hf (sq t)
end
def aFa (h:∀k,k<n->f k<=g k):sumN n f<=sumN n g:=by
 induction n with
 |zero=>exact t8 _
 |succ n ih=>
  have h1:=ih λk hk=>h k (by lia);have h2:=h n (by lia);show sumN n f+f n<=sumN n g+g n;lia
theorem aAH {f:Nat->Nat->Int}{a:Nat}:∀b:Nat,sumN a (λi=>sumN b λj=>f i j)=sumN b λj=>sumN a λi=>f i j
 |0=>lJ λ_ _=>rfl
 |b+1=>by
  show sumN a (λi=>sumN b (λj=>f i j)+f i b)=sumN b (λj=>sumN a λi=>f i j)+sumN a λi=>f i b;rw[jJ,aAH b]
def aER {B:Int}(hB:0<=B)(hX:0<=X){L:Nat}(hL:(L:Int)*B<=X):∀{M:Nat}{b:Tup},M<=L->(∀k r,-B<=b k r/\b k r<=B)->-(X^M)<=det M b/\det M b<=X^M:=by
 intro M
 induction M with
 |zero=>intro b _ _;simp[det]
 |succ M ih=>
  intro b hM hb;have key:∀i,-(B*X^M)<=sg (i+M)*(b i M*det M (skip i b))/\sg (i+M)*(b i M*det M (skip i b))<=B*X^M:=λi=>by
   have h1:=ih (b:=skip i b) (by lia) λk r=>by unfold skip;split<;>exact hb _ _
   have h2:=hb i M;generalize det M (skip i b)=d at *;generalize b i M=e at *;generalize X^M=Y at *;have a1:d.natAbs<=Y.toNat:=by lia
   have a2:e.natAbs<=B.toNat:=by lia
   have a3:(e*d).natAbs<=(B*Y).toNat:=by
    rw[xa];have:B.toNat*Y.toNat=(B*Y).toNat:=by
     rw[<- Int.toNat_mul]<;>lia
    rw[<- this];exact Nat.mul_le_mul a2 a1
   have a4:0<=B*Y:=jl hB (by lia);unfold sg;split<;>lia
  have s1:sumN (M+1) (λi=>sg (i+M)*(b i M*det M (skip i b)))<=sumN (M+1) λ_=>B*X^M:=aFa λi _=>(key i).2;have s2:sumN (M+1) (λ_=>-(B*X^M))<=sumN (M+1) λi=>sg (i+M)*(b i M*det M (skip i b)):=aFa λi _=>(key i).1;have cs:∀(y:Int) (n:Nat),sumN n (λ_=>y)=(n:Int)*y:=λy n=>by
   induction n with
   |zero=>simp[sumN]
   |succ n ih=>show sumN n (λ_=>y)+y=_;rw[ih,Int.natCast_add,qy];lia
  rw[cs] at s1 s2;have p:0<=X^M:=Int.pow_nonneg hX;have t:((M+1:Nat):Int)*(B*X^M)<=X^(M+1):=by
   rw[<- fw,Int.pow_succ,fe (X^M)];refine kg (Int.le_trans (kg ?_ hB) hL) p;lia
  rw[Cn] at s2;show -(X^(M+1))<=sumN (M+1) _/\sumN (M+1) _<=X^(M+1);lia
def A0 (m k:Nat)(co:Nat->Nat->Int)(ob wy:Nat->Int):Nat->Vec:=λj c=>if j<k then(if c<m then co j c else if c=m then ob j else 0) else if j<k+m then(if c=j-k then 1 else 0) else if c<m then wy c else 0
def A0_slack (hp:p<m):(A0 m k co ob wy) (k+p)=unit p:=by
 funext c;unfold A0 unit;rw[C4 (by lia),C5 (by lia),show k+p-k=p by lia]
def A0_step (hj:j<k)(hc:c<m):(A0 m k co ob wy) j c=co j c:=by unfold A0;rw[C5 hj,C5 hc]
def A0_ob (hj:j<k):(A0 m k co ob wy) j m=ob j:=by unfold A0;rw[C5 hj,C4 (by lia),C5 rfl]
def A0_wy (hc:c<m):(A0 m k co ob wy) (k+m) c=wy c:=by unfold A0;rw[C4 (by lia),C4 (by lia),C5 hc]
def A0_w0:(A0 m k co ob wy) (k+m) m=0:=by unfold A0;rw[C4 (by lia),C4 (by lia),C4 (by lia)]
def A0_out (hc:m<c):(A0 m k co ob wy) j c=0:=by
 unfold A0;split
 ·rw[C4 (by lia),C4 (by lia)]
 ·split
  ·rw[C4 (by lia)]
  ·rw[C4 (by lia)]
def h0 (k:Nat):Nat->Nat:=λi=>k+i
def bv0 (hi:i<=m):bv (A0 m k co ob wy) m (h0 k) i=unit i:=by
 unfold bv;split
 ·rename_i h;exact A0_slack h
 ·rw[show i=m by lia]
def aGa {v:Vec}{n:Nat}(h:∀c,n<=c->v c=0):v=λc=>sumN n λp=>v p*unit p c:=by
 funext c;by_cases hc:c<n
 ·rw[gZ hc λp _ hne=>by show v p*(if c=p then 1 else 0)=0;rw[C4 (gf hne),jv]];show v c=v c*(if c=c then 1 else 0);rw[C5 rfl,oo]
 ·rw[h c (by lia),lJ λp hp=>by show v p*(if c=p then 1 else 0)=0;rw[C4 (by lia),jv]]
def dd0:dd (A0 m k co ob wy) m (h0 k)=1:=by
 unfold dd;rw[aCv (b':=unit) λi hi=>bv0 (by lia),aDr]
def R0 (hi:i<=m):R (A0 m k co ob wy) m (h0 k) i j=(A0 m k co ob wy) j i:=by
 unfold R;rw[aGa (v:=(A0 m k co ob wy) j) (n:=m+1) λc hc=>A0_out (by lia),yK (by lia),gZ (i:=i) (by lia) λp hp hne=>?_]
 ·have:up (bv (A0 m k co ob wy) m (h0 k)) i (unit i)=bv (A0 m k co ob wy) m (h0 k):=by
   have e:unit i=bv (A0 m k co ob wy) m (h0 k) i:=(bv0 hi).symm;rw[e,iV]
  rw[this];have:det (m+1) (bv (A0 m k co ob wy) m (h0 k))=1:=dd0;rw[this,oo];show _=sumN (m+1) λp=>(A0 m k co ob wy) j p*unit p i;rw[gZ (i:=i) (by lia) λp _ hne=>by show(A0 m k co ob wy) j p*(if i=p then 1 else 0)=0;rw[C4 (gf hne),jv]];show _=(A0 m k co ob wy) j i*(if i=i then 1 else 0);rw[C5 rfl,oo]
 ·rw[gK (i:=p) (j:=i) (by lia) (by lia) hne (by rw[kL hne,dZ,bv0 (by lia)]),jv]
def ok0 (hw:∀p,p<m->0<=wy p):Ok (A0 m k co ob wy) m (k+m) (h0 k):=by
 refine⟨by rw[dd0];decide,λi hi=>by show k+i<k+m;lia,λj hj c=>?_,λi hi=>?_⟩
 ·rw[dd0,Bc];have e:=congrFun (aGa (v:=(A0 m k co ob wy) j) (n:=m+1) λc hc=>A0_out (by lia)) c;rw[e];refine cD λp hp=>?_;rw[R0 (by lia),bv0 (by lia)]
 ·rw[R0 (by lia),A0_wy hi];exact hw i hi
def zz (m:Nat)(x:Nat->Int)(v:Vec):Int:=v m+sumN m λp=>x p*v p
def aMU {m:Nat}{x a:Nat->Int}{w:Nat->Vec}(n:Nat):zz m x (λc=>sumN n λi=>a i*w i c)=sumN n λi=>a i*zz m x (w i):=by
 unfold zz;have e:(λp=>x p*sumN n λi=>a i*w i p)=λp=>sumN n λi=>a i*(x p*w i p):=by
  funext p;rw[<- fM];exact cD λi _=>ff ..
 rw[e,aAH];have e2:(λi=>a i*(w i m+sumN m λp=>x p*w i p))=λi=>a i*w i m+sumN m λp=>a i*(x p*w i p):=by
  funext i;rw[ue,fM]
 rw[e2,jJ]
def unb {m k:Nat}{co:Nat->Nat->Int}{ob wy:Nat->Int}{h:Nat->Nat}{c:Nat}{x:Nat->Int}(ok:Ok (A0 m k co ob wy) m (k+m) h)(hx:∀p,p<m->0<=x p)(hz:∀j,j<k->0<=ob j+sumN m λp=>x p*co j p)(hc:c<k+m)(neg:R (A0 m k co ob wy) m h m c<0):∃i,i<m/\0<R (A0 m k co ob wy) m h i c:=by
 have zc:∀j,j<k+m->0<=zz m x ((A0 m k co ob wy) j):=λj hj=>by
  unfold zz;by_cases q:j<k
  ·rw[A0_ob q,cD (g:=λp=>x p*co j p) λp hp=>by rw[A0_step q hp]];exact hz j q
  ·obtain⟨p,rfl⟩:∃p,j=k+p:=⟨j-k,by lia⟩;rw[A0_slack (by lia)];have:0<=sumN m λq=>x q*unit p q:=uV λq hq=>jl (hx q hq) (by unfold unit;split<;>decide);have:unit p m=0:=C4 (by lia);lia
 have e:dd (A0 m k co ob wy) m h*zz m x ((A0 m k co ob wy) c)=sumN (m+1) λi=>R (A0 m k co ob wy) m h i c*zz m x (bv (A0 m k co ob wy) m h i):=by
  rw[<- aMU];have:(λq=>sumN (m+1) λi=>R (A0 m k co ob wy) m h i c*bv (A0 m k co ob wy) m h i q)=λq=>dd (A0 m k co ob wy) m h*(A0 m k co ob wy) c q:=by
   funext q;rw[ok.ex c (by lia) q]
  rw[this];unfold zz;rw[ue,<- fM];congr 1;exact cD λp _=>ff ..
 have e2:sumN (m+1) (λi=>R (A0 m k co ob wy) m h i c*zz m x (bv (A0 m k co ob wy) m h i))=sumN m (λi=>R (A0 m k co ob wy) m h i c*zz m x ((A0 m k co ob wy) (h i)))+R (A0 m k co ob wy) m h m c:=by
  show sumN m _+R (A0 m k co ob wy) m h m c*zz m x (bv (A0 m k co ob wy) m h m)=_;have:zz m x (bv (A0 m k co ob wy) m h m)=1:=by
   rw[aOU];unfold zz;rw[lJ λp hp=>by show x p*(if p=m then 1 else 0)=0;rw[C4 (by lia),jv]];show(if m=m then(1:Int) else 0)+0=1;rw[C5 rfl];rfl
  rw[this,oo];congr 1;exact cD λi hi=>by rw[aBh hi]
 have p:0<=dd (A0 m k co ob wy) m h*zz m x ((A0 m k co ob wy) c):=jl (o6 ok.d0) (zc c hc);obtain⟨i,hi,pos⟩:=aDC (n:=m) (f:=λi=>R (A0 m k co ob wy) m h i c*zz m x ((A0 m k co ob wy) (h i))) (by lia);refine⟨i,hi,?_⟩;have zi:=zc (h i) (ok.hN i hi);have pos:0<R (A0 m k co ob wy) m h i c*zz m x ((A0 m k co ob wy) (h i)):=pos;apply dn;intro no;have:0<=(- R (A0 m k co ob wy) m h i c)*zz m x ((A0 m k co ob wy) (h i)):=jl (by lia) zi;rw[lu] at this;lia
def no_opp (ok:Ok (A0 m k co ob wy) m (k+m) h)(hi:i<m)(hj:j<m)(e:∀c,(A0 m k co ob wy) (h i) c=-1*(A0 m k co ob wy) (h j) c)(hij:i≠j):False:=by
 have:dd (A0 m k co ob wy) m h=0:=by
  unfold dd;have:bv (A0 m k co ob wy) m h=up (bv (A0 m k co ob wy) m h) i (λc=>-1*bv (A0 m k co ob wy) m h j c):=by
   have:(λc=>-1*bv (A0 m k co ob wy) m h j c)=bv (A0 m k co ob wy) m h i:=by
    funext c;rw[aBh hi,aBh hj,e c]
   rw[this,iV]
  rw[this,rE (by lia),gK (i:=i) (j:=j) (by lia) (by lia) hij (by rw[dZ,kL (gf hij)]),jv]
 have:=ok.d0;lia
def R_bound (hm:m<=15)(hc:∀j c,-2<=co j c/\co j c<=2)(ho:∀j,-2<=ob j/\ob j<=2)(hw:∀p,0<=wy p/\wy p<=1000000):(R (A0 m k co ob wy) m h i j).natAbs<2^400:=by
 have ha:∀j c,-1000000<=(A0 m k co ob wy) j c/\(A0 m k co ob wy) j c<=1000000:=λj c=>by
  unfold A0;have h1:=hc j c;have h2:=ho j;have h3:=hw c
  repeat' split
  all_goals lia
 have hb:∀(v:Nat->Nat->Int),(∀a c,-1000000<=v a c/\v a c<=1000000)->(det (m+1) v).natAbs<2^400:=λv hv=>by
  have:=aER (B:=1000000) (X:=16777216) (L:=16) (by decide) (by decide) (by decide) (M:=m+1) (b:=v) (by lia) hv;have p:(16777216:Nat)^(m+1)<2^400:=bj (az (by decide) (show m+1<=16 by lia)) (by
   rw[show(16777216:Nat)=2^24 from rfl,<- Nat.pow_mul];exact Nat.pow_lt_pow_right (by decide) (by decide))
  have q:(16777216:Int)^(m+1)=((16777216^(m+1):Nat):Int):=(Int.natCast_pow 16777216 (m+1)).symm;rw[q] at this;generalize (16777216:Nat)^(m+1)=y at *;generalize (2:Nat)^400=z at *;lia
 unfold R;refine hb _ λa c=>?_;unfold up bv unit;split
 ·exact ha _ _
 ·split
  ·exact ha _ _
  ·show -1000000<=(if c=m then(1:Int) else 0)/\(if c=m then(1:Int) else 0)<=1000000;split<;>decide
def dd_bound (hm:m<=15)(hc:∀j c,-2<=co j c/\co j c<=2)(ho:∀j,-2<=ob j/\ob j<=2)(hw:∀p,0<=wy p/\wy p<=1000000):(dd (A0 m k co ob wy) m h).natAbs<2^400:=by
 by_cases m0:0<m
 ·have:dd (A0 m k co ob wy) m h=R (A0 m k co ob wy) m h 0 (h 0):=by unfold dd R;rw[<- aBh (A:=(A0 m k co ob wy)) (h:=h) m0,iV]
  rw[this];exact R_bound hm hc ho hw
 ·obtain rfl:m=0:=by lia
  have:dd (A0 0 k co ob wy) 0 h=1:=by
   unfold dd;rw[aCv (b':=unit) λi hi=>by obtain rfl:i=0:=(by lia);exact aOU,aDr]
  rw[this];exact Nat.one_lt_two_pow (by decide)
def Rem (A:Nat->Vec)(m N:Nat):Nat->(Nat->Nat)->Prop
 |0,h=>∀h',¬Nxt A m N h' h
 |k+1,h=>∀h',Nxt A m N h' h->Rem A m N k h'
theorem Rem.up:∀{k:Nat}{h:Nat->Nat},Rem A m N k h->Rem A m N (k+1) h
 |0,_,r=>λh' n=>absurd n (r h')
 |_+1,_,r=>λh' n=>Rem.up (r h' n)
theorem Rem.ups (r:Rem A m N k h):∀d:Nat,Rem A m N (k+d) h
 |0=>r
 |d+1=>(r.ups d).up
theorem bnd {P:Nat->Nat->Prop}(up:∀x k d,P x k->P x (k+d)):∀M:Nat,(∀x,x<M->∃k,P x k)->∃k,∀x,x<M->P x k
 |0,_=>⟨0,λx h=>by lia⟩
 |M+1,h=>by
  obtain⟨k,hk⟩:=bnd up M λx hx=>h x (by lia);obtain⟨l,hl⟩:=h M (by lia);refine⟨k+l,λx hx=>?_⟩;by_cases c:x=M
  ·subst c;rw[Nat.add_comm];exact up _ _ _ hl
  ·exact up _ _ _ (hk x (by lia))
def Ok.rem (k:Ok A m N h):∃j,Rem A m N j h:=by
 have a:=k.acc
 induction a with
 |intro h _ ih=>
  have h1:∀c,c<N->∃j,∀r,r<m->Stp A m N h (put h r c) c r->Rem A m N j (put h r c):=λc _=>
   bnd (P:=λr j=>Stp A m N h (put h r c) c r->Rem A m N j (put h r c)) (λr j d q s=>(q s).ups d) m λr _=>by
    by_cases s:Stp A m N h (put h r c) c r
    ·obtain⟨j,hj⟩:=ih _ ⟨c,r,s⟩ (k.step s);exact⟨j,λ_=>hj⟩
    ·exact⟨0,λz=>absurd z s⟩
  obtain⟨j,hj⟩:=bnd (P:=λc j=>∀r,r<m->Stp A m N h (put h r c) c r->Rem A m N j (put h r c)) (λc j d q r hr s=>(q r hr s).ups d) N h1;refine⟨j+1,λh' ⟨c,r,s⟩=>?_⟩;have e:=s.eq;subst e;exact hj c s.cN r s.rm s
def Le (x y:Nat->Int)(hd:Nat->Nat)(a b:Nat):Prop:=x a*y b<=x b*y a/\(x a*y b=x b*y a->hd a<=hd b)
def Le.refl (x y:Nat->Int)(hd:Nat->Nat)(a:Nat):Le x y hd a a:=⟨t8 _,λ_=>ar _⟩
def Le.trans (ha:0<y a)(hb:0<y b)(hc:0<y c)(h1:Le x y hd a b)(h2:Le x y hd b c):Le x y hd a c:=by
 refine⟨jH ha hb hc h1.1 h2.1,λe=>?_⟩;have e1:x b*y a<=x a*y b:=jH hb hc ha h2.1 (Int.le_of_eq e.symm);have e2:x c*y b<=x b*y c:=jH hc ha hb (Int.le_of_eq e.symm) h1.1;exact bo (h1.2 (vx h1.1 e1)) (h2.2 (vx h2.1 e2))
def Le.of_not (h:(decide (x a*y b<x b*y a)||(decide (x a*y b=x b*y a)&&decide (hd a<hd b)))=false):Le x y hd b a:=by
 rw[Bool.or_eq_false_iff] at h;have h1:=of_decide_eq_false h.1;refine⟨by lia,λe=>?_⟩;have h2:=h.2;rw[At e.symm,nv] at h2;have:=of_decide_eq_false h2;lia
def Le.of_yes (h:(decide (x a*y b<x b*y a)||(decide (x a*y b=x b*y a)&&decide (hd a<hd b)))=true):Le x y hd a b:=by
 rw[o7,cz] at h;rcases h with h|⟨h1,h2⟩
 ·have:=C0 h;exact⟨by lia,λe=>by lia⟩
 ·have h1:=C0 h1;have h2:=C0 h2;exact⟨by lia,λ_=>by lia⟩
end Sh
namespace K38
open PySem L2
def oF (hs:∀H',SameX acc H H'->SqL K H' a xs)(h:∀i x σ' H',xs[i]?=some x->σ'.length=σ.length->Agree vars σ σ'->SameX acc H H'->∃σ2:St,σ2.length=σ.length/\Agree vars σ σ2/\(∀N:St->Hp->Prop,N σ2 H'->g x σ' H' N)/\Emits vars tb acc σ2 H' (L i)):
  Emits vars (dP (Itl K a) g tb) acc σ H ((bc xs.length).flatMap L):=by
 intro D pre ha hz hd;refine aX (K:=K) (a:=a) (xs:=xs) (g:=g) (D:=D) (λi σ' H'=>i<=xs.length/\σ'.length=σ.length/\Agree vars σ σ'/\SameX acc H H'/\H' acc=some (.lst (pre++(bc i).flatMap L))) ⟨bh _,rfl,Agree.refl _ _,SameX.refl _ _,by simpa using ha⟩ (λi σ1 H1 _ ⟨_,_,_,sx1,_⟩=>hs H1 sx1) (λi x σ1 H1 hx ⟨_,hl1,ag1,sx1,h1⟩=>?_) λσ1 H1 ⟨_,hl1,ag1,sx1,h1⟩=>hd σ1 H1 hl1 ag1 sx1 h1;have hi:i<xs.length:=(ai.mp hx).1;have hle:=bV L (show i+1<=xs.length from hi);rw[aK,aq] at hle;obtain⟨σ2,l2,ag2,run,em⟩:=h i x σ1 H1 hx hl1 ag1 sx1;refine run _ (em _ _ h1 (by rw[aq];lia) λσ' H' hl ag sx h2=>⟨hi,hl.trans l2,ag2.trans ag,sx1.trans sx,by rw[h2,aK,gx]⟩)
def aEY (hlen:ys.length=xs.length)(hs:∀H',SameX acc H H'->SqB b1 K H' l1 xs/\SqB b2 K H' l2 ys)(h:∀i x y σ' H' p,xs[i]?=some x->ys[i]?=some y->H' p=none->σ'.length=σ.length->Agree vars σ σ'->SameX acc H H'->∃σ2:St,σ2.length=σ.length/\Agree vars σ σ2/\(∀N:St->Hp->Prop,N σ2 (upd H' p (.tup [x,y]))->g (.ref p) σ' (upd H' p (.tup [x,y])) N)/\Emits vars tb acc σ2 (upd H' p (.tup [x,y])) (L i)):
  Emits vars (dP (Itz K b1 b2 l1 l2) g tb) acc σ H ((bc xs.length).flatMap L):=by
 intro D pre ha hz hd;refine aKI (K:=K) (l1:=l1) (l2:=l2) (xs:=xs) (ys:=ys) (g:=g) (D:=D) hlen (λi σ' H'=>i<=xs.length/\σ'.length=σ.length/\Agree vars σ σ'/\SameX acc H H'/\H' acc=some (.lst (pre++(bc i).flatMap L))) ⟨bh _,rfl,Agree.refl _ _,SameX.refl _ _,by simpa using ha⟩ (λi σ1 H1 _ ⟨_,_,_,sx1,_⟩=>hs H1 sx1) (λi x y σ1 H1 p hx hy hp ⟨_,hl1,ag1,sx1,h1⟩=>?_) λσ1 H1 ⟨_,hl1,ag1,sx1,h1⟩=>hd σ1 H1 hl1 ag1 sx1 h1;have hi:i<xs.length:=(ai.mp hx).1;have hle:=bV L (show i+1<=xs.length from hi);rw[aK,aq] at hle;obtain⟨σ2,l2,ag2,run,em⟩:=h i x y σ1 H1 p hx hy hp hl1 ag1 sx1;have mp:=aD hp (.tup [x,y]);refine run _ (em _ _ (mp _ _ h1) (by rw[aq];lia) λσ' H' hl ag sx h2=>⟨hi,hl.trans l2,ag2.trans ag,(sx1.trans mp.x).trans sx,by rw[h2,aK,gx]⟩)
def aAD {α:Type}(L:List Nat)(f:Nat->α):(L.flatMap λk=>[f k])=L.map f:=by
 induction L with
 |nil=>rfl
 |cons a L ih=>rw[m8,ih];rfl
def cA (n:Nat):List (Nat×Nat):=(bc n).flatMap λi=>(bc (n-(i+1))).map λd=>(i,i+1+d)
def bS:Nat->List (List Nat)
 |0=>[[]]
 |n+1=>bS n++(bS n).map (· ++ [n])
def bP (n:Nat):List (List Nat):=((bS n).drop 1).take ((bS n).length-1-1)
def okS (n:Nat)(s:List Nat):Bool:=s==[0]||(!s.contains 0&&decide (s.length<n-1))
def aBB (n:Nat):List (List Nat):=(bP n).filter (okS n)
def fN (n:Nat):List (List Nat×Int):=(aBB n).map (λs=>(s,1))++((aBB n).filter λs=>s.length==1).map λs=>(s,-1)
def prt (s:List Nat)(i j:Nat):Bool:=s.contains i != s.contains j
def nN (L:List (List Nat)):List (List Int):=L.map λs=>s.map Int.ofNat
def cO:(nN L).length=L.length:=by unfold nN;rw[af]
theorem dG:∀n:Nat,(bS n).length=2^n
 |0=>rfl
 |n+1=>by
  show(bS n++(bS n).map _).length=_;rw[aq,af,dG n,Nat.pow_succ];lia
theorem eB:∀(n:Nat),∀s∈bS n,s.length<=n/\∀x∈s,x<n
 |0,s,h=>by
  obtain rfl:s=[]:=by simpa[bS] using h
  exact⟨ar _,λx hx=>by cases hx⟩
 |n+1,s,h=>by
  rcases cg.mp (show s∈bS n++(bS n).map (· ++ [n]) from h) with h|h
  ·have:=eB n s h;exact⟨by lia,λx hx=>by have:=this.2 x hx;lia⟩
  ·obtain⟨t,ht,rfl⟩:=cw.mp h;have:=eB n t ht;refine⟨by rw[aq];simp;lia,λx hx=>?_⟩;rcases cg.mp hx with hx|hx
   ·have:=this.2 x hx;lia
   ·obtain rfl:x=n:=by simpa using hx
    lia
def fG (h:s∈bP n):s.length<=n/\∀x∈s,x<n:=eB n s (uz (qe h))
def aIH (h:Rows K H xs T)(a b:Nat):Rows K H ((xs.drop a).take b) ((T.drop a).take b):=by
 refine⟨by rw[dj,dj,ip,ip,h.1],λi row e=>?_⟩;rw[List.getElem?_take] at e ⊢;split at e
 ·rename_i hi;rw[mw] at e;obtain⟨c,e1,e2⟩:=h.2 _ row e;exact⟨c,by rw[C5 hi,mw];exact e1,e2⟩
 ·cases e
def gO {K:aa}{H:Hp}{xs:List V}{L:List (List Nat)}(h:Rows K H xs (nN L)){i:Nat}{x:V}(hx:xs[i]?=some x):∃s b,L[i]?=some s/\x=.ref b/\SqT K H b (s.map cB):=by
 have hi:i<xs.length:=(ai.mp hx).1;have hl:i<L.length:=by rw[h.1,cO] at hi;exact hi
 obtain⟨b,e1,e2⟩:=h.2 i (L[i].map Int.ofNat) (by unfold nN;rw[bp,ah hl];rfl);rw[hx] at e1;refine⟨L[i],b,ah hl,cf e1,?_⟩;rw[fg] at e2;exact e2
def RowsS (K:aa)(H:Hp)(xs:List V)(L:List (List Nat×Int)):Prop:=xs.length=L.length/\∀(i:Nat) (e:List Nat×Int),L[i]?=some e->∃b q,xs[i]?=some (.ref b)/\SqT K H b [.ref q,.int e.2]/\SqT K H q (e.1.map cB)
def RowsS.same (h:RowsS K H xs L)(s:Same H H'):RowsS K H' xs L:=⟨h.1,λi e he=>by
 obtain⟨b,q,e1,e2,e3⟩:=h.2 i e he;exact⟨b,q,e1,s.tup e2,s.tup e3⟩⟩
def RowsS.x (h:RowsS K H xs L)(hp:H p=some (.lst ys))(s:SameX p H H'):RowsS K H' xs L:=⟨h.1,λi e he=>by
 obtain⟨b,q,e1,e2,e3⟩:=h.2 i e he;exact⟨b,q,e1,fL e2 hp s,fL e3 hp s⟩⟩
def RowsS.app (h:RowsS K H xs L)(g:RowsS K H ys M):RowsS K H (xs++ys) (L++M):=by
 refine⟨by rw[aq,aq,h.1,g.1],λi e he=>?_⟩;by_cases hi:i<L.length
 ·rw[dg hi] at he;obtain⟨b,q,e1,e2,e3⟩:=h.2 i e he;exact⟨b,q,by rw[dg (by rw[h.1];exact hi)];exact e1,e2,e3⟩
 ·rw[c9 (by lia)] at he;obtain⟨b,q,e1,e2,e3⟩:=g.2 _ e he;exact⟨b,q,by rw[c9 (by rw[h.1];lia),h.1];exact e1,e2,e3⟩
def aDc {K:aa}{H:Hp}{xs:List V}{L:List (List Nat×Int)}(h:RowsS K H xs L){i:Nat}{x:V}(hx:xs[i]?=some x):∃e b q,L[i]?=some e/\x=.ref b/\SqT K H b [.ref q,.int e.2]/\SqT K H q (e.1.map cB):=by
 have hi:i<xs.length:=(ai.mp hx).1;have hl:i<L.length:=by rw[<- h.1];exact hi
 obtain⟨b,q,e1,e2,e3⟩:=h.2 i L[i] (ah hl);rw[hx] at e1;exact⟨L[i],b,q,ah hl,cf e1,e2,e3⟩
def aOk (n d:Nat):HT.sIx n d (some (-1))=n-1:=by
 show(if(-1:Int)<0 then((-1:Int)+(n:Int)).toNat else min (-1:Int).toNat n)=n-1;rw[C5 (by decide)];lia
def aFD {xs:List V}{a:Nat}(h:a<=xs.length):eK xs (some (a:Int)) (some (-1))=(xs.drop a).take (xs.length-1-a):=by
 unfold eK;rw[HT.sIx_nat,aOk,Nat.min_eq_left h]
def aKO (h:1<=xs.length):eK xs (some 1) (some (-1))=(xs.drop 1).take (xs.length-1-1):=aFD (a:=1) h
def aJs:eK xs none (some (-1))=xs.take (xs.length-1):=by
 unfold eK;rw[HT.sIx_none,aOk,List.drop_zero];rfl
def aEq (h:SqL K H p xs)(hn:0<xs.length)(hj:xs[xs.length-1]?=some v)(q:Q v H):aN K (.ref p) (.int (-1)) H Q:=by
 refine .inl ⟨p,xs,-1,v,rfl,rfl,h,?_,q⟩;unfold atI ixN;rw[C4 (by decide),C5 (by lia),show((-1:Int)+(xs.length:Int)).toNat=xs.length-1 by lia];exact hj
def vD {s:List Nat}{i:Nat}:inV (.int (i:Int)) (s.map cB)=s.contains i:=by
 unfold inV;rw[BR,List.contains_eq_any_beq];congr 1;funext y;show eqV (.int (y:Int)) (.int (i:Int))=(i==y);unfold eqV;show decide ((y:Int)=(i:Int))=_;by_cases c:i=y
 ·subst c;simp
 ·rw[Au (by lia),beq_false_of_ne c]
def rL {s:List Nat}:(s.map cB).all yT=true:=by
 rw[Aj];exact dk.mpr λ_ _=>rfl
def EmR.mono (h:EmR K vars tb acc σ H L)(hs:∀k∈vars,k∈vars'):EmR K vars' tb acc σ H L:=
 λD pre R ha hR hz hd=>h D pre R ha hR hz λσ' H' pre' hl ag sx h1 h2=>hd σ' H' pre' hl (λk hk=>ag k λz=>hk (hs k z)) sx h1 h2
def aPs (K:aa):Sp:=λvs H Q _=>∃n:Nat,vs=[.int (n:Int)]/\n<=8/\∀F ys H',Same H H'->H F=none->H' F=some (.lst ys)->Rows K H' ys (prN (cA n))->Q (.ref F) H'
def aAz (h:n<=8):(cA n).length<=64:=by
 unfold cA;have:=eG (λi=>(bc (n-(i+1))).map λd=>(i,i+1+d)) 8 n λi _=>by rw[af,e8];lia
 lia
def aPf:qQ1 (aPs K) (sS K) ["many"]:=by
 intro vs H Q E h;obtain⟨n,rfl,h8,q⟩:=h;refine⟨_,rfl,(n:Int),rfl,by lia,by lia,λA hA=>?_⟩;rw[cv];have e1:prN (cA n)=(bc n).flatMap λi=>(bc (n-(i+1))).flatMap λd=>[[(i:Int),((i+1+d:Nat):Int)]]:=by
  unfold prN cA;rw[pJ];congr 1;funext i;rw[fg,aAD];rfl
 refine aDk (K:=K) [0,1] (prN (cA n)) hA (by rw[gN];have:=aAz h8;lia) (EmR.cast (yR (by decide) (by show 0<3;decide) λi σ1 H1 hi l1 ag1 s1 sx1=>?_) e1.symm) λσ2 H2 pre m2 hA2 r3=>q A pre H2 m2 hA hA2 r3;rw[jd] at s1;have t2:σ1[2]?=some (some (.int (n:Int))):=(ag1 2 (by decide)).trans rfl;refine EmR.mono (vars:=[1]) (aKy (lo:=(i:Int)+1) (n:=n-(i+1)) (λR hR=>⟨_,s1,_,t2,_,_,rfl,⟨by lia,by lia,by lia,by lia⟩,by rw[show((n:Int)-((i:Int)+1)).toNat=n-(i+1) by lia];exact hR⟩) (by decide) (by rw[l1];show 1<3;decide) λd σ2 H2 hd l2 ag2 s2 sx2=>?_) (by simp);have t0:σ2[0]?=some (some (.int (i:Int))):=(ag2 0 (by decide)).trans s1;rw[show(i:Int)+1+(d:Int)=((i+1+d:Nat):Int) by lia] at s2;exact aHh (by show 2<=100;decide) λR hR=>⟨_,t0,_,s2,hR⟩
def aQn (K:aa):Sp:=λvs H Q _=>∃n:Nat,vs=[.int (n:Int)]/\1<=n/\n<=6/\∀F ys H',Same H H'->H F=none->H' F=some (.lst ys)->Rows K H' ys (nN (bP n))->Q (.ref F) H'
def aPP:qQ1 (aQn K) (xF K) ["many","sets","place"]:=by
 intro vs H Q E h;obtain⟨n,rfl,n1,n6,q⟩:=h;refine⟨C7,λp hp=>⟨C8,λl hl=>?_⟩⟩;have mp:=aD hp (.tup []);have ml:=aD hl (.lst [V.ref p]);have m0:=mp.trans ml;have hl0:(upd (upd H p (.tup [])) l (.lst [V.ref p])) l=some (.lst [V.ref p]):=aB;have hp0:SqT K (upd (upd H p (.tup [])) l (.lst [V.ref p])) p []:=ml.tup (.of aB);have hlH:H l=none:=mp.free hl;generalize upd (upd H p (.tup [])) l (.lst [V.ref p])=G at *;refine⟨_,rfl,(n:Int),rfl,by lia,by lia,?_⟩;rw[cv];refine bR (lo:=0) (n:=n) (λi σ' H'=>i<=n/\Same H H'/\∃F x2 ys,σ'=[some (.int (n:Int)),some (.ref F),x2]/\H F=none/\H' F=some (.lst ys)/\Rows K H' ys (nN (bS i))) ⟨bh _,m0,l,none,[.ref p],rfl,hlH,hl0,rfl,λi row e=>?_⟩ (λi σ' H1 hi ⟨_,m1,F,x2,ys,es,hF0,hF,r1⟩=>?_) λσ' H1 ⟨_,m1,F,x2,ys,es,hF0,hF,r1⟩=>?_
 ·match i,e with
  |0,e=>
   obtain rfl:([]:List Int)=row:=cf e;exact⟨p,rfl,hp0⟩
 ·subst es;rw[jd];have yl:ys.length=(bS i).length:=by rw[r1.1,cO]
  have y64:ys.length<=32:=by
   rw[yl,dG];exact bo (az (by decide) (show i<=5 by lia)) (by decide)
  refine⟨_,rfl,_,rfl,F,rfl,.inl ⟨⟨_,.of hF⟩,λA hA=>?_⟩⟩;refine aX (K:=K) (a:=F) (xs:=ys) (λj σ2 H2=>j<=ys.length/\Same H1 H2/\(∃x0,σ2=[x0,some (.int (i:Int))])/\∃zs,H2 A=some (.lst zs)/\Rows K H2 zs (nN (((bS i).take j).map (· ++ [i])))) ⟨bh _,aD hA _,⟨_,rfl⟩,[],aB,Rows.nil⟩ (λj σ2 H2 _ ⟨_,s2,_⟩=>.of (s2 _ _ hF)) (λj x σ2 H2 hx ⟨_,s2,⟨x0,e2⟩,zs,hA2,r2⟩=>?_) λσ2 H2 ⟨_,s2,_,zs,hA2,r2⟩=>?_
  ·subst e2;obtain⟨s,b,hs,rfl,hb⟩:=gO (r1.same s2) hx;have hj:j<ys.length:=(ai.mp hx).1;have sl:s.length<=i:=(eB i s (au hs)).1;refine⟨_,rfl,_,rfl,C8,λt ht=>?_⟩;have mt:=aD ht (.tup [V.int (i:Int)]);refine .inr ⟨b,t,_,_,rfl,rfl,mt.tup hb,.of aB,?_,λc H3 _ hc s3=>?_⟩
   ·rw[af];exact bo (show s.length+1<=10 by lia) (by decide)
   ·have s4:=mt.trans s3;have hA3:=s4 _ _ hA2;refine⟨zs,hA3,bj (show zs.length<=100 by rw[r2.1,cO,af,dj];lia) (by decide),hj,bO hA (s2.trans s4),⟨_,rfl⟩,_,aB,?_⟩;rw[gq,hs,c4];have:nN (((bS i).take j).map (· ++ [i])++((some s).toList.map (· ++ [i])))=nN (((bS i).take j).map (· ++ [i]))++[(s++[i]).map Int.ofNat]:=by
     unfold nN;rw[c4];rfl
    rw[this];refine Rows.put (Rows.snoc (r2.same s4) (b:=c) ?_) hA3;rw[fg,c4];exact hc
  ·have hA4:=s2 _ _ hF;refine .inl ⟨F,A,ys,zs,rfl,rfl,hA4,hA2,?_,λF4 hF4=>?_⟩
   ·rw[r2.1,cO,af,dj];exact bo (show _<=100 by lia) (by decide)
   ·have m4:=aD hF4 (.lst (ys++zs));refine⟨hi,(m1.trans s2).trans m4,F4,_,ys++zs,rfl,(m1.trans s2).free hF4,aB,?_⟩;rw[yl,gn] at r2;have:nN (bS (i+1))=nN (bS i)++nN ((bS i).map (· ++ [i])):=by unfold nN;rw[<- c4];rfl
    rw[this];exact(mJ (r1.same s2) r2).same m4
 ·subst es;refine⟨_,rfl,1,rfl,1,rfl,_,rfl,.inl ⟨F,ys,rfl,.of hF,λp' hp'=>?_⟩⟩;rw[aKO (by rw[r1.1,cO,dG];exact Nat.one_le_two_pow)];have m4:=aD hp' (.lst ((ys.drop 1).take (ys.length-1-1)));refine q p' _ _ (m1.trans m4) (m1.free hp') aB ?_;have:=(aIH r1 1 (ys.length-1-1)).same m4;have e:nN (bP n)=((nN (bS n)).drop 1).take (ys.length-1-1):=by
   unfold nN bP;rw[pg,u5,r1.1,cO]
  rw[e];exact this
def aMi (K:aa):Sp:=λvs H Q _=>∃(t:ww) (s:List Nat) (i j:Nat),vs=[.ref t,.int (i:Int),.int (j:Int)]/\SqT K H t (s.map cB)/\Q (.bl (prt s i j)) H
def aGv:eqD (.bl a) (.bl b)=(a==b):=by cases a<;>cases b<;>rfl
def aOq:qQ1 (aMi K) (vB K) ["some","i","j"]:=by
 intro vs H Q E h;obtain⟨t,s,i,j,rfl,ht,q⟩:=h;refine⟨_,rfl,_,rfl,t,_,rfl,.inr ht,rfl,rL,_,rfl,_,rfl,t,_,rfl,.inr ht,rfl,rL,.bl _,.bl _,bh _,rfl,rfl,?_⟩;rw[aGv];show Q (.bl (!(inV (.int (i:Int)) (s.map cB)==inV (.int (j:Int)) (s.map cB)))) H;rw[vD,vD];exact q
def cC {s:List Nat}:s.map cB=(s.map Int.ofNat).map V.int:=by rw[fg];rfl
def kJ {r q:List Int}:eqD (.tup (r.map Dt.int)) (.tup (q.map Dt.int))=decide (r=q):=by rw[eqD];exact aGw
def aBx {s t:List Nat}:s.map Int.ofNat=t.map Int.ofNat↔s=t:=wo λa b e=>Bu e
def eE (r:List Int):dep (.tup (r.map Dt.int))<=100:=by
 have:kZ (r.map Dt.int)=0:=by
  induction r with
  |nil=>rfl
  |cons a r ih=>rw[de,kZ,ih];rfl
 rw[dep,this];decide
def aLH {K:aa}{n b:Nat}{s:List Nat}{H:Hp}{R:Bool->Hp->Prop}(n1:1<=n)(hb:SqT K H b (s.map cB))(q:∀H',Same H H'->R (okS n s) H'):
  tOr (aT (tOp (gH K) (aC 0) (bH (aA (AC 0) aF)))) (aJW (aT (tOp (rIn K true) (AC 0) (aC 0))) (aT (tOp yLt (tCB (gE K) (AR 0)) (tOp jL (aC 1) (AC 1))))) [some (.ref b),some (.int (n:Int))] H R:=by
 refine⟨_,rfl,C8,λp hp=>?_⟩;have mp:=aD hp (.tup [V.int 0]);have hb2:SqT K (upd H p (.tup [V.int 0])) b (s.map cB):=mp.tup hb;have hp2:SqT K (upd H p (.tup [V.int 0])) p (([0]:List Int).map V.int):=.of aB;generalize upd H p (.tup [V.int 0])=G at *;refine⟨.tup ((s.map Int.ofNat).map Dt.int),.tup (([0]:List Int).map Dt.int),eE _,⟨b,_,rfl,by rw[<- cC];exact hb2,ShL.ints _⟩,⟨p,_,rfl,hp2,ShL.ints _⟩,_,rfl,?_⟩;rw[kJ];have e0:decide (s.map Int.ofNat=[(0:Int)])=(s==[0]):=by
  by_cases c:s=[0]
  ·subst c;rfl
  ·rw[beq_false_of_ne c];exact Au λz=>c (aBx.mp (z.trans rfl))
 rw[e0];have q:=q G mp;unfold okS at q;cases c:s==[0] with
 |true=>
  rw[c] at q;exact aW rfl q
 |false=>
  rw[c,Br] at q;refine bB (by decide) ⟨_,rfl,b,_,rfl,.inr hb2,rfl,rL,_,rfl,?_⟩;show if(!inV (.int 0) (s.map cB))=true then _ else _;rw[show inV (.int 0) (s.map cB)=s.contains 0 from vD (i:=0)];cases c2:s.contains 0 with
  |true=>
   rw[c2] at q;exact bB (by decide) q
  |false=>
   rw[c2] at q;refine aW rfl ⟨_,rfl,b,_,rfl,.inr hb2,_,rfl,_,_,rfl,rfl,_,_,rfl,rfl,_,rfl,?_⟩;rw[af];have:decide ((s.length:Int)<(n:Int)-1)=decide (s.length<n-1):=by
    by_cases d:s.length<n-1
    ·rw[At d];exact At (by lia)
    ·rw[Au d];exact Au (by lia)
   rw[this];exact q
def aHj (hA:H A=none)(hF:H F=some (.lst ys))(r:Rows K H ys (nN L))(z:L.length<=100)(hts:∀(tb:TS) (D:xX) (s:List Nat) (b:ww) (H':Hp),s∈L->SqT K H' b (s.map cB)->(if p s=true then tb D [some (.ref b)] H' else D.nx [some (.ref b)] H')->jC ts tb D [some (.ref b)] H')(htc:∀σ H' (Q:VK),Q (.int c) H'->tc σ H' Q)(q:∀σ' H' zs,Same H H'->H' A=some (.lst zs)->RowsS K H' zs ((L.filter p).map λs=>(s,c))->D.nx σ' H'):dP (Itl K F) (aE 0) (jC ts (bG (bH (aA (aC 0) (aA tc aF))) A)) D [x0] (upd H A (.lst [])):=by
 have yl:ys.length=L.length:=by rw[r.1,cO]
 refine aX (K:=K) (a:=F) (xs:=ys) (D:=D) (λi σ' H'=>i<=ys.length/\Same H H'/\(∃x0,σ'=[x0])/\∃zs,H' A=some (.lst zs)/\RowsS K H' zs (((L.take i).filter p).map λs=>(s,c))) ⟨bh _,aD hA _,⟨_,rfl⟩,[],aB,rfl,λi e he=>by cases he⟩ (λi σ1 H1 _ ⟨_,s1,_⟩=>.of (s1 _ _ hF)) (λi x σ1 H1 hx ⟨_,s1,⟨x1,es⟩,zs,hA1,r1⟩=>?_) λσ1 H1 ⟨_,s1,_,zs,hA1,r1⟩=>q σ1 H1 zs s1 hA1 (by rw[yl,gn] at r1;exact r1);subst es;have hi:i<ys.length:=(ai.mp hx).1;obtain⟨s,b,hs,rfl,hb⟩:=gO (r.same s1) hx;refine hts _ _ s b H1 (au hs) hb ?_;have e1:(L.take (i+1)).filter p=(L.take i).filter p++if p s=true then[s] else[]:=by
  rw[gq,hs,je];congr 1;show[s].filter p=_;by_cases c:p s=true
  ·rw[C5 c,kv c];rfl
  ·rw[C4 c,kx c];rfl
 by_cases cp:p s=true
 ·rw[C5 cp] at e1;refine aW cp ⟨_,rfl,htc _ _ _ ⟨C9,λt ht=>?_⟩⟩;have mt:=aD ht (.tup [V.ref b,.int c]);have hA2:=mt _ _ hA1;refine⟨zs,hA2,bj (show zs.length<=100 by rw[r1.1,af];have:=dy p (L.take i);rw[dj] at this;lia) (by decide),hi,bO hA (s1.trans mt),⟨_,rfl⟩,_,aB,?_⟩;rw[e1,c4];refine RowsS.x (H:=upd H1 t (.tup [V.ref b,.int c])) (p:=A) (RowsS.app (r1.same mt) ⟨rfl,λk e he=>?_⟩) hA2 (SameX.put _)
  match k,he with
  |0,he=>
   obtain rfl:(s,c)=e:=cf he;exact⟨t,b,rfl,.of aB,mt.tup hb⟩
 ·rw[C4 cp,ia] at e1;refine bB (by simpa using cp) ⟨hi,s1,⟨_,rfl⟩,zs,hA1,?_⟩;rw[e1];exact r1
def aQU (K:aa):Sp:=λvs H Q _=>∃n:Nat,vs=[.int (n:Int)]/\3<=n/\n<=6/\∀F ys H',Same H H'->H F=none->H' F=some (.lst ys)->RowsS K H' ys (fN n)->Q (.ref F) H'
def aDV (h:n<=6):(bP n).length<=62:=by
 unfold bP;rw[dj,ip,dG];have:2^n<=2^6:=az (by decide) h;have:(2:Nat)^6=64:=rfl;lia
def aFV (h:n<=6):(aBB n).length<=62:=bo (dy _ _) (aDV h)
def aPW:qQ1 (aQU K) (lK K (aQn K)) ["many","sets"]:=by
 intro vs H Q E h;obtain⟨n,rfl,n3,n6,q⟩:=h;refine⟨_,rfl,n,rfl,by lia,n6,λF0 ys0 H0 s0 _ hF0 r0=>⟨F0,rfl,.inl ⟨⟨_,.of hF0⟩,λA hA=>?_⟩⟩⟩;have yl:ys0.length=(bP n).length:=by rw[r0.1,cO]
 refine aX (K:=K) (a:=F0) (xs:=ys0) (λi σ' H'=>i<=ys0.length/\Same H0 H'/\(∃x0,σ'=[x0,some (.int (n:Int))])/\∃zs,H' A=some (.lst zs)/\Rows K H' zs (nN (((bP n).take i).filter (okS n)))) ⟨bh _,aD hA _,⟨_,rfl⟩,[],aB,Rows.nil⟩ (λi σ1 H1 _ ⟨_,s1,_⟩=>.of (s1 _ _ hF0)) (λi x σ1 H1 hx ⟨_,s1,⟨x1,es⟩,zs,hA1,r1⟩=>?_) λσ1 H1 ⟨_,s1,_,zs,hA1,r1⟩=>?_
 ·subst es;have hi:i<ys0.length:=(ai.mp hx).1;obtain⟨s,b,hs,rfl,hb⟩:=gO (r0.same s1) hx;refine aLH (by lia) hb λH2 s2=>?_;have hA2:=s2 _ _ hA1;have e1:((bP n).take (i+1)).filter (okS n)=((bP n).take i).filter (okS n)++if okS n s=true then[s] else[]:=by
   rw[gq,hs,je];congr 1;show[s].filter (okS n)=_;by_cases c:okS n s=true
   ·rw[C5 c,kv c];rfl
   ·rw[C4 c,kx c];rfl
  by_cases cp:okS n s=true
  ·rw[C5 cp] at e1;refine aW cp ⟨_,rfl,zs,hA2,bj (show zs.length<=100 by rw[r1.1,cO];have:=dy (okS n) ((bP n).take i);rw[dj] at this;have:=aDV n6;lia) (by decide),hi,bO hA (s1.trans s2),⟨_,rfl⟩,_,aB,?_⟩;rw[e1];have:nN (((bP n).take i).filter (okS n)++[s])=nN (((bP n).take i).filter (okS n))++[s.map Int.ofNat]:=by unfold nN;rw[c4];rfl
   rw[this];exact Rows.put (Rows.snoc (r1.same s2) (by rw[<- cC];exact s2.tup hb)) hA2
  ·rw[C4 cp,ia] at e1;refine bB (by simpa using cp) ⟨hi,s1.trans s2,⟨_,rfl⟩,zs,hA2,?_⟩;rw[e1];exact r1.same s2
 ·rw[yl,gn] at r1;have r1:Rows K H1 zs (nN (aBB n)):=r1;have z6:=aFV n6;refine⟨_,rfl,A,rfl,.inl ⟨⟨_,.of hA1⟩,λB hB=>?_⟩⟩;refine aHj (K:=K) (F:=A) (c:=1) (p:=λ_=>true) (ts:=[]) hB hA1 r1 (by lia) (λtb D s b H' _ _ h=>by rw[C5 rfl] at h;exact h) (λ_ _ _ h=>h) λσ2 H2 us s2 hB2 r2=>?_;refine⟨_,rfl,A,rfl,.inl ⟨⟨_,.of (s2 _ _ hA1)⟩,λC hC=>?_⟩⟩;refine aHj (K:=K) (F:=A) (c:=-1) (p:=λs=>s.length==1) (ts:=[(aT (tOp (gH K) (tCB (gE K) (AR 0)) (AC 1)))]) hC (s2 _ _ hA1) (r1.same s2) (by lia) (λtb D s b H' _ hb h=>?_) (λ_ _ _ h=>⟨1,rfl,h⟩) λσ3 H3 ws s3 hC3 r3=>?_
  ·refine⟨_,rfl,b,_,rfl,.inr hb,.int (s.length:Int),.int ((1:Nat):Int),bh _,by rw[af];rfl,rfl,_,rfl,?_⟩;rw[aNF];exact h
  ·refine .inl ⟨B,C,us,ws,rfl,rfl,s3 _ _ hB2,hC3,?_,λF4 hF4=>?_⟩
   ·rw[r2.1,r3.1,af,af];have h1:=dy (λ_=>true) (aBB n);have h2:=dy (λs:List Nat=>s.length==1) (aBB n);exact bo (show _<=200 by lia) (by decide)
   ·have m4:=aD hF4 (.lst (us++ws));have sA:=(((s0.trans s1).trans s2).trans s3);refine q F4 _ _ (sA.trans m4) (sA.free hF4) aB ?_;have:fN n=((aBB n).filter λ_=>true).map (λs=>(s,(1:Int)))++((aBB n).filter λs=>s.length==1).map λs=>(s,(-1:Int)):=by
     unfold fN;rw[List.filter_eq_self.mpr λ_ _=>rfl]
    rw[this];exact((r2.same s3).app r3).same m4
section
variable {K:aa}
def mkR (N:Nat)(f:Nat->Int):List V:=(bc N).map λj=>V.int (f j)
def bD:(mkR N f).length=N:=by unfold mkR;rw[af,e8]
def mQ (h:j<N):(mkR N f)[j]?=some (.int (f j)):=by unfold mkR;rw[bp,Bd h];rfl
def zX (h:(mkR N f)[j]?=some x):j<N/\x=.int (f j):=by
 have hj:j<N:=by have:=(ai.mp h).1;rw[bD] at this;exact this
 rw[mQ hj] at h;exact⟨hj,(cf h).symm⟩
def eI (h:∀j,j<N->f j=g j):mkR N f=mkR N g:=by
 unfold mkR;exact qx λj hj=>by rw[h j (fc.mp hj)]
structure Mt (H:Hp)(F:ww)(ls:List ww)(m N:Nat)(f:Nat->Nat->Int):Prop where
 top:H F=some (.lst (ls.map V.ref))
 len:ls.length=m
 row:∀(i:Nat) (l:ww),ls[i]?=some l->H l=some (.lst (mkR N (f i)))
 out:F∉ls
def Mt.same (M:Mt H F ls m N f)(s:Same H H'):Mt H' F ls m N f:=⟨s _ _ M.top,M.len,λi l h=>s _ _ (M.row i l h),M.out⟩
def Mt.congr (M:Mt H F ls m N f)(h:∀i j,i<m->j<N->f i j=g i j):Mt H F ls m N g:=⟨M.top,M.len,λi l e=>by
 have hi:i<m:=by have:=(ai.mp e).1;rw[M.len] at this;exact this
 rw[M.row i l e,eI λj hj=>h i j hi hj],M.out⟩
def Mt.at (M:Mt H F ls m N f)(hi:i<m):∃l,ls[i]?=some l/\(ls.map V.ref)[i]?=some (.ref l)/\H l=some (.lst (mkR N (f i))):=by
 have hl:i<ls.length:=by rw[M.len];exact hi
 exact⟨ls[i],ah hl,by rw[bp,ah hl];rfl,M.row i _ (ah hl)⟩
def aID (M:Mt H F ls m N f)(ht:σ[t]?=some (some (.ref F)))(hi:σ[si]?=some (some (.int (i:Int))))(hj:σ[sj]?=some (some (.int (j:Int))))(li:i<m)(lj:j<N)(q:Q (.int (f i j)) H):tOp (aN K) (tOp (aN K) (aC t) (aC si)) (aC sj) σ H Q:=by
 obtain⟨l,h1,h2,h3⟩:=M.at li;exact⟨_,ht,_,hi,ixL (.of M.top) h2 ⟨_,hj,ixL (.of h3) (mQ lj) q⟩⟩
def aNm (M:Mt H F ls m N f)(ht:σ[t]?=some (some (.ref F)))(hi:σ[si]?=some (some (.int (i:Int))))(li:i<m)(N0:0<N)(q:Q (.int (f i (N-1))) H):tOp (aN K) (tOp (aN K) (aC t) (aC si)) (tUn pK (AC 1)) σ H Q:=by
 obtain⟨l,h1,h2,h3⟩:=M.at li;exact⟨_,ht,_,hi,ixL (.of M.top) h2 ⟨1,rfl,aEq (.of h3) (by rw[bD];exact N0) (by rw[bD];exact mQ (by lia)) q⟩⟩
def aQA (K:aa):Sp:=λvs H Q _=>∃(F:ww) (ls:List ww) (m N:Nat) (f:Nat->Nat->Int),vs=[.ref F]/\Mt H F ls (m+1) (N+1) f/\N<=100/\∀H',Same H H'->((∀j,j<N->0<=f m j)->Q .non H')/\∀c,c<N->f m c<0->(∀j,j<c->0<=f m j)->Q (.int (c:Int)) H'
def aPq:qQ1 (aQA K) (iY K) ["rows","column","turned"]:=by
 intro vs H Q E h;obtain⟨F,ls,m,N,f,rfl,M,hN,q⟩:=h;obtain⟨l,h1,h2,h3⟩:=M.at (show m<m+1 by lia);refine⟨_,rfl,1,rfl,aEq (.of M.top) (by rw[af,M.len];lia) (by rw[af,M.len];exact h2) ⟨1,rfl,_,rfl,.inl ⟨l,_,rfl,.of h3,λp hp=>?_⟩⟩⟩;rw[aJs];have ec:(mkR (N+1) (f m)).take ((mkR (N+1) (f m)).length-1)=mkR N (f m):=by
  rw[bD];unfold mkR;rw[<- pg,List.take_range,Nat.min_eq_left (by lia)];rfl
 rw[ec];have mp:=aD hp (.lst (mkR N (f m)));have hp2:(upd H p (.lst (mkR N (f m)))) p=some (.lst (mkR N (f m))):=aB;generalize upd H p (.lst (mkR N (f m)))=G at *;refine⟨p,true,rfl,⟨_,.of hp2⟩,?_⟩;refine aDU (K:=K) (b:=true) (l:=p) (xs:=mkR N (f m)) (λi σ' H'=>i<=N/\Same G H'/\(∃x1 x2,σ'=[some (.ref F),x1,x2])/\∀j,j<i->0<=f m j) ⟨bh _,Same.refl _,⟨_,_,rfl⟩,λj hj=>by lia⟩ (λi σ1 H1 _ ⟨_,s1,_⟩=>.of (s1 _ _ hp2)) (λi x σ1 H1 t hx ht ⟨_,s1,⟨x1,x2,es⟩,a1⟩=>?_) λσ1 H1 ⟨_,s1,_,a1⟩=>(q H1 (mp.trans s1)).1 (by rw[bD] at a1;exact a1);subst es;obtain⟨hi,rfl⟩:=zX hx;have mt:=aD ht (.tup [V.int (i:Int),.int (f m i)]);refine⟨t,_,rfl,.of aB,rfl,_,_,rfl,_,_,rfl,rfl,?_⟩;refine⟨_,rfl,_,_,rfl,rfl,_,rfl,tH (λc=>?_) λc=>?_⟩
 ·exact⟨_,rfl,(q _ ((mp.trans s1).trans mt)).2 i hi (C0 c) a1⟩
 ·refine⟨hi,s1.trans mt,⟨_,_,rfl⟩,λj hj=>?_⟩;by_cases e:j=i
  ·subst e;have:=of_decide_eq_false (jb _ |>.mp c)
   lia
  ·exact a1 j (by lia)
def tgt (x y:Nat->Int)(hd:Nat->Nat)(a b:Nat):Bool:=decide (x a*y b<x b*y a)||(decide (x a*y b=x b*y a)&&decide (hd a<hd b))
def hdL (m:Nat)(h:Nat->Nat):List V:=(bc m).map λi=>cB (h i)
def xJ (hi:i<m):(hdL m h)[i]?=some (cB (h i)):=by unfold hdL;rw[bp,Bd hi];rfl
def fW:(hdL m h).length=m:=by unfold hdL;rw[af,e8]
def aQV (K:aa):Sp:=λvs H Q _=>∃(F hl:ww) (ls:List ww) (m N c a o:Nat) (f:Nat->Nat->Int) (h:Nat->Nat),vs=[.ref F,.ref hl,.int (c:Int),.int (a:Int),.int (o:Int)]/\Mt H F ls (m+1) (N+1) f/\H hl=some (.lst (hdL m h))/\(∀i j,(f i j).natAbs<2^400)/\c<=N/\a<m/\o<m/\Q (.bl (tgt (λi=>f i N) (λi=>f i c) h a o)) H
def big {x:Int}(h:x.natAbs<2^400):x.natAbs<2^8000:=av h C6
def aPY:qQ1 (aQV K) (pV K) ["rows","held","column","at","other","one_room","other_room"]:=by
 intro vs H Q E h;obtain⟨F,hl,ls,m,N,c,a,o,f,h,rfl,M,hh,fb,cN,am,om,q⟩:=h;refine aNm (t:=0) (si:=3) (i:=a) M rfl rfl (by lia) (by lia) ?_;refine aID (t:=0) (si:=4) (sj:=2) (i:=o) (j:=c) M rfl rfl rfl (by lia) (by lia) ⟨.inr ⟨big (fb _ _),big (fb _ _)⟩,?_⟩;refine aNm (t:=0) (si:=4) (i:=o) M rfl rfl (by lia) (by lia) ?_;refine aID (t:=0) (si:=3) (sj:=2) (i:=a) (j:=c) M rfl rfl rfl (by lia) (by lia) ⟨.inr ⟨big (fb _ _),big (fb _ _)⟩,?_⟩;rw[Nat.add_sub_cancel];unfold tgt at q;refine⟨_,rfl,_,rfl,_,_,rfl,rfl,_,rfl,tH (λc1=>?_) λc1=>?_⟩
 ·have:decide (f a N*f o c<f o N*f a c)=true:=c1;rw[this,Bool.true_or] at q;exact q
 ·have:decide (f a N*f o c<f o N*f a c)=false:=jb _ |>.mp c1
  rw[this,Br] at q;refine⟨_,rfl,_,rfl,.int _,.int _,bh _,rfl,rfl,_,rfl,?_⟩;have ee:eqD (.int (f a N*f o c)) (.int (f o N*f a c))=decide (f a N*f o c=f o N*f a c):=by rw[eqD];rfl
  rw[ee];by_cases c2:f a N*f o c=f o N*f a c
  ·rw[At c2,nv] at q;refine aW (At c2) ⟨_,rfl,_,rfl,ixL (.of hh) (xJ am) ⟨_,rfl,_,rfl,ixL (.of hh) (xJ om) ⟨_,_,rfl,rfl,?_⟩⟩⟩;have:decide ((h a:Int)<(h o:Int))=decide (h a<h o):=by
    by_cases z:h a<h o
    ·rw[At z];exact At (by lia)
    ·rw[Au z];exact Au (by lia)
   rw[this];exact q
  ·rw[Au c2,uf] at q;exact bB (Au c2) q
def aPB (K:aa):Sp:=λvs H Q _=>∃(F hl:ww) (ls:List ww) (m N c:Nat) (f:Nat->Nat->Int) (h:Nat->Nat),vs=[.ref F,.ref hl,.int (c:Int)]/\Mt H F ls (m+1) (N+1) f/\H hl=some (.lst (hdL m h))/\(∀i j,(f i j).natAbs<2^400)/\c<=N/\m<=100/\(∃i,i<m/\0<f i c) /\
 ∀r H',Same H H'->r<m->0<f r c->(∀i,i<m->0<f i c->Sh.Le (λi=>f i N) (λi=>f i c) h r i)->Q (.int (r:Int)) H'
def aQw:qQ1 (aPB K) (jX K (aQV K)) ["rows","held","column","best","at","row"]:=by
 intro vs H Q E h;obtain⟨F,hl,ls,m,N,c,f,h,rfl,M,hh,fb,cN,m1,⟨i0,hi0,pi0⟩,q⟩:=h;refine⟨_,rfl,1,rfl,_,rfl,.inl ⟨F,_,rfl,.of M.top,λp hp=>?_⟩⟩;rw[aJs];have ec:(ls.map V.ref).take ((ls.map V.ref).length-1)=(ls.take m).map V.ref:=by rw[af,M.len,<- pg,Nat.add_sub_cancel]
 rw[ec];have mp:=aD hp (.lst ((ls.take m).map V.ref));have hp2:(upd H p (.lst ((ls.take m).map V.ref))) p=some (.lst ((ls.take m).map V.ref)):=aB;have M:=M.same mp;have hh:=mp _ _ hh;generalize upd H p (.lst ((ls.take m).map V.ref))=G at *;have ll:((ls.take m).map V.ref).length=m:=by rw[af,dj,M.len];lia
 refine⟨p,true,rfl,⟨_,.of hp2⟩,?_⟩;refine aDU (K:=K) (b:=true) (l:=p) (xs:=(ls.take m).map V.ref) (λi σ' H'=>i<=m/\Same G H'/\∃x3 x4 x5,σ'=[some (.ref F),some (.ref hl),some (.int (c:Int)),some x3,x4,x5]/\((x3=.non/\∀j,j<i->f j c<=0)\/∃b,x3=.int ((b:Nat):Int)/\b<i/\0<f b c/\∀j,j<i->0<f j c->Sh.Le (λi=>f i N) (λi=>f i c) h b j))
  ⟨bh _,Same.refl _,.non,none,none,rfl,.inl ⟨rfl,λj hj=>by lia⟩⟩ (λi σ1 H1 _ ⟨_,s1,_⟩=>.of (s1 _ _ hp2)) (λi x σ1 H1 t hx ht ⟨_,s1,x3,x4,x5,es,inv⟩=>?_) λσ1 H1 ⟨_,s1,x3,x4,x5,es,inv⟩=>?_
 ·subst es;have hi:i<m:=by have:=(ai.mp hx).1;rw[ll] at this;exact this
  obtain⟨l,g1,g2,g3⟩:=M.at (show i<m+1 by lia);have ex:x=.ref l:=by
   rw[bp,m7 hi,g1] at hx;exact(cf hx).symm
  subst ex;have mt:=aD ht (.tup [V.int (i:Int),.ref l]);have s2:=s1.trans mt;refine⟨t,_,rfl,.of aB,rfl,_,_,rfl,_,_,rfl,rfl,?_⟩;generalize upd H1 t (.tup [V.int (i:Int),.ref l])=G1 at *;refine⟨_,rfl,_,rfl,ixL (.of (s2 _ _ g3)) (mQ (show c<N+1 by lia)) ⟨_,_,rfl,rfl,_,rfl,tH (λc1=>?_) λc1=>?_⟩⟩
  ·have pos:0<f i c:=C0 c1;rcases inv with⟨rfl,no⟩|⟨b,rfl,hb,pb,le⟩
   ·refine⟨_,rfl,.inr ⟨rfl,_,rfl,aW rfl (aW rfl ⟨_,rfl,hi,s2,_,_,_,rfl,.inr ⟨i,rfl,by lia,pos,λj hj pj=>?_⟩⟩)⟩⟩;by_cases e:j=i
    ·subst e;exact Sh.Le.refl _ _ _ _
    ·have:=no j (by lia);lia
   ·refine⟨_,rfl,.inr ⟨rfl,_,rfl,bB rfl ⟨_,rfl,_,rfl,_,rfl,_,rfl,_,rfl,F,hl,ls,m,N,c,i,b,f,h,rfl,M.same s2,s2 _ _ hh,fb,cN,hi,by lia,_,rfl,?_⟩⟩⟩;show if tgt (λi=>f i N) (λi=>f i c) h i b=true then _ else _;cases ct:tgt (λi=>f i N) (λi=>f i c) h i b with
    |true=>
     have L:=Sh.Le.of_yes (x:=λi=>f i N) (y:=λi=>f i c) (hd:=h) (a:=i) (b:=b) ct;refine aW rfl ⟨_,rfl,hi,s2,_,_,_,rfl,.inr ⟨i,rfl,by lia,pos,λj hj pj=>?_⟩⟩;by_cases e:j=i
     ·subst e;exact Sh.Le.refl _ _ _ _
     ·exact L.trans pos pb pj (le j (by lia) pj)
    |false=>
     have L:=Sh.Le.of_not (x:=λi=>f i N) (y:=λi=>f i c) (hd:=h) (a:=i) (b:=b) ct;refine bB rfl ⟨hi,s2,_,_,_,rfl,.inr ⟨b,rfl,by lia,pb,λj hj pj=>?_⟩⟩;by_cases e:j=i
     ·subst e;exact L
     ·exact le j (by lia) pj
  ·have neg:¬0<f i c:=of_decide_eq_false (jb _ |>.mp c1)
   refine bB rfl ⟨hi,s2,_,_,_,rfl,?_⟩;rcases inv with⟨rfl,no⟩|⟨b,rfl,hb,pb,le⟩
   ·refine .inl ⟨rfl,λj hj=>?_⟩;by_cases e:j=i
    ·subst e;lia
    ·exact no j (by lia)
   ·refine .inr ⟨b,rfl,by lia,pb,λj hj pj=>?_⟩;by_cases e:j=i
    ·subst e;exact absurd pj neg
    ·exact le j (by lia) pj
 ·subst es;rw[ll] at inv;rcases inv with⟨rfl,no⟩|⟨b,rfl,hb,pb,le⟩
  ·have:=no i0 hi0;lia
  ·exact⟨_,rfl,q b H1 (mp.trans s1) hb pb le⟩
def tnF (f:Nat->Nat->Int)(r c:Nat)(b:Int)(i j:Nat):Int:=if i=r then f i j else(f i j*f r c-f i c*f r j) / b
def aPQ (K:aa):Sp:=λvs H Q _=>∃(F:ww) (ls:List ww) (m N r c:Nat) (b:Int) (f:Nat->Nat->Int),vs=[.ref F,.int (r:Int),.int (c:Int),.int b]/\Mt H F ls m N f/\(∀i j,(f i j).natAbs<2^400)/\0<b/\b.natAbs<2^400/\r<m/\c<N/\m<=100/\N<=200 /\
 ∀ls' H',Mt H' F ls' m N (tnF f r c b)->SameX F H H'->Q .non H'
def aQx:qQ1 (aPQ K) (aJV K) ["rows","at","column","bottom","pivot","other","factor"]:=by
 intro vs H Q E h;obtain⟨F,ls,m,N,r,c,b,f,rfl,M,fb,b0,bb,rm,cN,m1,N2,q⟩:=h;obtain⟨lp,p1,p2,p3⟩:=M.at rm;have lF:lp≠F:=λe=>M.out (e▸au p1);refine⟨_,rfl,_,rfl,ixL (.of M.top) p2 ?_⟩;refine⟨_,rfl,F,_,rfl,.inl (.of M.top),((ls.map V.ref).length:Int),rfl,by lia,by rw[af,M.len];lia,?_⟩;rw[cv,af,M.len];refine bR (lo:=0) (n:=m) (λi σ' H'=>i<=m/\SameX F H H'/\(∃x5 x6,σ'=[some (.ref F),some (.int (r:Int)),some (.int (c:Int)),some (.int b),some (.ref lp),x5,x6])/\∃ls',Mt H' F ls' m N (λa j=>if a<i then tnF f r c b a j else f a j)) ⟨bh _,SameX.refl _ _,⟨_,_,rfl⟩,ls,M.congr λa j _ _=>by rw[C4 (by lia)]⟩ (λi σ1 H1 hi ⟨_,sx1,⟨x5,x6,es⟩,ls1,M1⟩=>?_) λσ1 H1 ⟨_,sx1,_,ls1,M1⟩=>q ls1 H1 (M1.congr λa j ha _=>by rw[C5 ha]) sx1;subst es;rw[jd];have hp3:=sx1 _ _ lF p3;refine⟨_,rfl,_,rfl,.int (i:Int),.int (r:Int),bh _,rfl,rfl,_,rfl,?_⟩;rw[aNF];by_cases ir:i=r
 ·subst ir;refine bB (by rw[At rfl];rfl) ⟨hi,sx1,⟨_,_,rfl⟩,ls1,M1.congr λa j _ _=>?_⟩;show(if a<i then tnF f i c b a j else f a j)=if a<i+1 then tnF f i c b a j else f a j;by_cases e:a=i
  ·subst e;rw[C4 (by lia),C5 (by lia)];unfold tnF;rw[C5 rfl]
  ·by_cases e2:a<i
   ·rw[C5 e2,C5 (by lia)]
   ·rw[C4 e2,C4 (by lia)]
 ·refine aW (by rw[Au ir];rfl) ?_;obtain⟨l1,g1,g2,g3⟩:=M1.at hi;have g3:H1 l1=some (.lst (mkR N (f i))):=by rw[g3];congr 2;exact eI λj _=>C4 (by lia)
  refine aID (t:=0) (si:=5) (sj:=2) (i:=i) (j:=c) M1 rfl rfl rfl hi cN ?_;rw[C4 (by lia)];refine⟨_,rfl,_,rfl,ixL (.of M1.top) g2 ⟨_,rfl,l1,lp,true,true,rfl,⟨_,.of g3⟩,⟨_,.of hp3⟩,λA hA=>?_⟩⟩;have hv:∀H',SameX A (upd H1 A (.lst [])) H'->Same H1 H':=λH' sx=>cE hA sx;refine bW [0,1] (mkR N (tnF f r c b i)) hA (by rw[bD];lia) (Emits.cast (aEY (K:=K) (b1:=true) (b2:=true) (l1:=l1) (l2:=lp) (xs:=mkR N (f i)) (ys:=mkR N (f r)) (L:=λj=>[V.int (tnF f r c b i j)]) (by rw[bD,bD]) (λH' sx=>⟨.of (hv H' sx _ _ g3),.of (hv H' sx _ _ hp3)⟩) λj x y σ2 H2 t hx hy ht l2 ag2 sx2=>?_) (by rw[bD,aAD];rfl)) λσ2 H2 s2 hA2=>?_
  ·obtain⟨hj,rfl⟩:=zX hx;obtain⟨_,rfl⟩:=zX hy;have mt:=aD ht (.tup [V.int (f i j),.int (f r j)]);have l6:σ2.length=6:=l2;refine⟨(σ2.set 0 (some (.int (f i j)))).set 1 (some (.int (f r j))),by rw[dw,dw];exact l2,(ag2.trans (Agree.set (by decide) _)).trans (Agree.set (by decide) _),λNn hN=>⟨t,_,rfl,.of aB,rfl,_,_,rfl,_,_,rfl,rfl,hN⟩,cU λR hR=>?_⟩;have t0:((σ2.set 0 (some (.int (f i j)))).set 1 (some (.int (f r j))))[0]?=some (some (.int (f i j))):=by rw[fk (by decide)];exact gG (by lia)
   have t1:((σ2.set 0 (some (.int (f i j)))).set 1 (some (.int (f r j))))[1]?=some (some (.int (f r j))):=gG (by rw[dw];lia);have tk:∀k,2<=k->((σ2.set 0 (some (.int (f i j)))).set 1 (some (.int (f r j))))[k]?=σ2[k]?:=λk hk=>by rw[fk (by lia),fk (by lia)]
   have t2:=(tk 2 (by decide)).trans ((ag2 2 (by decide)).trans (show _=some (some (V.ref lp)) from rfl));have t3:=(tk 3 (by decide)).trans ((ag2 3 (by decide)).trans (show _=some (some (V.int (c:Int))) from rfl));have t4:=(tk 4 (by decide)).trans ((ag2 4 (by decide)).trans (show _=some (some (V.int (f i c))) from rfl));have t5:=(tk 5 (by decide)).trans ((ag2 5 (by decide)).trans (show _=some (some (V.int b)) from rfl));have hp4:=mt _ _ (hv _ sx2 _ _ hp3);refine⟨_,t0,_,t2,_,t3,ixL (.of hp4) (mQ cN) ⟨.inr ⟨big (fb _ _),big (fb _ _)⟩,_,t4,_,t1,.inr ⟨big (fb _ _),big (fb _ _)⟩,_,_,rfl,rfl,_,t5,_,_,rfl,rfl,⟨b0,big bb⟩,?_⟩⟩;have:=hR _ (Same.refl _);unfold tnF at this;rw[C4 ir] at this;exact this
  ·have hT:=s2 _ _ M1.top;have nA:A≠F:=λe=>by rw[e,M1.top] at hA;cases hA
   refine⟨_,rfl,_,rfl,F,_,(i:Int),i,rfl,rfl,hT,?_,hi,(sx1.trans s2.x).trans (SameX.put _),⟨_,_,rfl⟩,ls1.set i A,?_⟩
   ·rw[af,M1.len];unfold ixN;rw[C5 (by lia),C5 (by lia),cv]
   ·have nF:∀k l,(ls1.set i A)[k]?=some l->l≠F:=λk l e z=>by
     rw[yf] at e;split at e
     ·split at e
      ·exact nA ((cf e).trans z)
      ·cases e
     ·exact M1.out (z▸au e)
    refine⟨by rw[aB,List.map_set],by rw[dw];exact M1.len,λk l e=>?_,λz=>?_⟩
    ·rw[aM (nF k l e)];rw[yf] at e;split at e
     ·rename_i hk;subst hk;split at e
      ·cases e;rw[hA2];congr 2;exact eI λj _=>(C5 (by lia)).symm
      ·cases e
     ·rename_i hk;rw[s2 _ _ (M1.row k l e)];congr 2;refine eI λj _=>?_;show(if k<i then tnF f r c b k j else f k j)=if k<i+1 then tnF f r c b k j else f k j;by_cases e2:k<i
      ·rw[C5 e2,C5 (by lia)]
      ·rw[C4 e2,C4 (by lia)]
    ·obtain⟨k,hk⟩:=gi.mp z;exact nF k F hk rfl
end
def mN (n:Nat):Nat:=(cA n).length
def kN (n:Nat):Nat:=(fN n).length
def stA (n j:Nat):List Nat×Int:=(fN n).getD j ([],0)
def prA (n p:Nat):Nat×Nat:=(cA n).getD p (0,0)
def coT (n j p:Nat):Int:=if prt (stA n j).1 (prA n p).1 (prA n p).2=true then(stA n j).2 else 0
def obT (n j:Nat):Int:=-2*(stA n j).2
def wyT (T:List (List Int))(n p:Nat):Int:=if p<mN n then at2 T (prA n p).1 (prA n p).2 else 0
def AT (T:List (List Int))(n:Nat):Nat->Sh.Vec:=Sh.A0 (mN n) (kN n) (coT n) (obT n) (wyT T n)
def n36 {P:Nat->Prop}(h3:P 3)(h4:P 4)(h5:P 5)(h6:P 6):∀n,3<=n->n<=6->P n:=λn a b=>by
 match n,a,b with
 |3,_,_=>exact h3
 |4,_,_=>exact h4
 |5,_,_=>exact h5
 |6,_,_=>exact h6
def lpB (n:Nat):Bool:=decide (cA n).Nodup&&decide (mN n<=15)&&decide (1<=mN n)&&(cA n).all (λe=>decide (e.1<e.2)&&decide (e.2<n))&&decide (kN n<=40)&&(fN n).all (λe=>decide (e.2=1)||decide (e.2=-1))
def aRN:∀n,3<=n->n<=6->lpB n=true:=n36 (by decide+kernel) (by decide+kernel) (by decide+kernel) (by decide+kernel)
def qP (h3:3<=n)(h6:n<=6):(cA n).Nodup/\mN n<=15/\1<=mN n/\(∀e∈cA n,e.1<e.2/\e.2<n)/\kN n<=40/\∀e∈fN n,e.2=1\/e.2=-1:=by
 have h:=aRN n h3 h6;unfold lpB at h;simp only[cz,decide_eq_true_eq,dk,o7] at h;obtain⟨⟨⟨⟨⟨h1,h2⟩,h2'⟩,h3⟩,h4⟩,h5⟩:=h;exact⟨h1,h2,h2',h3,h4,h5⟩
def aAc:mkR a f++mkR b (λj=>f (a+j))=mkR (a+b) f:=by
 unfold mkR;rw[List.range_add,c4,fg];rfl
def aGi:mkR 1 f=[V.int (f 0)]:=rfl
def aOa (hp:p<mN n):mkR (kN n) (λj=>coT n j p)++mkR (mN n) (λq=>if q=p then 1 else 0)++[V.int (at2 T (prA n p).1 (prA n p).2)]=mkR (kN n+mN n+1) (λj=>AT T n j p):=by
 rw[<- aAc (a:=kN n+mN n) (b:=1),<- aAc (a:=kN n) (b:=mN n),aGi];congr 1
 ·congr 1
  ·exact eI λj hj=>(Sh.A0_step hj hp).symm
  ·refine eI λq hq=>?_;show _=Sh.A0 (mN n) (kN n) (coT n) (obT n) (wyT T n) (kN n+q) p;rw[Sh.A0_slack hq];show _=if p=q then(1:Int) else 0;by_cases c:q=p
   ·rw[C5 c,C5 c.symm]
   ·rw[C4 c,C4 (gf c)]
 ·congr 2;show _=Sh.A0 (mN n) (kN n) (coT n) (obT n) (wyT T n) (kN n+mN n+0) p;rw[BM,Sh.A0_wy hp];unfold wyT;rw[C5 hp]
def aQp:mkR (kN n) (λj=>obT n j)++mkR (mN n) (λ_=>0)++[V.int 0]=mkR (kN n+mN n+1) (λj=>AT T n j (mN n)):=by
 rw[<- aAc (a:=kN n+mN n) (b:=1),<- aAc (a:=kN n) (b:=mN n),aGi];congr 1
 ·congr 1
  ·exact eI λj hj=>(Sh.A0_ob hj).symm
  ·refine eI λq hq=>?_;show _=Sh.A0 (mN n) (kN n) (coT n) (obT n) (wyT T n) (kN n+q) (mN n);rw[Sh.A0_slack hq];exact(C4 (by lia)).symm
 ·congr 2;exact(Sh.A0_w0).symm
def fB {α:Type}{l:List α}{i:Nat}{x d:α}(h:l[i]?=some x):l.getD i d=x:=by rw[ak,h];rfl
def Mt.more {H H':Hp}{F F' l:ww}{ls:List ww}{m N:Nat}{f:Nat->Nat->Int}(M:Mt H F ls m N f)(s:∀b o,b∈ls->H b=some o->H' b=some o)(hF':H' F'=some (.lst (ls.map V.ref++[.ref l])))(hl:H' l=some (.lst (mkR N (f m))))(out:F'∉ls)(ol:F'≠l):Mt H' F' (ls++[l]) (m+1) N f:=by
 refine⟨by rw[c4];exact hF',by rw[aq,M.len];rfl,λi a e=>?_,λz=>?_⟩
 ·by_cases hi:i<ls.length
  ·rw[dg hi] at e;exact s _ _ (au e) (M.row i a e)
  ·rw[c9 (by lia)] at e;have:i-ls.length=0:=by
    rcases hk:i-ls.length with _|k
    ·rfl
    ·rw[hk] at e;cases e
   rw[this] at e;obtain rfl:l=a:=cf e;rw[hl,show i=m by have:=M.len;lia]
 ·rcases cg.mp z with z|z
  ·exact out z
  ·exact ol (br.mp z)
def aQM (K:aa):Sp:=λvs H Q _=>∃(v:V) (P S:ww) (ps ss:List V) (T:List (List Int)) (n:Nat),vs=[v,.ref P,.ref S]/\Sh K H (xI T) v/\Quad T n/\3<=n/\n<=6/\H P=some (.lst ps)/\Rows K H ps (prN (cA n))/\H S=some (.lst ss)/\RowsS K H ss (fN n) /\
 ∀F ls H',Same H H'->H F=none->Mt H' F ls (mN n+1) (kN n+mN n+1) (λi j=>AT T n j i)->Q (.ref F) H'
def aQI:qQ1 (aQM K) (pT K (aMi K)) ["table","pairs","steps","rows","i","j","taken"]:=by
 intro vs H Q E h;obtain⟨v,P,S,ps,ss,T,n,rfl,hT,qT,n3,n6,hP,rP,hS,rS,q⟩:=h;obtain⟨nd,m15,m1,pij,k40,sg⟩:=qP n3 n6;have pl:ps.length=mN n:=by rw[rP.1,gN];rfl
 have sl:ss.length=kN n:=rS.1;refine⟨C7,λF hF=>?_⟩;have mF:=aD hF (.lst []);have hF1:(upd H F (.lst [])) F=some (.lst []):=aB;generalize upd H F (.lst [])=G at *;refine⟨_,rfl,P,rfl,.inl ⟨⟨_,.of (mF _ _ hP)⟩,?_⟩⟩;refine aX (K:=K) (a:=P) (xs:=ps) (λi σ' H'=>i<=mN n/\Same H H'/\(∃x4 x5 x6,σ'=[some v,some (.ref P),some (.ref S),some (.ref F),x4,x5,x6])/\∃ls,Mt H' F ls i (kN n+mN n+1) (λi j=>AT T n j i)) ⟨bh _,mF,⟨_,_,_,rfl⟩,[],hF1,rfl,(λi l e=>by cases e),(λz=>by cases z)⟩ (λi σ1 H1 _ ⟨_,s1,_⟩=>.of (s1 _ _ hP)) (λi x σ1 H1 hx ⟨_,s1,⟨x4,x5,x6,es⟩,ls,M⟩=>?_) λσ1 H1 ⟨_,s1,⟨x4,x5,x6,es⟩,ls,M⟩=>?_
 ·subst es;have hi:i<mN n:=by have:=(ai.mp hx).1;lia
  obtain⟨e,b,he,rfl,hb⟩:=sN (rP.same s1) hx;obtain⟨g1,g2⟩:=pij e (au he);have ep:prA n i=e:=fB he;refine⟨b,_,rfl,hb,rfl,cB e.1,[cB e.2],rfl,cB e.2,[],rfl,rfl,?_⟩;refine⟨_,rfl,S,rfl,.inl ⟨⟨_,.of (s1 _ _ hS)⟩,λA hA=>?_⟩⟩;have hv:∀H',SameX A (upd H1 A (.lst [])) H'->Same H1 H':=λH' sx=>cE hA sx;refine bW [0,1] (mkR (kN n) (λj=>coT n j i)) hA (by rw[bD];lia) (Emits.cast (oF (K:=K) (a:=S) (xs:=ss) (L:=λj=>[V.int (coT n j i)]) (λH' sx=>.of (hv H' sx _ _ (s1 _ _ hS))) λj y σ2 H2 hy l2 ag2 sx2=>?_) (by rw[sl,aAD];rfl)) λσ2 H2 s2 hA2=>?_
  ·obtain⟨st,b2,q2,hst,rfl,hb2,hq2⟩:=aDc (rS.same (s1.trans (hv _ sx2))) hy;have est:stA n j=st:=fB hst;have l4:σ2.length=4:=l2;refine⟨(σ2.set 0 (some (.ref q2))).set 1 (some (.int st.2)),by rw[dw,dw];exact l2,(ag2.trans (Agree.set (by decide) _)).trans (Agree.set (by decide) _),λNn hN=>⟨b2,_,rfl,hb2,rfl,_,_,rfl,_,_,rfl,rfl,hN⟩,cU λR hR=>?_⟩;have t0:((σ2.set 0 (some (.ref q2))).set 1 (some (.int st.2)))[0]?=some (some (.ref q2)):=by rw[fk (by decide)];exact gG (by lia)
   have t1:((σ2.set 0 (some (.ref q2))).set 1 (some (.int st.2)))[1]?=some (some (.int st.2)):=gG (by rw[dw];lia);have tk:∀k,2<=k->((σ2.set 0 (some (.ref q2))).set 1 (some (.int st.2)))[k]?=σ2[k]?:=λk hk=>by rw[fk (by lia),fk (by lia)]
   have t2:=(tk 2 (by decide)).trans ((ag2 2 (by decide)).trans (show _=some (some (cB e.1)) from rfl));have t3:=(tk 3 (by decide)).trans ((ag2 3 (by decide)).trans (show _=some (some (cB e.2)) from rfl));refine⟨_,t0,_,t2,_,t3,q2,st.1,e.1,e.2,rfl,hq2,_,rfl,?_⟩;have r:=hR _ (Same.refl _);unfold coT at r;rw[est,ep] at r;refine tH (λc=>⟨_,t1,?_⟩) λc=>?_
   ·rw[C5 c] at r;exact r
   ·rw[C4 c] at r;exact r
  ·have hF2:=s2 _ _ M.top;have s12:=s1.trans s2;refine⟨_,rfl,.inl ⟨rfl,_,.of hF2⟩,_,rfl,_,rfl,P,rfl,.inl ⟨⟨_,.of (s12 _ _ hP)⟩,λB hB=>?_⟩⟩;have hv2:∀H',SameX B (upd H2 B (.lst [])) H'->Same H2 H':=λH' sx=>cE hB sx;refine bW [0] (mkR (mN n) (λq=>if q=i then 1 else 0)) hB (by rw[bD];lia) (Emits.cast (tI (K:=K) (a:=P) (xs:=ps) (j:=0) (L:=λj=>[V.int (if j=i then 1 else 0)]) (by decide) (by show 0<3;decide) (λH' sx=>.of (hv2 H' sx _ _ (s12 _ _ hP))) λj y σ3 H3 hy l3 ag3 t0 sx3 _=>?_) (by rw[pl,aAD];rfl)) λσ3 H3 s3 hB3=>?_
   ·obtain⟨e',b',he',rfl,hb'⟩:=sN (rP.same (s12.trans (hv2 _ sx3))) hy;have t1:σ3[1]?=some (some (cB e.1)):=(ag3 1 (by decide)).trans rfl;have t2:σ3[2]?=some (some (cB e.2)):=(ag3 2 (by decide)).trans rfl;refine cU λR hR=>⟨_,t0,_,t1,_,t2,C9,λt ht=>?_⟩;have mt:=aD ht (.tup [cB e.1,cB e.2]);refine⟨.tup ([(e'.1:Int),(e'.2:Int)].map Dt.int),.tup ([(e.1:Int),(e.2:Int)].map Dt.int),eE _,⟨b',_,rfl,mt.tup hb',ShL.ints [(e'.1:Int),(e'.2:Int)]⟩,⟨t,_,rfl,.of aB,ShL.ints [(e.1:Int),(e.2:Int)]⟩,_,rfl,?_⟩;rw[kJ];have r:=hR _ mt;have iff:([(e'.1:Int),(e'.2:Int)]=[(e.1:Int),(e.2:Int)])↔j=i:=by
     constructor
     ·intro z;have z1:(e'.1:Int)=e.1:=(fj z).1;have z2:(e'.2:Int)=e.2:=(fj (fj z).2).1;have ee:e'=e:=by
       obtain⟨a1,a2⟩:=e';obtain⟨b1,b2⟩:=e;have z1:(a1:Int)=b1:=z1;have z2:(a2:Int)=b2:=z2;rw[show a1=b1 by lia,show a2=b2 by lia]
      obtain⟨h1,h2⟩:=ai.mp he';obtain⟨h3,h4⟩:=ai.mp he;exact(qp nd).mp (h2.trans (ee.trans h4.symm))
     ·intro z;subst z;rw[he] at he';rw[cf he']
    refine tH (λc=>?_) λc=>?_
    ·rw[C5 (iff.mp (C0 c))] at r;exact r
    ·rw[C4 λz=>c (At (iff.mpr z))] at r;exact r
   ·have hA3:=s3 _ _ hA2;refine .inl ⟨A,B,_,_,rfl,rfl,hA3,hB3,?_,λC hC=>?_⟩
    ·rw[bD,bD];exact bo (show _<=100 by lia) (by decide)
    have mC:=aD hC (.lst (mkR (kN n) (λj=>coT n j i)++mkR (mN n) (λq=>if q=i then 1 else 0)));have s123:=(s12.trans s3).trans mC;refine tQ (t:=0) (si:=4) (sj:=5) rfl rfl rfl (hT.same s123) qT (by lia) g2 ⟨C8,λD hD=>?_⟩;have mD:=aD hD (.lst [V.int (at2 T e.1 e.2)]);have hC2:=mD _ _ (show(upd H3 C (.lst (mkR (kN n) (λj=>coT n j i)++mkR (mN n) (λq=>if q=i then 1 else 0)))) C=_ from aB);refine .inl ⟨C,D,_,_,rfl,rfl,hC2,aB,?_,λR hR=>?_⟩
    ·rw[aq,bD,bD];exact bo (show _<=100 by simp;lia) (by decide)
    have eR:=aOa (T:=T) hi;rw[ep] at eR;rw[eR];have mR:=aD hR (.lst (mkR (kN n+mN n+1) (λj=>AT T n j i)));have sAll:=((((s2.trans s3).trans mC).trans mD).trans mR);have hFn:=sAll _ _ M.top;have nR:R≠F:=λz=>by
     have h2:=(((s2.trans s3).trans mC).trans mD) _ _ M.top;rw[<- z,hR] at h2;cases h2
    refine⟨F,_,_,rfl,rfl,hFn,bj (show _<=100 by rw[af,M.len];lia) (by decide),hi,bO hF (s1.trans sAll),⟨_,_,_,rfl⟩,ls++[R],M.more (λb' o hb' e'=>?_) aB ?_ M.out (gf nR)⟩
    ·rw[aM (show b'≠F from λz=>M.out (z▸hb'))];exact sAll _ _ e'
    ·rw[aM nR];exact aB
 ·subst es;rw[pl] at M;refine⟨_,rfl,_,rfl,S,rfl,.inl ⟨⟨_,.of (s1 _ _ hS)⟩,λA hA=>?_⟩⟩;have hv:∀H',SameX A (upd H1 A (.lst [])) H'->Same H1 H':=λH' sx=>cE hA sx;refine bW [0,1] (mkR (kN n) (λj=>obT n j)) hA (by rw[bD];lia) (Emits.cast (oF (K:=K) (a:=S) (xs:=ss) (L:=λj=>[V.int (obT n j)]) (λH' sx=>.of (hv H' sx _ _ (s1 _ _ hS))) λj y σ2 H2 hy l2 ag2 sx2=>?_) (by rw[sl,aAD];rfl)) λσ2 H2 s2 hA2=>?_
  ·obtain⟨st,b2,q2,hst,rfl,hb2,hq2⟩:=aDc (rS.same (s1.trans (hv _ sx2))) hy;have est:stA n j=st:=fB hst;have l4:σ2.length=2:=l2;refine⟨(σ2.set 0 (some (.ref q2))).set 1 (some (.int st.2)),by rw[dw,dw];exact l2,(ag2.trans (Agree.set (by decide) _)).trans (Agree.set (by decide) _),λNn hN=>⟨b2,_,rfl,hb2,rfl,_,_,rfl,_,_,rfl,rfl,hN⟩,cU λR hR=>?_⟩;have t1:((σ2.set 0 (some (.ref q2))).set 1 (some (.int st.2)))[1]?=some (some (.int st.2)):=gG (by rw[dw];lia);refine⟨2,rfl,_,t1,.inl (.inl ⟨by decide,by decide⟩),?_⟩;have r:=hR _ (Same.refl _);unfold obT at r;rw[est] at r;exact r
  ·have s12:=s1.trans s2;refine⟨_,rfl,P,rfl,.inl ⟨⟨_,.of (s12 _ _ hP)⟩,λB hB=>?_⟩⟩;have hv2:∀H',SameX B (upd H2 B (.lst [])) H'->Same H2 H':=λH' sx=>cE hB sx;refine bW [0] (mkR (mN n) (λ_=>0)) hB (by rw[bD];lia) (Emits.cast (tI (K:=K) (a:=P) (xs:=ps) (j:=0) (L:=λj=>[V.int 0]) (by decide) (by show 0<1;decide) (λH' sx=>.of (hv2 H' sx _ _ (s12 _ _ hP))) λj y σ3 H3 hy l3 ag3 t0 sx3 _=>cU λR hR=>hR _ (Same.refl _)) (by rw[pl,aAD];rfl)) λσ3 H3 s3 hB3=>?_;have hA3:=s3 _ _ hA2;refine .inl ⟨A,B,_,_,rfl,rfl,hA3,hB3,?_,λC hC=>?_⟩
   ·rw[bD,bD];exact bo (show _<=100 by lia) (by decide)
   have mC:=aD hC (.lst (mkR (kN n) (λj=>obT n j)++mkR (mN n) (λ_=>0)));refine⟨C8,λD hD=>?_⟩;have mD:=aD hD (.lst [V.int 0]);have hC2:=mD _ _ (show(upd H3 C (.lst (mkR (kN n) (λj=>obT n j)++mkR (mN n) (λ_=>0)))) C=_ from aB);refine .inl ⟨C,D,_,_,rfl,rfl,hC2,aB,?_,λR hR=>?_⟩
   ·rw[aq,bD,bD];exact bo (show _<=100 by simp;lia) (by decide)
   rw[aQp (T:=T)];have mR:=aD hR (.lst (mkR (kN n+mN n+1) (λj=>AT T n j (mN n))));refine⟨C8,λL hL=>?_⟩;have mL:=aD hL (.lst [V.ref R]);have sAll:=(((((s2.trans s3).trans mC).trans mD).trans mR).trans mL);refine .inl ⟨F,L,_,_,rfl,rfl,sAll _ _ M.top,aB,?_,λF4 hF4=>?_⟩
   ·rw[af,M.len];exact bo (show _<=100 by simp;lia) (by decide)
   have m4:=aD hF4 (.lst (ls.map V.ref++[V.ref R]));have hR2:=mL _ _ (show(upd (upd (upd H3 C (.lst (mkR (kN n) (λj=>obT n j)++mkR (mN n) (λ_=>0)))) D (.lst [V.int 0])) R (.lst (mkR (kN n+mN n+1) (λj=>AT T n j (mN n))))) R=_ from aB);refine q F4 (ls++[R]) _ ((s1.trans sAll).trans m4) ((s1.trans sAll).free hF4) (M.more (λb' o _ e'=>m4 _ _ (sAll _ _ e')) aB (m4 _ _ hR2) (λz=>?_) λz=>?_)
   ·obtain⟨k,hk⟩:=gi.mp z;have:=sAll _ _ (M.row k _ hk);rw[hF4] at this;cases this
   ·rw[z,hR2] at hF4;cases hF4
abbrev RT (T:List (List Int))(n:Nat):(Nat->Nat)->Nat->Nat->Int:=Sh.R (AT T n) (mN n)
abbrev dT (T:List (List Int))(n:Nat):(Nat->Nat)->Int:=Sh.dd (AT T n) (mN n)
abbrev NN (n:Nat):Nat:=kN n+mN n
abbrev OkT (T:List (List Int))(n:Nat):(Nat->Nat)->Prop:=Sh.Ok (AT T n) (mN n) (NN n)
def xR (n p:Nat):Int:=if(prA n p).2=(prA n p).1+1\/((prA n p).1=0/\(prA n p).2=n-1) then 1 else 0
def unB (n:Nat):Bool:=(bc (kN n)).all λj=>decide (0<=obT n j+Sh.sumN (mN n) λp=>xR n p*coT n j p)
def aRG:∀n,3<=n->n<=6->unB n=true:=n36 (by decide+kernel) (by decide+kernel) (by decide+kernel) (by decide+kernel)
def aHb (n3:3<=n)(n6:n<=6):-1<=(stA n j).2/\(stA n j).2<=1:=by
 unfold stA;rw[ak];cases h:(fN n)[j]? with
 |none=>exact⟨by decide,by decide⟩
 |some e=>
  show -1<=e.2/\e.2<=1;rcases(qP n3 n6).2.2.2.2.2 e (au h) with z|z<;>lia
def aOD (n3:3<=n)(n6:n<=6)(j c:Nat):-2<=coT n j c/\coT n j c<=2:=by
 have:=aHb (j:=j) n3 n6;unfold coT;split<;>lia
def aMl (n3:3<=n)(n6:n<=6)(j:Nat):-2<=obT n j/\obT n j<=2:=by
 have:=aHb (j:=j) n3 n6;unfold obT;lia
def aPR (n3:3<=n)(n6:n<=6)(hp:p<mN n):(prA n p).1<(prA n p).2/\(prA n p).2<n:=by
 have h:(cA n)[p]?=some ((cA n)[p]'hp):=ah hp;have:prA n p=(cA n)[p]'hp:=fB h;rw[this];exact(qP n3 n6).2.2.2.1 _ (f7 hp)
def aLs (n3:3<=n)(n6:n<=6)(b:Bs T n)(p:Nat):0<=wyT T n p/\wyT T n p<=1000000:=by
 unfold wyT;split
 ·rename_i h;obtain⟨h1,h2⟩:=aPR n3 n6 h;exact b _ _ (by lia) h2
 ·exact⟨by decide,by decide⟩
def aDq (n3:3<=n)(n6:n<=6)(b:Bs T n)(h:Nat->Nat)(i j:Nat):(RT T n h i j).natAbs<2^400:=Sh.R_bound (qP n3 n6).2.1 (aOD n3 n6) (aMl n3 n6) (aLs n3 n6 b)
def aAs (n3:3<=n)(n6:n<=6)(b:Bs T n)(h:Nat->Nat):(dT T n h).natAbs<2^400:=Sh.dd_bound (qP n3 n6).2.1 (aOD n3 n6) (aMl n3 n6) (aLs n3 n6 b)
def aRx (n3:3<=n)(n6:n<=6)(b:Bs T n):OkT T n (Sh.h0 (kN n)):=Sh.ok0 λp _=>(aLs n3 n6 b p).1
def unT (n3:3<=n)(n6:n<=6)(ok:OkT T n h)(hc:c<NN n)(neg:RT T n h (mN n) c<0):∃i,i<mN n/\0<RT T n h i c:=by
 refine Sh.unb (x:=xR n) ok (λp _=>by unfold xR;split<;>decide) (λj hj=>?_) hc neg;have:=dk.mp (aRG n n3 n6) j (fc.mpr hj);exact C0 this
def aLm (hr:r<m):(hdL m h).set r (cB c)=hdL m (Sh.put h r c):=by
 apply ye;intro i;rw[yf];by_cases hi:i<m
 ·by_cases e:r=i
  ·rw[C5 e,C5 (by rw[fW];lia),xJ hi];subst e;unfold Sh.put;rw[C5 rfl]
  ·rw[C4 e,xJ hi,xJ hi];unfold Sh.put;rw[C4 (gf e)]
 ·have n1:(hdL m (Sh.put h r c))[i]?=none:=uq (by rw[fW];lia);rw[n1,C4 (by lia)];exact uq (by rw[fW];lia)
def Mt.nohl (M:Mt H F ls (m+1) (k+m+1) f)(hh:H hl=some (.lst (hdL m h))):hl≠F/\hl∉ls:=by
 refine⟨λe=>?_,λz=>?_⟩
 ·rw[e,M.top] at hh;have:=congrArg AY (HO.lst.inj (cf hh));rw[af,M.len,fW] at this;lia
 ·obtain⟨i,hi⟩:=gi.mp z;rw[M.row i hl hi] at hh;have:=congrArg AY (HO.lst.inj (cf hh));rw[bD,fW] at this;lia
def aRb (K:aa):Sp:=λvs H Q _=>∃(F hl:ww) (ls:List ww) (T:List (List Int)) (n:Nat),vs=[.ref F,.ref hl]/\3<=n/\n<=6/\Bs T n/\Mt H F ls (mN n+1) (kN n+mN n+1) (λi j=>AT T n j i)/\H hl=some (.lst (hdL (mN n) (Sh.h0 (kN n)))) /\
 ∀h ls' H',OkT T n h->(∀j,j<NN n->0<=RT T n h (mN n) j)->Mt H' F ls' (mN n+1) (kN n+mN n+1) (RT T n h)->H' hl=some (.lst (hdL (mN n) h))->(∀b o,b≠F->b≠hl->H b=some o->H' b=some o)->Q (.int (dT T n h)) H'
def aQk:qQ1 (aRb K) (aEZ K (aQA K) (aPB K) (aPQ K)) ["rows","held","bottom","column","at"]:=by
 intro vs H Q E h;obtain⟨F,hl,ls,T,n,rfl,n3,n6,bT,M,hh,q⟩:=h;obtain⟨nd,m15,m1,pij,k40,sg⟩:=qP n3 n6;have ok0:=aRx n3 n6 bT;have M:Mt H F ls (mN n+1) (kN n+mN n+1) (RT T n (Sh.h0 (kN n))):=M.congr λi j hi hj=>(Sh.R0 (by lia)).symm
 let Col:(Nat->Nat)->V->Prop:=λh x=>(x=.non/\∀j,j<NN n->0<=RT T n h (mN n) j)\/∃c:Nat,x=.int (c:Int)/\c<NN n/\RT T n h (mN n) c<0/\∀j,j<c->0<=RT T n h (mN n) j
 let W:Nat->St->Hp->Prop:=λk σ' H'=>∃(h:Nat->Nat) (ls':List ww) (x3:V) (x4:Option V),Sh.Rem (AT T n) (mN n) (NN n) k h/\OkT T n h/\Mt H' F ls' (mN n+1) (kN n+mN n+1) (RT T n h)/\H' hl=some (.lst (hdL (mN n) h))/\(∀b o,b≠F->b≠hl->H b=some o->H' b=some o)/\σ'=[some (.ref F),some (.ref hl),some (.int (dT T n h)),some x3,x4]/\Col h x3
 have dd1:dT T n (Sh.h0 (kN n))=1:=Sh.dd0;refine⟨_,rfl,F,ls,mN n,NN n,_,rfl,M,by show kN n+mN n<=100;lia,λH0 s0=>?_⟩;have st:∀x3,Col (Sh.h0 (kN n)) x3->∃W:Nat->St->Hp->Prop,(∃m,W m [some (.ref F),some (.ref hl),some (.int 1),some x3,none] H0)/\∀m σ H',W m σ H'->aT (tOp xU (aC 3) (tC .non)) σ H' λb H1=>if b=true then ∃N:St->Hp->Prop,(∀σ' H',N σ' H'->∃m',m'<m/\W m' σ' H')/\(aH (aP (aL (aPB K) [] E0 (aA (aC 0) (aA (aC 1) (AR 3)))) (aE 4)) (aH (fF (aL (aPQ K) [] E0 (aA (aC 0) (aA (aC 4) (aA (aC 3) (AR 2)))))) (aH (aP (aC 3) (nE (aC 1) (aC 4) dO)) (aH (aP (tOp (aN K) (tOp (aN K) (aC 0) (aC 4)) (aC 3)) (aE 2)) (aH (aP (aL (aQA K) [] E0 (AR 0)) (aE 3)) aG))))) {nx:=N,rt:=Q,bk:=aH (cK (aC 2)) aG {nx:=λ_ H'=>Q .non H',rt:=Q},ct:=N} σ H1 else aH (cK (aC 2)) aG {nx:=λ_ H'=>Q .non H',rt:=Q} σ H1:=by
  intro x3 cx;obtain⟨k0,rem0⟩:=ok0.rem;refine⟨W,⟨k0,Sh.h0 (kN n),ls,x3,none,rem0,ok0,M.same s0,s0 _ _ hh,λb o _ _ e=>s0 _ _ e,by rw[dd1],cx⟩,?_⟩;rintro k σ1 H1 ⟨h,ls1,y3,x4,rem,ok,M1,hh1,sa1,rfl,col⟩;refine⟨_,rfl,.inr ⟨rfl,_,rfl,?_⟩⟩;rcases col with⟨rfl,all⟩|⟨c,rfl,cN,neg,fst⟩
  ·exact bB rfl ⟨_,rfl,q h ls1 H1 ok all M1 hh1 sa1⟩
  ·refine aW rfl ⟨λσ' H'=>∃k',k'<k/\W k' σ' H',λσ' H' z=>z,?_⟩;have fb:=aDq n3 n6 bT h;refine⟨_,rfl,_,rfl,_,rfl,F,hl,ls1,mN n,NN n,c,RT T n h,h,rfl,M1,hh1,fb,i6 cN,by lia,unT n3 n6 ok cN neg,λr H2 s2 rm pr le=>?_⟩;refine⟨_,rfl,_,rfl,_,rfl,_,rfl,F,ls1,mN n+1,kN n+mN n+1,r,c,dT T n h,RT T n h,rfl,M1.same s2,fb,ok.d0,aAs n3 n6 bT h,by lia,gk cN,by lia,by lia,λls3 H3 M3 sx3=>?_⟩;have nh1:=Mt.nohl M1 hh1;have hh3:H3 hl=some (.lst (hdL (mN n) h)):=sx3 _ _ nh1.1 (s2 _ _ hh1);have nh3:=Mt.nohl M3 hh3;refine⟨_,rfl,_,rfl,_,rfl,hl,_,(r:Int),r,rfl,rfl,hh3,?_,?_⟩
   ·rw[fW];unfold ixN;rw[C5 (by lia),C5 (by lia),cv]
   rw[show(V.int (c:Int))=cB c from rfl,aLm rm];have st:Sh.Stp (AT T n) (mN n) (NN n) h (Sh.put h r c) c r:=⟨cN,rm,neg,fst,pr,λi hi pi=>le i hi pi,rfl⟩;have ok':=ok.step st;have M4:Mt (upd H3 hl (.lst (hdL (mN n) (Sh.put h r c)))) F ls3 (mN n+1) (kN n+mN n+1) (RT T n (Sh.put h r c)):=by
    have M5:Mt H3 F ls3 (mN n+1) (kN n+mN n+1) (RT T n (Sh.put h r c)):=M3.congr λi j hi hj=>by
     unfold tnF;by_cases e:i=r
     ·subst e;rw[C5 rfl];exact(Sh.R_row rm).symm
     ·rw[C4 e];have z:=Sh.R_turn (c:=c) ok rm (show i<=mN n by lia) e (show j<=NN n by show j<=kN n+mN n;lia);show(RT T n h i j*RT T n h r c-RT T n h i c*RT T n h r j) / dT T n h=RT T n (Sh.put h r c) i j;rw[fe (RT T n h i j),<- z];exact ni _ (by have:=ok.d0;lia)
    exact⟨by rw[aM (gf nh3.1)];exact M5.top,M5.len,λi l e=>by rw[aM λz:l=hl=>nh3.2 (z▸au e)];exact M5.row i l e,M5.out⟩
   have hh4:(upd H3 hl (.lst (hdL (mN n) (Sh.put h r c)))) hl=some (.lst (hdL (mN n) (Sh.put h r c))):=aB;have sa4:∀b o,b≠F->b≠hl->H b=some o->(upd H3 hl (.lst (hdL (mN n) (Sh.put h r c)))) b=some o:=λb o h1 h2 e=>by
    rw[aM h2];exact sx3 _ _ h1 (s2 _ _ (sa1 b o h1 h2 e))
   generalize upd H3 hl (.lst (hdL (mN n) (Sh.put h r c)))=G at *;have ed:dT T n (Sh.put h r c)=RT T n (Sh.put h r c) r c:=by
    show Sh.dd _ _ _=Sh.R _ _ _ _ _;rw[Sh.dd_put rm,Sh.R_row rm]
   refine aID (t:=0) (si:=4) (sj:=3) (i:=r) (j:=c) M4 rfl rfl rfl (by lia) (gk cN) ?_;rw[<- ed];obtain⟨k',rfl⟩:∃k',k=k'+1:=by
    cases k with
    |zero=>exact absurd ⟨c,r,st⟩ (rem _)
    |succ k'=>exact⟨k',rfl⟩
   have rem':=rem _ ⟨c,r,st⟩;refine⟨_,rfl,F,ls3,mN n,NN n,_,rfl,M4,by show kN n+mN n<=100;lia,λH5 s5=>⟨λall=>?_,λc' c'N neg' fst'=>?_⟩⟩
   ·exact⟨k',by lia,_,ls3,_,_,rem',ok',M4.same s5,s5 _ _ hh4,λb o h1 h2 e=>s5 _ _ (sa4 b o h1 h2 e),rfl,.inl ⟨rfl,all⟩⟩
   ·exact⟨k',by lia,_,ls3,_,_,rem',ok',M4.same s5,s5 _ _ hh4,λb o h1 h2 e=>s5 _ _ (sa4 b o h1 h2 e),rfl,.inr ⟨c',rfl,c'N,neg',fst'⟩⟩
 exact⟨λall=>st .non (.inl ⟨rfl,all⟩),λc cN neg fst=>st (.int (c:Int)) (.inr ⟨c,rfl,cN,neg,fst⟩)⟩
def lo (i j:Int):Int×Int:=(i / gd i j,j / gd i j)
def aCk (T:List (List Int))(n:Nat)(h:Nat->Nat)(i:Nat):Bool:=decide (h i<kN n) && !decide (RT T n h i (NN n)=0)
def aOJ (T:List (List Int))(n:Nat)(h:Nat->Nat)(i:Nat):List Int×Int×Int:=((stA n (h i)).1.map Int.ofNat,lo ((stA n (h i)).2*RT T n h i (NN n)) (dT T n h))
def aIK (T:List (List Int))(n:Nat)(h:Nat->Nat):List (List Int×Int×Int):=((bc (mN n)).filter (aCk T n h)).map (aOJ T n h)
def aNd (T:List (List Int))(n:Nat)(h:Nat->Nat)(p:Nat):Bool:=decide (0<RT T n h (mN n) (kN n+p))
def aOW (T:List (List Int))(n:Nat)(h:Nat->Nat)(p:Nat):List Int:=[((prA n p).1:Int),((prA n p).2:Int),(lo (RT T n h (mN n) (kN n+p)) (dT T n h)).1,(lo (RT T n h (mN n) (kN n+p)) (dT T n h)).2]
def aRO (T:List (List Int))(n:Nat)(h:Nat->Nat):List (List Int):=((bc (mN n)).filter (aNd T n h)).map (aOW T n h)
def aQc:∀n,3<=n->n<=6->decide (fN n).Nodup=true:=n36 (by decide+kernel) (by decide+kernel) (by decide+kernel) (by decide+kernel)
def aLo (hj:j<kN n):(fN n)[j]?=some (stA n j):=by
 have h:(fN n)[j]?=some ((fN n)[j]'hj):=ah hj;rw[h];exact congrArg some (fB h).symm
def aOe (n3:3<=n)(n6:n<=6)(ok:OkT T n h)(hi:i<mN n)(hj:j<mN n)(ki:h i<kN n)(kj:h j<kN n)(ne:i≠j):(stA n (h i)).1≠(stA n (h j)).1:=by
 intro e;have nd:=C0 (aQc n n3 n6);have sg:=(qP n3 n6).2.2.2.2.2;have hi2:=aLo ki;have hj2:=aLo kj;by_cases es:(stA n (h i)).2=(stA n (h j)).2
 ·have:stA n (h i)=stA n (h j):=Prod.ext e es;rw[this] at hi2;obtain⟨a1,a2⟩:=ai.mp hi2;obtain⟨b1,b2⟩:=ai.mp hj2;exact ne (ok.inj hi hj ((qp nd).mp (a2.trans b2.symm)))
 ·have op:(stA n (h i)).2=-1*(stA n (h j)).2:=by
   rcases sg _ (au hi2) with a|a<;>rcases sg _ (au hj2) with b|b<;>rw[a,b] at es ⊢<;>first|rfl|exact absurd rfl es
  refine Sh.no_opp ok hi hj (λc=>?_) ne;show AT T n (h i) c=-1*AT T n (h j) c;by_cases c1:c<mN n
  ·show Sh.A0 _ _ _ _ _ _ _=-1*Sh.A0 _ _ _ _ _ _ _;rw[Sh.A0_step ki c1,Sh.A0_step kj c1];unfold coT;rw[e,op];split
   ·rfl
   ·rfl
  ·by_cases c2:c=mN n
   ·subst c2;show Sh.A0 _ _ _ _ _ _ _=-1*Sh.A0 _ _ _ _ _ _ _;rw[Sh.A0_ob ki,Sh.A0_ob kj];unfold obT;rw[op];lia
   ·show Sh.A0 _ _ _ _ _ _ _=-1*Sh.A0 _ _ _ _ _ _ _;rw[Sh.A0_out (by lia),Sh.A0_out (by lia)];rfl
def aJJ (n3:3<=n)(n6:n<=6)(ok:OkT T n h):((aIK T n h).map (·.1)).Nodup:=by
 unfold aIK;rw[fg];refine ph.mpr ((Ac.filter (aCk T n h)).imp_of_mem λ{a b} ha hb lt e=>?_);obtain⟨a1,a2⟩:=gr.mp ha;obtain⟨b1,b2⟩:=gr.mp hb;have a1:=fc.mp a1;have b1:=fc.mp b1;unfold aCk at a2 b2;rw[cz] at a2 b2;exact aOe n3 n6 ok a1 b1 (C0 a2.1) (C0 b2.1) (by lia) (aBx.mp e)
def RG {α:Type}(P:ww->α->Prop)(xs:List V)(L:List α):Prop:=xs.length=L.length/\∀(i:Nat) (e:α),L[i]?=some e->∃b,xs[i]?=some (.ref b)/\P b e
def aAA:RG P [] []:=⟨rfl,λi e h=>by cases h⟩
def bA (h:RG P xs L)(f:∀b e,P b e->P' b e):RG P' xs L:=⟨h.1,λi e he=>let⟨b,e1,e2⟩:=h.2 i e he;⟨b,e1,f _ _ e2⟩⟩
def yH (h:RG P xs L)(hb:P b e):RG P (xs++[.ref b]) (L++[e]):=by
 refine⟨by rw[aq,aq,h.1];rfl,λi e' he=>?_⟩;by_cases hi:i<L.length
 ·rw[dg hi] at he;obtain⟨b',e1,e2⟩:=h.2 i e' he;exact⟨b',by rw[dg (by rw[h.1];exact hi)];exact e1,e2⟩
 ·rw[c9 (by lia)] at he;have:i-L.length=0:=by
   rcases hk:i-L.length with _|k
   ·rfl
   ·rw[hk] at he;cases he
  rw[this] at he;cases he;exact⟨b,by rw[c9 (by rw[h.1];lia),h.1,this];rfl,hb⟩
def aPu {α:Type}{P:ww->α->Prop}{xs:List V}{L:List α}(h:RG P xs L){i:Nat}{x:V}(hx:xs[i]?=some x):∃e b,L[i]?=some e/\x=.ref b/\P b e:=by
 have hi:i<L.length:=by rw[<- h.1];exact(ai.mp hx).1
 obtain⟨b,e1,e2⟩:=h.2 i L[i] (ah hi);rw[hx] at e1;exact⟨L[i],b,ah hi,cf e1,e2⟩
def lU:(bc (i+1)).filter p=(bc i).filter p++if p i=true then[i] else[]:=by
 rw[sk,je];congr 1;by_cases c:p i=true
 ·rw[C5 c,kv c];rfl
 ·rw[C4 c,kx c];rfl
def yP:((bc i).filter p).length<=i:=by have:=dy p (bc i);rw[e8] at this;exact this
def zY (hlen:ys.length<=xs.length)(Pv:Nat->St->Hp->Prop)(h0:Pv 0 σ H)(hl:∀i σ H,i<=ys.length->Pv i σ H->SqB b1 K H l1 xs/\SqB b2 K H l2 ys)(hs:∀i x y σ H p,xs[i]?=some x->ys[i]?=some y->H p=none->Pv i σ H->g (.ref p) σ (upd H p (.tup [x,y])) λσ2 H2=>tb {D with nx:=Pv (i+1),ct:=Pv (i+1),bk:=D.nx} σ2 H2)(hd:∀σ H,Pv ys.length σ H->D.nx σ H):
  dP (Itz K b1 b2 l1 l2) g tb D σ H:=by
 refine⟨λi m σ H=>m=ys.length-i/\i<=ys.length/\Pv i σ H,⟨ys.length,by simp,bh _,h0⟩,?g⟩
 case g=>
 rintro i m σ H ⟨rfl,hi,p⟩;obtain⟨q1,q2⟩:=hl i σ H hi p;by_cases hlt:i<ys.length
 ·refine .inr ⟨⟨xs,ys,xs[i],ys[i],q1,q2,by simp[show i<xs.length by lia],by simp[hlt]⟩,Pv (i+1),λσ' H' p'=>⟨ys.length-(i+1),by lia,rfl,hlt,p'⟩,λv H' ⟨a,x,y,e1,e2,e3,e4,e5⟩=>?g⟩
  case g=>
  subst e1;subst e3;exact hs i x y σ H a (e4 xs q1) (e5 ys q2) e2 p
 ·obtain rfl:i=ys.length:=by lia
  exact .inl ⟨⟨xs,ys,q1,q2,.inr (ar _)⟩,hd σ H p⟩
def Pt.same (s:Same H H')(h:Pt K H b e):Pt K H' b e:=let⟨q,f,a1,a2,a3⟩:=h;⟨q,f,s.tup a1,s.tup a2,s.tup a3⟩
def Pt.x (hp:H p=some (.lst ys))(s:SameX p H H')(h:Pt K H b e):Pt K H' b e:=let⟨q,f,a1,a2,a3⟩:=h;⟨q,f,fL a1 hp s,fL a2 hp s,fL a3 hp s⟩
def Tri.same (s:Same H H')(h:Tri K H b e):Tri K H' b e:=let⟨q,x,y,t,z,a0,a1,a2⟩:=h;⟨q,x,y,t,z,a0,s.tup a1,s.tup a2⟩
def Tri.x (hp:H p=some (.lst ys))(s:SameX p H H')(h:Tri K H b e):Tri K H' b e:=let⟨q,x,y,t,z,a0,a1,a2⟩:=h;⟨q,x,y,t,z,a0,fL a1 hp s,fL a2 hp s⟩
def aRr (K:aa):Sp:=λvs H Q _=>∃(S F hl:ww) (ss:List V) (ls:List ww) (T:List (List Int)) (n:Nat) (h:Nat->Nat),vs=[.ref S,.ref F,.ref hl,.int (dT T n h)]/\3<=n/\n<=6/\Bs T n/\OkT T n h/\H S=some (.lst ss)/\RowsS K H ss (fN n)/\Mt H F ls (mN n+1) (kN n+mN n+1) (RT T n h)/\H hl=some (.lst (hdL (mN n) h)) /\
 ∀C zs W H',Same H H'->H C=none->H' C=some (.lst zs)->W.Perm (aIK T n h)->(W.map (·.1)).Pairwise (λa b=>lexL b a=false)->bQ K H' zs W->Q (.ref C) H'
def aPn:qQ1 (aRr K) (tJ K (qO K)) ["steps","rows","held","bottom","cuts","row","column","some","sign"]:=by
 intro vs H Q E h;obtain⟨S,F,hl,ss,ls,T,n,h,rfl,n3,n6,bT,ok,hS,rS,M,hh,q⟩:=h;obtain⟨nd,m15,m1,pij,k40,sg⟩:=qP n3 n6;have sl:ss.length=kN n:=rS.1;refine⟨C7,λC hC=>?_⟩;have mC:=aD hC (.lst []);have hC1:(upd H C (.lst [])) C=some (.lst []):=aB;generalize upd H C (.lst [])=G at *;refine⟨_,rfl,_,rfl,F,hl,true,true,rfl,⟨_,.of (mC _ _ M.top)⟩,⟨_,.of (mC _ _ hh)⟩,?_⟩;refine zY (K:=K) (b1:=true) (b2:=true) (l1:=F) (l2:=hl) (xs:=ls.map V.ref) (ys:=hdL (mN n) h) (by rw[fW,af,M.len];lia) (λi σ' H'=>i<=mN n/\Same H H'/\(∃x5 x6 x7 x8,σ'=[some (.ref S),some (.ref F),some (.ref hl),some (.int (dT T n h)),some (.ref C),x5,x6,x7,x8])/\∃zs,H' C=some (.lst zs)/\RG (Pt K H') zs (((bc i).filter (aCk T n h)).map (aOJ T n h)))
  ⟨bh _,mC,⟨_,_,_,_,rfl⟩,[],hC1,aAA⟩ (λi σ1 H1 _ ⟨_,s1,_⟩=>⟨.of (s1 _ _ M.top),.of (s1 _ _ hh)⟩) (λi x y σ1 H1 t hx hy ht ⟨_,s1,⟨x5,x6,x7,x8,es⟩,zs,hz,rz⟩=>?_) λσ1 H1 ⟨_,s1,⟨x5,x6,x7,x8,es⟩,zs,hz,rz⟩=>?_
 ·subst es;have hi:i<mN n:=by have:=(ai.mp hy).1;rw[fW] at this;exact this
  rw[xJ hi] at hy;obtain rfl:cB (h i)=y:=cf hy;obtain⟨l,g1,g2,g3⟩:=M.at (show i<mN n+1 by lia);rw[g2] at hx;obtain rfl:V.ref l=x:=cf hx;have mt:=aD ht (.tup [V.ref l,cB (h i)]);refine⟨t,_,rfl,.of aB,rfl,_,_,rfl,_,_,rfl,rfl,?_⟩;have s2:=s1.trans mt;have hz2:=mt _ _ hz;have rz2:=bA rz λb e=>Pt.same mt;generalize upd H1 t (.tup [V.ref l,cB (h i)])=G1 at *;have hl2:=s2 _ _ g3;refine⟨_,rfl,_,rfl,S,_,rfl,.inl (.of (s2 _ _ hS)),_,_,rfl,rfl,_,rfl,?_⟩;rw[sl];have ed:decide (((h i:Nat):Int)<((kN n:Nat):Int))=decide (h i<kN n):=by
   by_cases c:h i<kN n
   ·rw[At c];exact At (by lia)
   ·rw[Au c];exact Au (by lia)
  show if decide (((h i:Nat):Int)<((kN n:Nat):Int))=true then _ else _;rw[ed];have skip:aCk T n h i=false->(i+1<=mN n/\Same H G1/\(∃y5 y6 y7 y8,([some (.ref S),some (.ref F),some (.ref hl),some (.int (dT T n h)),some (.ref C),some (.ref l),some (cB (h i)),x7,x8]:St)=[some (.ref S),some (.ref F),some (.ref hl),some (.int (dT T n h)),some (.ref C),y5,y6,y7,y8])/\∃zs,G1 C=some (.lst zs)/\RG (Pt K G1) zs (((bc (i+1)).filter (aCk T n h)).map (aOJ T n h))):=λc=>by
   refine⟨hi,s2,⟨_,_,_,_,rfl⟩,zs,hz2,?_⟩;rw[lU,C4 (by rw[c];decide),ia];exact rz2
  have lastv:∀{R:VK},R (.int (RT T n h i (NN n))) G1->aN K (.ref l) (.int (-1)) G1 R:=λr=>aEq (.of hl2) (by rw[bD];lia) (by rw[bD];exact mQ (by lia)) r;by_cases ck:h i<kN n
  ·refine aW (At ck) ⟨_,rfl,1,rfl,lastv ⟨.int _,.int 0,bh _,rfl,rfl,_,rfl,?_⟩⟩;have e0:(!eqD (.int (RT T n h i (NN n))) (.int 0))=!decide (RT T n h i (NN n)=0):=by rw[eqD];rfl
   rw[e0];by_cases c0:RT T n h i (NN n)=0
   ·refine bB (by rw[At c0];rfl) (skip ?_);unfold aCk;rw[At c0];simp
   ·refine aW (by rw[Au c0];rfl) ?_;have ci:aCk T n h i=true:=by unfold aCk;rw[At ck,Au c0];rfl
    obtain⟨b,q2,e1,e2,e3⟩:=(rS.same s2).2 _ _ (aLo ck);refine⟨_,rfl,_,rfl,ixL (.of (s2 _ _ hS)) e1 ⟨b,_,rfl,e2,rfl,_,_,rfl,_,_,rfl,rfl,?_⟩⟩;have sgb:=aHb (j:=h i) n3 n6;refine⟨_,rfl,.inl ⟨rfl,_,.of hz2⟩,_,rfl,_,rfl,_,rfl,1,rfl,lastv ⟨.inl (.inl ⟨by lia,by lia⟩),_,rfl,_,_,rfl,ok.d0,big (aAs n3 n6 bT h),λf H3 s3 hf=>⟨C9,λu hu=>?_⟩⟩⟩;have mu:=aD hu (.tup [V.ref q2,.ref f]);have s4:=s3.trans mu;have hz4:=s4 _ _ hz2;refine⟨C,zs,_,rfl,rfl,hz4,bj (show zs.length<=100 by rw[rz.1,af];have:=yP (i:=i) (p:=aCk T n h);lia) (by decide),hi,bO hC (s2.trans s4),⟨_,_,_,_,rfl⟩,_,aB,?_⟩;rw[lU,C5 ci,c4];refine bA (yH (bA rz2 λb e=>Pt.same s4) (b:=u) (e:=aOJ T n h i) ⟨q2,f,.of aB,?_,mu.tup (.of hf)⟩) λb e=>Pt.x hz4 (SameX.put _);show SqT K _ q2 (((stA n (h i)).1.map Int.ofNat).map V.int);rw[<- cC];exact s4.tup e3
  ·refine bB (Au ck) (bB rfl (skip ?_));unfold aCk;rw[Au ck];rfl
 ·subst es;rw[fW] at rz;refine⟨_,rfl,C,zs,aIK T n h,rfl,.inl (.of hz),rz,aJJ n3 n6 ok,?_,λys W pW sW py rW l hl'=>?_⟩
  ·unfold aIK;rw[af];have:=yP (i:=mN n) (p:=aCk T n h);lia
  ·have ml:=aD hl' (.lst ys);exact q l ys W _ (s1.trans ml) (s1.free hl') aB pW sW (bA rW λb e=>Pt.same ml)
def aQq (K:aa)(C1 C2 C3:ww):Sp:=λvs H Q E=>∃(v:V) (T:List (List Int)) (n:Nat),vs=[v]/\Sh K H (xI T) v/\Quad T n/\1<=n/\n<=8 /\
 (((qU T n).all id=false/\∀H',Same H H'->E (.ref C1) none H')\/(Sy T n/\((n<3/\∀H',Same H H'->E (.ref C2) none H')\/(6<n/\∀H',Same H H'->E (.ref C3) none H')\/(3<=n/\n<=6/\∀H',Same H H'->Q .non H'))))
def aPy:∀vs H Q E,aQq K C1 C2 C3 vs H Q E->jZ K C1 C2 C3 E (aRH K) {nx:=λ_ H'=>Q .non H',rt:=Q} (bC ["table"] vs) H:=by
 intro vs H Q E h;obtain⟨v,T,n,rfl,hT,qT,n1,n8,q⟩:=h;refine⟨_,rfl,v,T,n,rfl,hT,qT,n1,n8,λH1 s1=>?_⟩;obtain⟨a,rs,rfl,ha,hl,_⟩:=id hT.tab;have hl:rs.length=n:=hl.trans qT.len;rcases q with⟨ev,e⟩|⟨sy,q⟩
 ·exact⟨_,rfl,aW (by show(!(qU T n).all id)=true;rw[ev];rfl) (e H1 s1)⟩
 ·refine⟨_,rfl,bB (by show(!(qU T n).all id)=false;rw[aIU sy];rfl) ?_⟩;refine⟨_,rfl,a,rs,rfl,.inr (s1.tup ha),_,_,rfl,rfl,_,rfl,?_⟩;rw[hl];rcases q with⟨lt,e⟩|q
  ·exact aW (At (by lia)) (e H1 s1)
  ·have n3:3<=n:=by rcases q with⟨z,_⟩|⟨z,_⟩<;>lia
   refine bB (Au (by lia)) ⟨_,rfl,a,rs,rfl,.inr (s1.tup ha),_,_,rfl,rfl,_,rfl,?_⟩;rw[hl];rcases q with⟨gt,e⟩|⟨_,n6,q⟩
   ·exact aW (At (by lia)) (e H1 s1)
   ·exact bB (Au (by lia)) (q H1 s1)
def aMw (K:aa)(C1 C2 C3:ww):Sp:=λvs H Q E=>∃(v:V) (T:List (List Int)) (n:Nat),vs=[v]/\Sh K H (xI T) v/\Quad T n/\1<=n/\n<=8 /\
 (((qU T n).all id=false/\∀H',Same H H'->E (.ref C1) none H')\/(Sy T n/\((n<3/\∀H',Same H H'->E (.ref C2) none H')\/(6<n/\∀H',Same H H'->E (.ref C3) none H')\/(3<=n/\n<=6/\Bs T n /\
  ∀h p wp fl cl ys zs W H',Same H H'->OkT T n h->(∀j,j<NN n->0<=RT T n h (mN n) j)->H' p=some (.tup [.ref wp,.ref fl,.ref cl])->H' wp=some (.tup [.int (lo (RT T n h (mN n) (NN n)) (dT T n h)).1,.int (lo (RT T n h (mN n) (NN n)) (dT T n h)).2])->H fl=none->H' fl=some (.lst ys)->aPv K H' ys (aRO T n h) ->
   H cl=none->cl≠fl->H' cl=some (.lst zs)->W.Perm (aIK T n h)->(W.map (·.1)).Pairwise (λa b=>lexL b a=false)->bQ K H' zs W->Q (.ref p) H'))))
def aNO:∀vs H Q E,aMw K C1 C2 C3 vs H Q E->aDH K E (aPs K) (aRb K) (aQM K) (qO K) (aQU K) (aRr K) (aQq K C1 C2 C3) {nx:=λ_ H'=>Q .non H',rt:=Q} (bC ["table","pairs","steps","rows","held","bottom","tops","found"] vs) H:=by
 intro vs H Q E h;obtain⟨v,T,n,rfl,hT,qT,n1,n8,q⟩:=h;refine⟨_,rfl,v,T,n,rfl,hT,qT,n1,n8,?_⟩;rcases q with q|⟨sy,q|q|⟨n3,n6,bT,q⟩⟩
 ·exact .inl q
 ·exact .inr ⟨sy,.inl q⟩
 ·exact .inr ⟨sy,.inr (.inl q)⟩
 refine .inr ⟨sy,.inr (.inr ⟨n3,n6,λH1 s1=>?_⟩)⟩;obtain⟨nd,m15,m1,pij,k40,sg⟩:=qP n3 n6;obtain⟨a,rs,rfl,ha,hl,_⟩:=id hT.tab;have hl:rs.length=n:=hl.trans qT.len;refine⟨_,rfl,a,rs,rfl,.inr (s1.tup ha),n,by rw[hl];rfl,n8,λP ps H2 s2 _ hP rP=>?_⟩;have s12:=s1.trans s2;refine⟨_,rfl,a,rs,rfl,.inr (s12.tup ha),n,by rw[hl];rfl,n3,n6,λS ss H3 s3 _ hS rS=>?_⟩;have s13:=s12.trans s3;refine⟨_,rfl,_,rfl,_,rfl,.ref a,P,S,ps,ss,T,n,rfl,hT.same s13,qT,n3,n6,s3 _ _ hP,rP.same s3,hS,rS,λF ls H4 s4 hF0 M4=>?_⟩;have s14:=s13.trans s4;have pl:ps.length=mN n:=by rw[rP.1,gN];rfl
 have sl:ss.length=kN n:=rS.1;have hP4:=(s3.trans s4) _ _ hP;have hS4:=s4 _ _ hS;refine⟨_,rfl,P,_,rfl,.inl (.of hP4),(ps.length:Int),rfl,by lia,by lia,λA hA=>?_⟩;rw[cv,pl];have hv:∀H',SameX A (upd H4 A (.lst [])) H'->Same H4 H':=λH' sx=>cE hA sx;refine bW [0] (hdL (mN n) (Sh.h0 (kN n))) hA (by rw[fW];lia) (Emits.cast (oT (n:=mN n) (lo:=0) (j:=0) (L:=λi=>[cB (kN n+i)]) (by decide) (by show 0<2;decide) λi σ5 H5 hi l5 ag5 t0 sx5 _=>?_) (by rw[aAD];rfl)) λσ5 H5 s5 hA5=>?_
 ·have t1:σ5[1]?=some (some (.ref S)):=(ag5 1 (by decide)).trans rfl;rw[jd] at t0;refine cU λR hR=>⟨_,t1,S,_,rfl,.inl (.of (hv _ sx5 _ _ hS4)),_,t0,?_⟩;show R (.int ((ss.length:Int)+(i:Int))) H5;rw[sl,show((kN n:Nat):Int)+(i:Int)=((kN n+i:Nat):Int) by lia];exact hR _ (Same.refl _)
 have s15:=s14.trans s5;refine⟨_,rfl,_,rfl,F,A,ls,T,n,rfl,n3,n6,bT,M4.same s5,hA5,λh ls6 H6 ok all M6 hh6 sa6=>?_⟩;have nF:∀b o,H3 b=some o->b≠F:=λb o e z=>by rw[z,hF0] at e;cases e
 have nA:∀b o,H4 b=some o->b≠A:=λb o e z=>by rw[z,hA] at e;cases e
 have s36:Same H3 H6:=λb o e=>sa6 b o (nF b o e) (nA b o (s4 _ _ e)) (s5 _ _ (s4 _ _ e));have s16:=s13.trans s36;obtain⟨ll,g1,g2,g3⟩:=M6.at (show mN n<mN n+1 by lia);have lastR:∀{R:VK},R (.ref ll) H6->aN K (.ref F) (.int (-1)) H6 R:=λr=>aEq (.of M6.top) (by rw[af,M6.len];lia) (by rw[af,M6.len];exact g2) r;refine⟨_,rfl,1,rfl,lastR ⟨_,rfl,S,_,rfl,.inl (.of (s36 _ _ hS)),_,rfl,1,rfl,_,rfl,.inl ⟨ll,_,rfl,.of g3,λtp htp=>?_⟩⟩⟩;rw[sl,aFD (by rw[bD];lia)];have et:((mkR (kN n+mN n+1) (RT T n h (mN n))).drop (kN n)).take ((mkR (kN n+mN n+1) (RT T n h (mN n))).length-1-kN n)=mkR (mN n) (λp=>RT T n h (mN n) (kN n+p)):=by
  rw[bD,show kN n+mN n+1-1-kN n=mN n by lia];apply ye;intro i;rw[List.getElem?_take];by_cases c:i<mN n
  ·rw[C5 c,mw,mQ (by lia),mQ c]
  ·rw[C4 c];exact(uq (by rw[bD];lia)).symm
 rw[et];have mtp:=aD htp (.lst (mkR (mN n) (λp=>RT T n h (mN n) (kN n+p))));have htp7:(upd H6 tp (.lst (mkR (mN n) (λp=>RT T n h (mN n) (kN n+p))))) tp=some (.lst (mkR (mN n) (λp=>RT T n h (mN n) (kN n+p)))):=aB;have s17:=s16.trans mtp;have s37:=s36.trans mtp;have M7:=M6.same mtp;have hh7:=mtp _ _ hh6;generalize upd H6 tp (.lst (mkR (mN n) (λp=>RT T n h (mN n) (kN n+p))))=H7 at *;have hP7:=s37 _ _ (s3 _ _ hP);have rP7:=(rP.same s3).same s37;refine⟨_,rfl,_,rfl,P,tp,true,true,rfl,⟨_,.of hP7⟩,⟨_,.of htp7⟩,λB hB=>?_⟩;refine zY (K:=K) (b1:=true) (b2:=true) (l1:=P) (l2:=tp) (xs:=ps) (ys:=mkR (mN n) (λp=>RT T n h (mN n) (kN n+p))) (by rw[bD,pl];lia) (λi σ' H'=>i<=mN n/\Same H7 H'/\(∃x0 x1 x2,σ'=[x0,x1,x2,some (.int (dT T n h))])/\∃ys,H' B=some (.lst ys)/\RG (Tri K H') ys (((bc i).filter (aNd T n h)).map (aOW T n h)))
  ⟨bh _,aD hB _,⟨_,_,_,rfl⟩,[],aB,aAA⟩ (λi σ8 H8 _ ⟨_,s8,_⟩=>⟨.of (s8 _ _ hP7),.of (s8 _ _ htp7)⟩) (λi x y σ8 H8 t hx hy ht ⟨_,s8,⟨x0,x1,x2,es⟩,ys,hz,rz⟩=>?_) λσ8 H8 ⟨_,s8,_,ys,hz,rz⟩=>?_
 ·subst es;obtain⟨hi,rfl⟩:=zX hy;obtain⟨e,b,he,rfl,hb⟩:=sN (rP7.same s8) hx;have ep:prA n i=e:=fB he;have mt:=aD ht (.tup [V.ref b,.int (RT T n h (mN n) (kN n+i))]);refine⟨t,_,rfl,.of aB,rfl,_,_,rfl,b,_,rfl,mt.tup hb,rfl,_,_,rfl,_,_,rfl,rfl,_,_,rfl,rfl,?_⟩;have s9:=s8.trans mt;have hz9:=mt _ _ hz;have rz9:=bA rz λb e=>Tri.same mt;generalize upd H8 t (.tup [V.ref b,.int (RT T n h (mN n) (kN n+i))])=H9 at *;refine⟨_,rfl,_,_,rfl,rfl,_,rfl,tH (λc=>?_) λc=>?_⟩
  ·have ci:aNd T n h i=true:=c;refine⟨_,rfl,_,rfl,_,rfl,_,rfl,_,_,rfl,ok.d0,big (aAs n3 n6 bT h),λf H10 s10 hf=>⟨Ch,λu hu=>?_⟩⟩;have mu:=aD hu (.tup [cB e.1,cB e.2,.ref f]);have s11:=s10.trans mu;have hz11:=s11 _ _ hz9;refine⟨ys,hz11,bj (show ys.length<=100 by rw[rz.1,af];have:=yP (i:=i) (p:=aNd T n h);lia) (by decide),hi,bO hB (s9.trans s11),⟨_,_,_,rfl⟩,_,aB,?_⟩;rw[lU,C5 ci,c4];refine bA (yH (bA rz9 λb e=>Tri.same s11) (b:=u) (e:=aOW T n h i) ⟨f,e.1,e.2,(lo (RT T n h (mN n) (kN n+i)) (dT T n h)).1,(lo (RT T n h (mN n) (kN n+i)) (dT T n h)).2,by unfold aOW;rw[ep],.of aB,mu.tup (.of hf)⟩) λb e=>Tri.x hz11 (SameX.put _)
  ·refine⟨hi,s9,⟨_,_,_,rfl⟩,ys,hz9,?_⟩;have ci:¬aNd T n h i=true:=c;rw[lU,C4 ci,ia];exact rz9
 ·rw[bD] at rz;have g3':=s8 _ _ (mtp _ _ g3);have Fl8:=s8 _ _ M7.top;refine⟨_,rfl,1,rfl,aEq (.of Fl8) (by rw[af,M7.len];lia) (by rw[af,M7.len];exact g2) ⟨1,rfl,aEq (.of g3') (by rw[bD];lia) (by rw[bD];exact mQ (by lia)) ⟨_,rfl,_,_,rfl,ok.d0,big (aAs n3 n6 bT h),λwp H9 s9 hwp=>?_⟩⟩⟩;have s89:=s8.trans s9;refine⟨_,rfl,_,rfl,_,rfl,_,rfl,_,rfl,S,F,A,ss,ls6,T,n,h,rfl,n3,n6,bT,ok,(s37.trans s89) _ _ hS,rS.same (s37.trans s89),M7.same s89,s89 _ _ hh7,λcl zs W H10 s10 hcl0 hcl pW sW rW=>⟨Ch,λp hp=>?_⟩⟩;have mp:=aD hp (.tup [V.ref wp,.ref B,.ref cl]);have hB10:=s10 _ _ (s9 _ _ hz);refine q h p wp B cl ys zs W _ (((s17.trans s89).trans s10).trans mp) ok all aB ?_ (s17.free hB) (mp _ _ hB10) (bA rz λb e=>Tri.same ((s9.trans s10).trans mp)) ((s17.trans s89).free hcl0) (λz=>?_) (mp _ _ hcl) pW sW (bA rW λb e=>Pt.same mp)
  ·exact mp _ _ (s10 _ _ hwp)
  ·rw[z,s9 _ _ hz] at hcl0;cases hcl0
end K38
namespace K38.L
open PySem L2
def whD:Dt->Bool
 |.int _=>true
 |_=>false
def whsD:Dt->Bool
 |.tup ds=>ds.all whD
 |_=>false
inductive aNh (K:aa) (vs:List V) (H:Hp) (Q:VK):Prop
 |mk (v:V) (d:Dt) (h0:vs=[v]) (h1:Sh K H d v) (h2 : ∀H',Same H H'->Q (.bl (whD d)) H'):aNh K vs H Q
def spW (K:aa):Sp:=λvs H Q _=>aNh K vs H Q
inductive aJK (K:aa) (vs:List V) (H:Hp) (Q:VK):Prop
 |mk (v:V) (d:Dt) (h0:vs=[v]) (h1:Sh K H d v) (h2:(∀ds,d=.tup ds->ds.length<=1000)) (h3 : ∀H',Same H H'->Q (.bl (whsD d)) H'):aJK K vs H Q
def spWs (K:aa):Sp:=λvs H Q _=>aJK K vs H Q
theorem flat_get {α β:Type}(f:α->β)(e:α):∀ds:List α,(bc ds.length).flatMap (λi=>[f (ds.getD i e)])=ds.map f
 |[]=>rfl
 |d::ds=>by
  rw[c5,l9,m8,List.flatMap_map,de,<- flat_get f e ds];rfl
def rd_whole:qQ1 (spW K) (xH K) ["thing"]:=by
 intro vs H Q E h;obtain⟨v,d,rfl,hS,q⟩:=h;have q0:=q H (Same.refl _);refine⟨_,rfl,v,d,"int",rfl,by decide,hS,_,rfl,?_⟩;by_cases hi:aBU d "int"=true
 ·rw[C5 hi];refine⟨_,rfl,v,d,"bool",rfl,by decide,hS,_,rfl,?_⟩;cases d<;>first|exact q0|(exact absurd hi (by simp[aBU]))
 ·rw[C4 hi];cases d<;>first|exact q0|(exact absurd (by rfl) hi)
def rd_wholes:qQ1 (spWs K) (pP K (spW K)) ["thing"]:=by
 intro vs H Q E h;obtain⟨v,d,rfl,hS,hz,q⟩:=h;refine⟨_,rfl,v,d,"tuple",rfl,by decide,hS,_,rfl,?_⟩;by_cases hi:aBU d "tuple"=true
 ·rw[C5 hi];cases d with
  |tup ds=>
   obtain⟨a,xs,rfl,ha,hL⟩:=id hS;have hl:ds.length=xs.length:=hL.length;refine⟨_,rfl,a,rfl,.inr ⟨⟨xs,ha⟩,λacc hacc=>?_⟩⟩;refine bW [0] ((ds.map whD).map V.bl) hacc (by rw[af,af];exact bo (hz ds rfl) (by decide)) ?_ λσ' H' sm hl'=>⟨acc,ds.map whD,rfl,.inl (.of hl'),?_⟩
   ·refine Emits.cast (L:=(bc xs.length).flatMap λi=>[V.bl (whD (ds.getD i .non))]) ?_ (by rw[<- hl,flat_get (λd=>V.bl (whD d)),fg];rfl);refine aIT (by decide) (by show 0<1;decide) (λH' sx=>(cE hacc sx).tup ha) λi x σ1 H1 hx l1 ag1 s1 sx1 _=>?_;refine cU λQ hQ=>?_;have hi':i<ds.length:=by rw[hl];exact(ai.mp hx).1
    obtain⟨y,hy,sy⟩:=hL.get (j:=i) (d:=ds.getD i .non) (by rw[ak];simp[hi']);obtain rfl:y=x:=by rw[hx] at hy;cases hy;rfl
    exact⟨_,s1,y,_,rfl,sy.same (cE hacc sx1),hQ⟩
   ·have:=q H' sm;rw[show whsD (.tup ds)=ds.all whD from rfl] at this;rw[Aj];exact this
  |_=>exact absurd hi (by simp[aBU])
 ·rw[C4 hi];have q0:=q H (Same.refl _);cases d<;>first|exact q0|(exact absurd (by rfl) hi)
end K38.L
namespace K38
open PySem L2
def OkD (D:Int)(P:Pr):Prop:=∀e∈P,0<e.2/\e.2∣D/\e.1.natAbs<2^2000
def eM (D:Int)(P:Pr):Int:=(P.map λe=>e.1*(D / e.2)).sum
def aLw (hb:0<b)(h1:c∣D)(h2:b∣D):c*(b / gd c b)∣D:=by
 obtain⟨r1,r2,r3,r4⟩:=jY (i:=c) hb;have g0:=mH (i:=c) hb;obtain⟨u,rfl⟩:=h1;have h3:gd c b*(b / gd c b)∣gd c b*(c / gd c b*u):=by
  rw[<- r2,<- fw,<- r1];exact h2
 have h4:b / gd c b∣c / gd c b*u:=Int.dvd_of_mul_dvd_mul_left (by lia) h3;obtain⟨w,hw⟩:=aCU h4 r4;refine⟨w,?_⟩;rw[fw,<- hw]
def cJ {c D:Int}(hc:0<c)(hD:0<D)(h:c∣D){k:Nat}(hb:D.natAbs<2^k):c.natAbs<2^k:=by
 have:=yz hD h;lia
def aHy {x:Int}(h:x.natAbs<2^2000):x.natAbs<2^8000:=av h C6
def tU {D e:Int}(he:0<e)(hD:0<D){k:Nat}(hb:D.natAbs<2^k):(D / e).natAbs<2^k:=by
 have:D / e<=D:=Int.ediv_le_self _ (by lia);have:0<=D / e:=Int.ediv_nonneg (by lia) (by lia);lia
def aRe (K:aa):Sp:=λvs H Q _=>∃(a:ww) (xs:List V) (P:Pr) (D:Int),vs=[.ref a]/\SqL K H a xs/\Rows K H xs (prI P)/\OkD D P/\0<D/\D.natAbs<2^2000/\∀c:Int,0<c->c∣D->(∀e∈P,e.2∣c)->Q (.int c) H
def aPp:qQ1 (aRe K) (iU K aOV) ["some","common","top","bottom"]:=by
 intro vs H Q E h;obtain⟨a,xs,P,D,rfl,ha,hr,okp,D0,Db,q⟩:=h;have hl:xs.length=P.length:=by rw[hr.1];unfold prI;rw[af]
 refine⟨_,rfl,a,rfl,.inl ⟨⟨_,ha⟩,aX (K:=K) (a:=a) (xs:=xs) (λi σ' H'=>H'=H/\i<=xs.length/\∃(c:Int) (x2 x3:Option V),σ'=[some (.ref a),some (.int c),x2,x3]/\0<c/\c∣D/\∀e∈P.take i,e.2∣c) ⟨rfl,bh _,1,none,none,rfl,by decide,Co _,by simp⟩ (λi σ1 H1 _ ⟨e,_⟩=>by rw[e];exact ha) (λi x σ1 H1 hx ⟨e,_,c,x2,x3,es,c0,cd,ce⟩=>?_) λσ1 H1 ⟨e,_,c,x2,x3,es,c0,cd,ce⟩=>?_⟩⟩
 ·subst e es;have hi:i<xs.length:=(ai.mp hx).1;obtain⟨e,b,he,rfl,hb⟩:=aFP hr hx;obtain⟨b0,bd,_⟩:=okp e (au he);refine⟨b,_,rfl,hb,rfl,.int e.1,[.int e.2],rfl,.int e.2,[],rfl,rfl,?_⟩;have g0:=mH (i:=c) b0;obtain⟨r1,r2,r3,_⟩:=jY (i:=c) b0;have e2s:=aHy (cJ b0 D0 bd Db);refine⟨_,rfl,_,rfl,_,rfl,_,rfl,c,e.2,rfl,_,_,rfl,rfl,aAp b0 e2s,.inr ⟨aHy (cJ c0 D0 cd Db),tU g0 b0 e2s⟩,rfl,hi,c*(e.2 / gd c e.2),_,_,rfl,lr c0 r3,aLw b0 cd bd,λx hx'=>?_⟩;rw[gq,he] at hx';rcases cg.mp hx' with h|h
  ·exact Bv (ce x h) (Int.dvd_mul_right ..)
  ·obtain rfl:x=e:=by simpa using h
   refine⟨c / gd c x.2,?_⟩;have:c*(x.2 / gd c x.2)=(gd c x.2*(c / gd c x.2))*(x.2 / gd c x.2):=by rw[<- r1]
   rw[this,fw,ff,<- fw,fe (c / gd c x.2),fw,fe (c / gd c x.2),<- fw,<- r2]
 ·subst e es;rw[hl,gn] at ce;exact⟨_,rfl,q c c0 cd ce⟩
def aNH (D:Int)(P:Pr):List Int:=P.map λe=>e.1*(D / e.2)
def aQY (K:aa):Sp:=λvs H Q _=>∃(a:ww) (xs:List V) (P:Pr) (D:Int),vs=[.ref a,.int D]/\H a=some (.lst xs)/\Rows K H xs (prI P)/\OkD D P/\P.length<=100/\0<D/\D.natAbs<2^2000/\∀l H',Same H H'->H' l=some (.lst ((aNH D P).map V.int))->Q (.ref l) H'
def aPe:qQ1 (aQY K) (tW K) ["some","bottom"]:=by
 intro vs H Q E h;obtain⟨a,xs,P,D,rfl,ha,hr,okp,h8,D0,Db,q⟩:=h;have hl:xs.length=P.length:=by rw[hr.1];unfold prI;rw[af]
 refine⟨_,rfl,a,rfl,.inl ⟨⟨_,.of ha⟩,λA hA=>?_⟩⟩;refine aX (K:=K) (a:=a) (xs:=xs) (λi σ' H'=>i<=xs.length/\Same H H'/\(∃x0 x1,σ'=[x0,x1,some (.int D)])/\H' A=some (.lst ((aNH D (P.take i)).map V.int))) ⟨bh _,aD hA _,⟨_,_,rfl⟩,aB⟩ (λi σ1 H1 _ ⟨_,s1,_⟩=>.of (s1 _ _ ha)) (λi x σ1 H1 hx ⟨_,s1,⟨x0,x1,es⟩,hA1⟩=>?_) λσ1 H1 ⟨_,s1,_,hA1⟩=>?_
 ·subst es;have hi:i<xs.length:=(ai.mp hx).1;obtain⟨e,b,he,rfl,hb⟩:=aFP (hr.same s1) hx;obtain⟨b0,b1,t1⟩:=okp e (au he);refine⟨b,_,rfl,hb,rfl,.int e.1,[.int e.2],rfl,.int e.2,[],rfl,rfl,?_⟩;refine⟨_,rfl,_,rfl,_,rfl,_,_,rfl,rfl,⟨b0,aHy (cJ b0 D0 b1 Db)⟩,.inr ⟨aHy t1,aHy (tU b0 D0 Db)⟩,_,hA1,?_,hi,bO hA s1,⟨_,_,rfl⟩,?_⟩
  ·rw[af];unfold aNH;rw[af,dj];exact bj (show _<=100 by lia) (by decide)
  ·rw[aB,gq,he];unfold aNH;rw[c4,c4];rfl
 ·rw[hl,gn] at hA1;exact q A H1 s1 hA1
theorem aAE (hc:0<c)(hD:0<D)(hcD:c∣D):∀{P:Pr},(∀e∈P,0<e.2/\e.2∣c)->eM c P*D=eM D P*c
 |[],_=>by simp[eM]
 |e::P,h=>by
  have ih:=aAE hc hD hcD (P:=P) λx hx=>h x (bq _ hx);obtain⟨e0,u,rfl⟩:=h e (c7 ..);obtain⟨w,rfl⟩:=hcD;have x1:e.2*u / e.2=u:=ni _ (by lia);have x2:e.2*u*w / e.2=u*w:=by rw[fw];exact ni _ (by lia)
  unfold eM at ih ⊢;rw[de,de,Bw,Bw,qy,qy,ih,x1,x2];congr 1;simp only[fw,ff,fe]
def aII (hb:0<b)(hd:0<d)(h:a*d=c*b):lo a b=lo c d:=by
 obtain⟨e1,e2⟩:=aOo hb hd h;unfold lo;rw[e1,e2]
def wM (K:aa):Sp:=λvs H Q _=>∃(a:ww) (xs:List V) (P:Pr) (D:Int),vs=[.ref a]/\H a=some (.lst xs)/\Rows K H xs (prI P)/\OkD D P/\P.length<=100/\0<D/\D.natAbs<2^2000/\∀p H',Same H H'->H' p=some (.tup [.int (lo (eM D P) D).1,.int (lo (eM D P) D).2])->Q (.ref p) H'
def aME:qQ1 (wM K) (aGM K (aRe K) (qO K) (aQY K)) ["some","bottom"]:=by
 intro vs H Q E h;obtain⟨a,xs,P,D,rfl,ha,hr,okp,h8,D0,Db,q⟩:=h;refine⟨_,rfl,a,xs,P,D,rfl,.of ha,hr,okp,D0,Db,λc c0 cd ce=>?_⟩;have cb:=cJ c0 D0 cd Db;refine⟨_,rfl,_,rfl,a,xs,P,c,rfl,ha,hr,λe he=>⟨(okp e he).1,ce e he,(okp e he).2.2⟩,h8,c0,cb,λl H1 s1 hl=>⟨l,aNH c P,rfl,.inl (.of hl),_,rfl,_,_,rfl,c0,aHy cb,λp H2 s2 hp=>q p H2 (s1.trans s2) ?_⟩⟩;rw[hp];have e:=aII c0 D0 (aAE c0 D0 cd (P:=P) λe he=>⟨(okp e he).1,ce e he⟩);rw[<- e];rfl
def Fr (K:aa)(H:Hp)(a:ww)(t b:Int):Prop:=SqT K H a [.int t,.int b]
def aOd (K:aa):Sp:=λvs H Q _=>∃(x y:ww) (t b t' b':Int),vs=[.ref x,.ref y]/\Fr K H x t b/\Fr K H y t' b'/\t.natAbs<2^2000/\b.natAbs<2^2000/\t'.natAbs<2^2000/\b'.natAbs<2^2000/\0<b/\0<b'/\∀p H',Same H H'->H' p=some (.tup [.int (lo (t*t') (b*b')).1,.int (lo (t*t') (b*b')).2])->Q (.ref p) H'
def aNr:qQ1 (aOd K) (aFY K (qO K)) ["one","other"]:=by
 intro vs H Q E h;obtain⟨x,y,t,b,t',b',rfl,hx,hy,h1,h2,h3,h4,h5,h6,q⟩:=h;refine⟨_,rfl,ixT (j:=0) hx rfl ⟨_,rfl,ixT (j:=0) hy rfl ⟨.inr ⟨aHy h1,aHy h3⟩,_,rfl,ixT (j:=1) hx rfl ⟨_,rfl,ixT (j:=1) hy rfl ⟨.inr ⟨aHy h2,aHy h4⟩,_,_,rfl,lr h5 h6,?_,λp H' s hp=>q p H' s hp⟩⟩⟩⟩⟩;exact av (iB h2 h4) C6
def aRt (K:aa):Sp:=λvs H Q _=>∃(x y:ww) (t b t' b':Int),vs=[.ref x,.ref y]/\Fr K H x t b/\Fr K H y t' b'/\t.natAbs<2^8000/\b.natAbs<2^8000/\t'.natAbs<2^8000/\b'.natAbs<2^8000/\Q (.bl (decide (t*b'<t'*b))) H
def aPl:qQ1 (aRt K) (aBu K) ["one","other"]:=by
 intro vs H Q E h;obtain⟨x,y,t,b,t',b',rfl,hx,hy,h1,h2,h3,h4,q⟩:=h;exact⟨_,rfl,ixT (j:=0) hx rfl ⟨_,rfl,ixT (j:=1) hy rfl ⟨.inr ⟨h1,h4⟩,_,rfl,ixT (j:=0) hy rfl ⟨_,rfl,ixT (j:=1) hx rfl ⟨.inr ⟨h3,h2⟩,_,_,rfl,rfl,q⟩⟩⟩⟩⟩
def aOR {α β:Type}(p:α->Bool)(g:α->β)(e:α):([e].filter p).map g=if p e=true then[g e] else[]:=by
 by_cases c:p e=true
 ·rw[C5 c,kv c];rfl
 ·rw[C4 c,kx c];rfl
def aCa (h:OkD D P)(s:∀e∈P',e∈P):OkD D P':=λe he=>h e (s e he)
def aBW:prI (P++P')=prI P++prI P':=by unfold prI;rw[c4]
abbrev Cts:=List (List Nat×(Int×Int))
def cG (W:Cts):List (List Int×Int×Int):=W.map λe=>(e.1.map Int.ofNat,e.2)
def zJ (i j:Nat)(W:Cts):Pr:=(W.filter λe=>prt e.1 i j).map (·.2)
def sY {K:aa}{H:Hp}{ys:List V}{W:Cts}(h:bQ K H ys (cG W)){i:Nat}{x:V}(hx:ys[i]?=some x):∃e b q f,W[i]?=some e/\x=.ref b/\SqT K H b [.ref q,.ref f]/\SqT K H q (e.1.map cB)/\SqT K H f [.int e.2.1,.int e.2.2]:=by
 obtain⟨row,b,hr,rfl,q,f,h1,h2,h3⟩:=aPu (show RG (Pt K H) ys (cG W) from h) hx;unfold cG at hr;rw[bp] at hr;cases he:W[i]? with
 |none=>rw[he] at hr;cases hr
 |some e=>
  rw[he] at hr;obtain rfl:(e.1.map Int.ofNat,e.2)=row:=cf hr;exact⟨e,b,q,f,rfl,rfl,h1,by rw[cC];exact h2,h3⟩
def aQR (K:aa):Sp:=λvs H Q _=>∃(l:ww) (ys:List V) (W:Cts) (i j:Nat) (D:Int),vs=[.ref l,.int (i:Int),.int (j:Int)]/\H l=some (.lst ys)/\bQ K H ys (cG W)/\W.length<=60/\OkD D (W.map (·.2))/\0<D/\D.natAbs<2^2000 /\
 ∀p H',Same H H'->H' p=some (.tup [.int (lo (eM D (zJ i j W)) D).1,.int (lo (eM D (zJ i j W)) D).2])->Q (.ref p) H'
def aQo:qQ1 (aQR K) (aAq K (aMi K) (wM K)) ["some","i","j"]:=by
 intro vs H Q E h;obtain⟨l,ys,W,a,b,D,rfl,hl,rW,z,okd,D0,Db,q⟩:=h;have yl:ys.length=W.length:=by rw[rW.1];unfold cG;rw[af]
 refine⟨_,rfl,l,rfl,.inl ⟨⟨_,.of hl⟩,λA hA=>?_⟩⟩;refine aX (K:=K) (a:=l) (xs:=ys) (λi σ' H'=>i<=ys.length/\Same H H'/\(∃x0 x1,σ'=[x0,x1,some (.int (a:Int)),some (.int (b:Int))])/\∃zs,H' A=some (.lst zs)/\Rows K H' zs (prI (zJ a b (W.take i)))) ⟨bh _,aD hA _,⟨_,_,rfl⟩,[],aB,Rows.nil⟩ (λi σ1 H1 _ ⟨_,s1,_⟩=>.of (s1 _ _ hl)) (λi x σ1 H1 hx ⟨_,s1,⟨x0,x1,es⟩,zs,hA1,r1⟩=>?_) λσ1 H1 ⟨_,s1,_,zs,hA1,r1⟩=>?_
 ·subst es;have hi:i<ys.length:=(ai.mp hx).1;obtain⟨e,c,s,f,he,rfl,hb,hs,hf⟩:=sY (K:=K) (H:=H1) (bA rW λb e=>Pt.same s1) hx;refine⟨c,_,rfl,hb,rfl,_,_,rfl,_,_,rfl,rfl,?_⟩;refine⟨_,rfl,_,rfl,_,rfl,s,e.1,a,b,rfl,hs,_,rfl,?_⟩;have e1:zJ a b (W.take (i+1))=zJ a b (W.take i)++if prt e.1 a b=true then[e.2] else[]:=by
   unfold zJ;rw[gq,he,je,c4];congr 1;exact aOR (λe:List Nat×(Int×Int)=>prt e.1 a b) (·.2) e
  refine tH (λcp=>?_) λcp=>?_
  ·rw[C5 cp] at e1;refine⟨_,rfl,zs,hA1,bj (show zs.length<=100 by rw[r1.1];unfold prI zJ;rw[af,af];have:=dy (λe:List Nat×(Int×Int)=>prt e.1 a b) (W.take i);rw[dj] at this;lia) (by decide),hi,bO hA s1,⟨_,_,rfl⟩,_,aB,?_⟩;rw[e1,aBW];exact Rows.put (Rows.snoc r1 (b:=f) (r:=[e.2.1,e.2.2]) hf) hA1
  ·rw[C4 cp,ia] at e1;refine⟨hi,s1,⟨_,_,rfl⟩,zs,hA1,?_⟩;rw[e1];exact r1
 ·rw[yl,gn] at r1;refine⟨A,zs,zJ a b W,D,rfl,hA1,r1,aCa okd λe he=>?_,?_,D0,Db,λp H2 s2 hp=>q p H2 (s1.trans s2) hp⟩
  ·obtain⟨x,hx,rfl⟩:=cw.mp he;exact cw.mpr ⟨x,(gr.mp hx).1,rfl⟩
  ·unfold zJ;rw[af];have:=dy (λe:List Nat×(Int×Int)=>prt e.1 a b) W;lia
def frB (t b:Int):Bool:=decide (1<=b)&&decide (gd t b=1)
def ctB (s:List Nat)(t z:Int):Bool:=frB t z&&(decide (0<t)||(decide (s.length=1)&&decide (t<0)))
def aKn (R:List (List Int)):List Bool:=(bc (R.length-1)).map λi=>HT.lexLt (R.getD i []) (R.getD (i+1) [])
def aRl (K:aa):Sp:=λvs H Q _=>∃(l:ww) (xs:List V) (R:List (List Int)),vs=[.ref l]/\H l=some (.lst xs)/\Rows K H xs R/\R.length<=100/\∀H',Same H H'->Q (.bl ((aKn R).all id)) H'
def aQd:qQ1 (aRl K) (aAR K) ["some"]:=by
 intro vs H Q E h;obtain⟨l,xs,R,rfl,hl,rR,z,q⟩:=h;refine⟨_,rfl,_,rfl,1,rfl,.inl ⟨l,xs,rfl,.of hl,λp hp=>?_⟩⟩;have ec:eK xs (some 1) none=xs.drop 1:=by
  unfold eK;rw[show(some 1:Option Int)=some ((1:Nat):Int) from rfl,HT.sIx_nat,HT.sIx_none];by_cases c:xs.length=0
  ·rw[su.mp c];rfl
  ·rw[show min 1 xs.length=1 by lia,List.take_of_length_le (by rw[ip];lia)]
 rw[ec];have mp:=aD hp (.lst (xs.drop 1));have hp1:(upd H p (.lst (xs.drop 1))) p=some (.lst (xs.drop 1)):=aB;generalize upd H p (.lst (xs.drop 1))=G at *;have dl:(xs.drop 1).length=R.length-1:=by rw[ip,rR.1]
 refine⟨l,p,true,true,rfl,⟨_,.of (mp _ _ hl)⟩,⟨_,.of hp1⟩,λA hA=>?_⟩;refine zY (K:=K) (b1:=true) (b2:=true) (l1:=l) (l2:=p) (xs:=xs) (ys:=xs.drop 1) (by rw[ip];lia) (λi σ' H'=>i<=R.length-1/\Same G H'/\σ'.length=2/\H' A=some (.lst (((bc i).map λi=>HT.lexLt (R.getD i []) (R.getD (i+1) [])).map V.bl))) ⟨bh _,aD hA _,rfl,aB⟩ (λi σ1 H1 _ ⟨_,s1,_⟩=>⟨.of (s1 _ _ (mp _ _ hl)),.of (s1 _ _ hp1)⟩) (λi x y σ1 H1 t hx hy ht ⟨_,s1,l2,hA1⟩=>?_) λσ1 H1 ⟨_,s1,_,hA1⟩=>?_
 ·have hi:i<R.length-1:=by have:=(ai.mp hy).1;lia
  rw[mw] at hy;have rG:=rR.same (mp.trans s1);obtain⟨b1,e1,g1⟩:=rG.2 i (R.getD i []) (by rw[ak,ah (show i<R.length by lia)];rfl);obtain⟨b2,e2,g2⟩:=rG.2 (i+1) (R.getD (i+1) []) (by rw[ak,ah (show i+1<R.length by lia)];rfl);rw[hx] at e1;rw[show 1+i=i+1 by lia,e2] at hy;obtain rfl:x=.ref b1:=cf e1;obtain rfl:V.ref b2=y:=cf hy;have mt:=aD ht (.tup [V.ref b1,.ref b2]);obtain⟨x0,x1,rfl⟩:∃x0 x1,σ1=[x0,x1]:=by
   match σ1,l2 with
   |[x0,x1],_=>exact⟨x0,x1,rfl⟩
  refine⟨t,_,rfl,.of aB,rfl,_,_,rfl,_,_,rfl,rfl,?_⟩;refine⟨_,rfl,_,rfl,b1,b2,_,_,rfl,rfl,mt.tup g1,mt.tup g2,_,mt _ _ hA1,?_,hi,bO hA (s1.trans mt),rfl,?_⟩
  ·rw[af,af,e8];exact bj (show i<=100 by lia) (by decide)
  ·rw[aB,sk,c4,c4];rfl
 ·rw[dl] at hA1;exact⟨A,aKn R,rfl,.inl (.of hA1),q H1 (mp.trans s1)⟩
def eqB (t a:Int×Int):Bool:=decide ([t.1,t.2]=[a.1,a.2])
theorem aJU:∀{P:Pr},(∀e∈P,(e.1*(D / e.2)).natAbs<=y)->(eM D P).natAbs<=P.length*y
 |[],_=>bh _
 |e::P,h=>by
  have i1:=aJU (P:=P) λx hx=>h x (bq _ hx);have i2:=h e (c7 ..);have i3:=Int.natAbs_add_le (e.1*(D / e.2)) (eM D P);show(e.1*(D / e.2)+eM D P).natAbs<=_;rw[c5,Cc,Nat.one_mul];lia
def aRP (k:Nat):100*2^k<2^(7+k):=by
 rw[Nat.pow_add];exact Nat.mul_lt_mul_of_pos_right (by decide) (Cp (by decide))
def jI (D0:0<D)(Db:D.natAbs<2^b)(h:∀e∈P,0<e.2/\e.1.natAbs<2^a)(hl:P.length<=100):(eM D P).natAbs<2^(7+(a+b)):=
 bj (aJU λe he=>i6 (iB (h e he).2 (tU (h e he).1 D0 Db))) (bj (AN _ hl) (aRP (a+b)))
def aAy (D0:0<D)(Db:D.natAbs<2^2000)(h:OkD D P)(hl:P.length<=100):(eM D P).natAbs<2^(7+(2000+2000)):=jI D0 Db (λe he=>⟨(h e he).1,(h e he).2.2⟩) hl
def iW (h:0<j):0<(lo i j).2:=(jY (i:=i) h).2.2.1
def eD (h:0<j)(hi:i.natAbs<2^k):(lo i j).1.natAbs<2^k:=aMZ h hi
def pN (h:0<j):(lo i j).2∣j:=⟨gd i j,by have:=(jY (i:=i) h).2.1;rw[fe];exact this⟩
def vC (h:0<j)(hj:j.natAbs<2^k):(lo i j).2.natAbs<2^k:=cJ (iW h) h (pN h) hj
def up8 {x:Int}{k:Nat}(h:x.natAbs<2^k)(hk:k<=8000):x.natAbs<2^8000:=av h (az (by decide) hk)
def aNi {α β:Type}(L:List α)(d:α)(f:α->β):L.map f=(bc L.length).map λi=>f (L.getD i d):=by
 apply qt
 ·simp
 ·intro i h1 h2;rw[j7,j7,og,ak,ah (by simpa using h1)];rfl
def aDu {α β:Type}{L:List α}{i:Nat}{e:α}(f:α->β)(h:L[i]?=some e):(L.take (i+1)).map f=(L.take i).map f++[f e]:=by
 rw[gq,h,c4];rfl
def aEN (T:List (List Int))(D:Int)(W:Cts)(e:Nat×Nat):Bool:=decide (at2 T e.1 e.2*(lo (eM D (zJ e.1 e.2 W)) D).2<(lo (eM D (zJ e.1 e.2 W)) D).1*1)
def aFp (D:Int)(W:Cts):Int×Int:=lo (2*(lo (eM D (W.map (·.2))) D).1) (1*(lo (eM D (W.map (·.2))) D).2)
def yJ (T:List (List Int))(n:Nat)(D:Int)(W:Cts)(a:Int×Int):Bool:=(aKn (nN (W.map (·.1)))).all id&&(!((cA n).any (aEN T D W))&&eqB (aFp D W) a)
def aHA (T:List (List Int))(n:Nat)(h:Nat->Nat):Cts:=((bc (mN n)).filter (aCk T n h)).map λi=>((stA n (h i)).1,lo ((stA n (h i)).2*RT T n h i (NN n)) (dT T n h))
def aJq:aIK T n h=cG (aHA T n h):=by
 unfold aIK cG aHA;rw[fg];rfl
def aIs (p:W.Perm (aIK T n h)):∃W0:Cts,W0.Perm (aHA T n h)/\W=cG W0:=by
 rw[aJq] at p;exact tY p (aHA T n h) rfl
def aHl (n3:3<=n)(n6:n<=6)(b:Bs T n)(ok:OkT T n h):(aHA T n h).length<=15/\∀e∈aHA T n h,0<e.2.2/\e.2.2∣dT T n h/\e.2.1.natAbs<2^900:=by
 refine⟨?_,λe he=>?_⟩
 ·unfold aHA;rw[af];have:=yP (i:=mN n) (p:=aCk T n h);have:=(qP n3 n6).2.1;lia
 ·obtain⟨i,_,rfl⟩:=cw.mp he;refine⟨iW ok.d0,pN ok.d0,?_⟩;have sg:=aHb (j:=h i) n3 n6;have:=iB (show(stA n (h i)).2.natAbs<2^1 by lia) (aDq n3 n6 b h i (NN n));exact av (eD ok.d0 this) C6
def aGr (h:0<j):(lo i j).1*gd i j=i/\(lo i j).2*gd i j=j:=by
 obtain⟨e1,e2,_,_⟩:=jY (i:=i) h;refine⟨?_,?_⟩
 ·rw[fe];exact e1.symm
 ·rw[fe];exact e2.symm
def aDK:eM D (P++P')=eM D P+eM D P':=by
 unfold eM;rw[c4,List.sum_append]
def aOp (h:0<j):gd (lo i j).1 (lo i j).2=1:=by
 have:=(jY (i:=i) h).2.2.2;unfold gd;show(((lo i j).1.gcd (lo i j).2:Nat):Int)=1;unfold lo;rw[this];rfl
def aOE (h:0<j):frB (lo i j).1 (lo i j).2=true:=by
 unfold frB;rw[At (show 1<=(lo i j).2 from iW h),At (aOp h)];rfl
def aMP (h:0<j):(0<i->0<(lo i j).1)/\(i<0->(lo i j).1<0):=by
 obtain⟨e1,_⟩:=aGr (i:=i) h;have g0:=mH (i:=i) h;refine⟨λz=>?_,λz=>?_⟩
 ·apply dn;intro c;have:=Int.mul_nonpos_of_nonpos_of_nonneg (show(lo i j).1<=0 by lia) (o6 g0);lia
 ·apply dn;intro c;have:=jl (show 0<=(lo i j).1 by lia) (o6 g0);lia
def aKp (h:R.Pairwise λa b=>HT.lexLt a b=true):(aKn R).all id=true:=by
 refine dk.mpr λb hb=>?_;obtain⟨i,hi,rfl⟩:=cw.mp hb;have hi:=fc.mp hi;have:=qm.mp h i (i+1) (by lia) (by lia) (by lia);rw[ak,ak,ah (show i<R.length by lia),ah (show i+1<R.length by lia)];exact this
def aNB:∀n,3<=n->n<=6->((bc n).all λi=>decide ([i]∈bP n))=true:=n36 (by decide+kernel) (by decide+kernel) (by decide+kernel) (by decide+kernel)
def aRv (n:Nat):Bool:=(bc (kN n)).all λj=>decide ((stA n j).1∈bP n)&&(decide ((stA n j).2=1)||(decide ((stA n j).2=-1)&&decide ((stA n j).1.length=1)))
def aPz:∀n,3<=n->n<=6->aRv n=true:=n36 (by decide+kernel) (by decide+kernel) (by decide+kernel) (by decide+kernel)
def aKB (n3:3<=n)(n6:n<=6)(ok:OkT T n h):∀e∈aHA T n h,e.1∈bP n/\ctB e.1 e.2.1 e.2.2=true/\e.2.1≠0/\(1<e.1.length->0<e.2.1):=λe he=>by
 have d0:0<dT T n h:=ok.d0;obtain⟨i,hi,rfl⟩:=cw.mp he;obtain⟨h1,h2⟩:=gr.mp hi;have hi:=fc.mp h1;unfold aCk at h2;rw[cz] at h2;have ck:=C0 h2.1;have c0:RT T n h i (NN n)≠0:=of_decide_eq_false (by simpa using h2.2);have b0:0<=RT T n h i (NN n):=ok.b0 i hi;have nb:=dk.mp (aPz n n3 n6) (h i) (fc.mpr ck);rw[cz,o7,cz] at nb;obtain⟨nb1,nb2⟩:=nb;refine⟨C0 nb1,?_⟩;unfold ctB;show(frB (lo ((stA n (h i)).2*RT T n h i (NN n)) (dT T n h)).1 (lo ((stA n (h i)).2*RT T n h i (NN n)) (dT T n h)).2&&_)=true/\_;rw[aOE d0,nv];have sg:=aMP (i:=(stA n (h i)).2*RT T n h i (NN n)) d0;rcases nb2 with nb2|⟨nb2,nb3⟩
 ·have:0<(lo ((stA n (h i)).2*RT T n h i (NN n)) (dT T n h)).1:=sg.1 (by rw[C0 nb2,Bc];lia);exact⟨by rw[At this];rfl,by show(lo _ _).1≠0;lia,λ_=>this⟩
 ·have:(lo ((stA n (h i)).2*RT T n h i (NN n)) (dT T n h)).1<0:=sg.2 (by rw[C0 nb2,lu,Bc];lia);have l1:=C0 nb3;exact⟨by rw[At this,At l1];simp,by show(lo _ _).1≠0;lia,λz=>by have z:1<(stA n (h i)).1.length:=z;lia⟩
theorem yQ:∀{a b:List Int},lexL a b=HT.lexLt a b
 |[],[]=>rfl
 |[],_::_=>rfl
 |_::_,[]=>rfl
 |x::xs,y::ys=>by
  rw[lexL,HT.lexLt_cons,yQ (a:=xs) (b:=ys)]
theorem zL:∀{a b:List Int},a≠b->HT.lexLt b a=false->HT.lexLt a b=true
 |[],[],h,_=>absurd rfl h
 |[],_::_,_,_=>rfl
 |_::_,[],_,h=>by rw[HT.lexLt_nil_cons] at h;cases h
 |x::xs,y::ys,h,g=>by
  rw[HT.lexLt_cons] at g ⊢;by_cases c:x=y
  ·subst c;rw[C5 rfl] at g ⊢;exact zL (λz=>h (by rw[z])) g
  ·rw[C4 (gf c)] at g;rw[C4 c];have:=of_decide_eq_false g;exact At (by lia)
def aKF (n3:3<=n)(n6:n<=6)(ok:OkT T n h)(pW:W.Perm (aHA T n h))(sW:((cG W).map (·.1)).Pairwise (λa b=>lexL b a=false)):(nN (W.map (·.1))).Pairwise λa b=>HT.lexLt a b=true:=by
 have e:(cG W).map (·.1)=nN (W.map (·.1)):=by
  unfold cG nN;rw[fg,fg];rfl
 rw[e] at sW;have nd:(nN (W.map (·.1))).Nodup:=by
  rw[<- e];have:=aJJ n3 n6 ok;rw[aJq] at this;exact(((pW.map λe:List Nat×(Int×Int)=>(e.1.map Int.ofNat,e.2)).map (·.1)).nodup_iff).mpr this
 refine(ur.mpr ⟨sW,nd⟩).imp λ⟨h1,h2⟩=>zL h2 (by rw[<- yQ];exact h1)
theorem yL:∀{a b:List Int},HT.lexLt a b=true->HT.lexLt b a=false
 |[],[],h=>by cases h
 |[],_::_,_=>rfl
 |_::_,[],h=>by rw[HT.lexLt_cons_nil] at h;cases h
 |x::xs,y::ys,h=>by
  rw[HT.lexLt_cons] at h ⊢;by_cases c:x=y
  ·subst c;rw[C5 rfl] at h ⊢;exact yL h
  ·rw[C4 c] at h;rw[C4 (gf c)];have:=C0 h;exact Au (by lia)
def aGZ (a:List Int):HT.lexLt a a=false:=by
 cases h:HT.lexLt a a with
 |false=>rfl
 |true=>rw[yL h] at h;cases h
def aIa {R R':List (List Int)}(h:R.Pairwise λa b=>HT.lexLt a b=true)(h1:R'.Pairwise λa b=>lexL b a=false)(nd:R'.Nodup)(m:∀r,r∈R'↔r∈R):R'=R:=by
 have h2:R'.Pairwise λa b=>HT.lexLt a b=true:=(ur.mpr ⟨h1,nd⟩).imp λ⟨z1,z2⟩=>zL z2 (by rw[<- yQ];exact z1);have nd2:R.Nodup:=h.imp λ{a b} z e=>by subst e;rw[aGZ] at z;cases z
 have pm:R'.Perm R:=(qd nd nd2).mpr m;refine rh (le:=λa b=>HT.lexLt a b=true) (λa b _ _ x y=>?_) h2 h pm;rw[yL x] at y;cases y
theorem uX:∀(n:Nat),∀s∈bS n,s.Pairwise (· < ·)
 |0,s,h=>by
  obtain rfl:s=[]:=by simpa[bS] using h
  exact .nil
 |n+1,s,h=>by
  rcases cg.mp (show s∈bS n++(bS n).map (· ++ [n]) from h) with h|h
  ·exact uX n s h
  ·obtain⟨t,ht,rfl⟩:=cw.mp h;refine my.mpr ⟨uX n t ht,y9 _ _,λa ha b hb=>?_⟩;obtain rfl:b=n:=br.mp hb;exact(eB b t ht).2 a ha
def aAm (h:s∈bP n):s.Pairwise (· < ·):=uX n s (uz (qe h))
def wZ (n:Nat)(s:List Nat):Bool:=decide (0<s.length)&&decide (s.length<n)
def aKk:∀n,3<=n->n<=6->decide ((bS n).filter (wZ n)=bP n)=true:=n36 (by decide+kernel) (by decide+kernel) (by decide+kernel) (by decide+kernel)
def rT (n3:3<=n)(n6:n<=6)(h:s∈bP n):0<s.length/\s.length<n:=by
 rw[<- C0 (aKk n n3 n6)] at h;have:=(gr.mp h).2;unfold wZ at this;rw[cz] at this;exact⟨C0 this.1,C0 this.2⟩
def aQb:∀n,3<=n->n<=6->((bP n).all λs=>decide (s.map Int.ofNat∈K28))=true:=n36 (by decide+kernel) (by decide+kernel) (by decide+kernel) (by decide+kernel)
def aQE:qQ1 (wM K) (pI K (qO K)) ["some","top","bottom","one"]:=by
 intro vs H Q E h;obtain⟨a,xs,P,D,rfl,ha,hr,okp,h8,D0,Db,q⟩:=h;have hl:xs.length=P.length:=by rw[hr.1];unfold prI;rw[af]
 refine⟨C9,λu hu=>⟨u,_,rfl,.of aB,rfl,_,_,rfl,_,_,rfl,rfl,?_⟩⟩;have mu:=aD hu (.tup [V.int 0,.int 1]);generalize upd H u (.tup [V.int 0,.int 1])=G at *;refine⟨_,rfl,a,rfl,.inl ⟨⟨_,.of (mu _ _ ha)⟩,?_⟩⟩;refine aX (K:=K) (a:=a) (xs:=xs) (λi σ' H'=>i<=xs.length/\Same H H'/\∃(x3:Option V),σ'=[some (.ref a),some (.int (lo (eM D (P.take i)) D).1),some (.int (lo (eM D (P.take i)) D).2),x3]) ⟨bh _,mu,none,?_⟩ (λi σ1 H1 _ ⟨_,s1,_⟩=>.of (s1 _ _ ha)) (λi x σ1 H1 hx ⟨_,s1,x3,es⟩=>?_) λσ1 H1 ⟨_,s1,x3,es⟩=>?_
 ·have:lo (eM D (P.take 0)) D=(0,1):=by
   show lo 0 D=(0,1);rw[aII (c:=0) (d:=1) D0 (by decide) (by rw[wt,wt])];decide+kernel
  rw[this];rfl
 ·subst es;have hi:i<xs.length:=(ai.mp hx).1;obtain⟨e,b,he,rfl,hb⟩:=aFP (hr.same s1) hx;obtain⟨b0,bd,tb⟩:=okp e (au he);have okt:OkD D (P.take i):=aCa okp λx hx=>qe hx;have sb:=aAy D0 Db okt (by rw[dj];lia);have p0:=iW (i:=eM D (P.take i)) D0;have b2:=vC (i:=eM D (P.take i)) D0 Db;have e2:=cJ b0 D0 bd Db;refine⟨_,rfl,_,rfl,ixT (j:=1) hb rfl ⟨.inr ⟨up8 (eD D0 sb) (by decide),up8 e2 (by decide)⟩,_,rfl,ixT (j:=0) hb rfl ⟨_,rfl,.inr ⟨up8 tb (by decide),up8 b2 (by decide)⟩,_,rfl,_,rfl,ixT (j:=1) hb rfl ⟨.inr ⟨up8 b2 (by decide),up8 e2 (by decide)⟩,_,_,rfl,lr p0 b0,up8 (iB b2 e2) (by decide),λp H2 s2 hp=>?_⟩⟩⟩⟩;refine⟨p,_,rfl,.of hp,rfl,_,_,rfl,_,_,rfl,rfl,hi,s1.trans s2,some (.ref b),?_⟩;have el:K38.lo ((lo (eM D (P.take i)) D).1*e.2+e.1*(lo (eM D (P.take i)) D).2) ((lo (eM D (P.take i)) D).2*e.2)=K38.lo (eM D (P.take (i+1))) D:=by
   refine aII (lr p0 b0) D0 ?_;obtain⟨g1,g2⟩:=aGr (i:=eM D (P.take i)) D0;have es:eM D (P.take (i+1))=eM D (P.take i)+e.1*(D / e.2):=by
    rw[gq,he,aDK];congr 1;show eM D [e]=_;unfold eM;rw[de,Ah,Bw,List.sum_nil,Int.add_zero]
   rw[es];obtain⟨w,rfl⟩:=bd;rw[ni _ (show e.2≠0 by lia)];have key:∀t b g S x y w:Int,t*g=S->b*g=x*w->(t*x+y*b)*(x*w)=(S+y*w)*(b*x):=λt b g S x y w h1 h2=>by
    rw[<- h1,qy,qy];have z1:t*x*(x*w)=t*g*(b*x):=by rw[<- h2];simp only[fw,ff,fe]
    have z2:y*b*(x*w)=y*w*(b*x):=by simp only[fw,ff,fe]
    rw[z1,z2]
   exact key _ _ _ _ _ _ _ g1 g2
  exact congrArg (λz:Int×Int=>[some (V.ref a),some (V.int z.1),some (V.int z.2),some (V.ref b)]) el
 ·subst es;rw[hl,gn];refine⟨_,rfl,_,rfl,C9,λp hp=>q p _ (s1.trans (aD hp _)) aB⟩
def aGu (K:aa):Sp:=λvs H Q _=>∃n:Nat,vs=[.int (n:Int)]/\3<=n/\n<=6/\∀F ys H',Same H H'->H F=none->H' F=some (.lst ys)->Rows K H' ys (nN (bP n))->Q (.ref F) H'
def aMo:qQ1 (aGu K) (pL K) ["many","found","place"]:=by
 intro vs H Q E h;obtain⟨n,rfl,n3,n6,q⟩:=h;refine⟨C7,λp hp=>⟨C8,λl hl=>?_⟩⟩;have mp:=aD hp (.tup []);have ml:=aD hl (.lst [V.ref p]);have m0:=mp.trans ml;have hl0:(upd (upd H p (.tup [])) l (.lst [V.ref p])) l=some (.lst [V.ref p]):=aB;have hp0:SqT K (upd (upd H p (.tup [])) l (.lst [V.ref p])) p []:=ml.tup (.of aB);have hlH:H l=none:=mp.free hl;generalize upd (upd H p (.tup [])) l (.lst [V.ref p])=G at *;refine⟨_,rfl,(n:Int),rfl,by lia,by lia,?_⟩;rw[cv];refine bR (lo:=0) (n:=n) (λi σ' H'=>i<=n/\Same H H'/\∃F x2 ys,σ'=[some (.int (n:Int)),some (.ref F),x2]/\H F=none/\H' F=some (.lst ys)/\Rows K H' ys (nN (bS i))) ⟨bh _,m0,l,none,[.ref p],rfl,hlH,hl0,rfl,λi row e=>?_⟩ (λi σ' H1 hi ⟨_,m1,F,x2,ys,es,hF0,hF,r1⟩=>?_) λσ' H1 ⟨_,m1,F,x2,ys,es,hF0,hF,r1⟩=>?_
 ·match i,e with
  |0,e=>
   obtain rfl:([]:List Int)=row:=cf e;exact⟨p,rfl,hp0⟩
 ·subst es;rw[jd];have yl:ys.length=(bS i).length:=by rw[r1.1,cO]
  have y64:ys.length<=32:=by
   rw[yl,dG];exact bo (az (by decide) (show i<=5 by lia)) (by decide)
  refine⟨_,rfl,_,rfl,F,rfl,.inl ⟨⟨_,.of hF⟩,λA hA=>?_⟩⟩;refine aX (K:=K) (a:=F) (xs:=ys) (λj σ2 H2=>j<=ys.length/\Same H1 H2/\(∃x0,σ2=[x0,some (.int (i:Int))])/\∃zs,H2 A=some (.lst zs)/\Rows K H2 zs (nN (((bS i).take j).map (· ++ [i])))) ⟨bh _,aD hA _,⟨_,rfl⟩,[],aB,Rows.nil⟩ (λj σ2 H2 _ ⟨_,s2,_⟩=>.of (s2 _ _ hF)) (λj x σ2 H2 hx ⟨_,s2,⟨x0,e2⟩,zs,hA2,r2⟩=>?_) λσ2 H2 ⟨_,s2,_,zs,hA2,r2⟩=>?_
  ·subst e2;obtain⟨s,b,hs,rfl,hb⟩:=gO (r1.same s2) hx;have hj:j<ys.length:=(ai.mp hx).1;have sl:s.length<=i:=(eB i s (au hs)).1;refine⟨_,rfl,_,rfl,C8,λt ht=>?_⟩;have mt:=aD ht (.tup [V.int (i:Int)]);refine .inr ⟨b,t,_,_,rfl,rfl,mt.tup hb,.of aB,?_,λc H3 _ hc s3=>?_⟩
   ·rw[af];exact bo (show s.length+1<=10 by lia) (by decide)
   ·have s4:=mt.trans s3;have hA3:=s4 _ _ hA2;refine⟨zs,hA3,bj (show zs.length<=100 by rw[r2.1,cO,af,dj];lia) (by decide),hj,bO hA (s2.trans s4),⟨_,rfl⟩,_,aB,?_⟩;rw[gq,hs,c4];have:nN (((bS i).take j).map (· ++ [i])++((some s).toList.map (· ++ [i])))=nN (((bS i).take j).map (· ++ [i]))++[(s++[i]).map Int.ofNat]:=by
     unfold nN;rw[c4];rfl
    rw[this];refine Rows.put (Rows.snoc (r2.same s4) (b:=c) ?_) hA3;rw[fg,c4];exact hc
  ·have hA4:=s2 _ _ hF;refine .inl ⟨F,A,ys,zs,rfl,rfl,hA4,hA2,?_,λF4 hF4=>?_⟩
   ·rw[r2.1,cO,af,dj];exact bo (show _<=100 by lia) (by decide)
   ·have m4:=aD hF4 (.lst (ys++zs));refine⟨hi,(m1.trans s2).trans m4,F4,_,ys++zs,rfl,(m1.trans s2).free hF4,aB,?_⟩;rw[yl,gn] at r2;have:nN (bS (i+1))=nN (bS i)++nN ((bS i).map (· ++ [i])):=by unfold nN;rw[<- c4];rfl
    rw[this];exact(mJ (r1.same s2) r2).same m4
 ·subst es;have yl:ys.length=(bS n).length:=by rw[r1.1,cO]
  have y64:ys.length<=64:=by
   rw[yl,dG];exact bo (az (by decide) n6) (by decide)
  refine⟨_,rfl,F,rfl,.inl ⟨⟨_,.of hF⟩,λA hA=>?_⟩⟩;refine aX (K:=K) (a:=F) (xs:=ys) (λi σ' H'=>i<=ys.length/\Same H1 H'/\(∃x0,σ'=[x0,some (.int (n:Int))])/\∃zs,H' A=some (.lst zs)/\Rows K H' zs (nN (((bS n).take i).filter (wZ n)))) ⟨bh _,aD hA _,⟨_,rfl⟩,[],aB,Rows.nil⟩ (λi σ2 H2 _ ⟨_,s2,_⟩=>.of (s2 _ _ hF)) (λi x σ2 H2 hx ⟨_,s2,⟨x1,e2⟩,zs,hA2,r2⟩=>?_) λσ2 H2 ⟨_,s2,_,zs,hA2,r2⟩=>?_
  ·subst e2;have hi:i<ys.length:=(ai.mp hx).1;obtain⟨s,b,hs,rfl,hb⟩:=gO (r1.same s2) hx;have e1:((bS n).take (i+1)).filter (wZ n)=((bS n).take i).filter (wZ n)++if wZ n s=true then[s] else[]:=by
    rw[gq,hs,je];congr 1;show[s].filter (wZ n)=_;by_cases c:wZ n s=true
    ·rw[C5 c,kv c];rfl
    ·rw[C4 c,kx c];rfl
   have yes:wZ n s=true->(bG (aC 0) A) {nx:=λσ' H'=>i+1<=ys.length/\Same H1 H'/\(∃x0,σ'=[x0,some (.int (n:Int))])/\∃zs,H' A=some (.lst zs)/\Rows K H' zs (nN (((bS n).take (i+1)).filter (wZ n))),rt:=λ_ _=>False,ct:=λσ' H'=>i+1<=ys.length/\Same H1 H'/\(∃x0,σ'=[x0,some (.int (n:Int))])/\∃zs,H' A=some (.lst zs)/\Rows K H' zs (nN (((bS n).take (i+1)).filter (wZ n)))} [some (.ref b),some (.int (n:Int))] H2:=λcp=>by
    rw[C5 cp] at e1;refine⟨_,rfl,zs,hA2,bj (show zs.length<=100 by rw[r2.1,cO];have:=dy (wZ n) ((bS n).take i);rw[dj] at this;lia) (by decide),hi,bO hA s2,⟨_,rfl⟩,_,aB,?_⟩;rw[e1];have:nN (((bS n).take i).filter (wZ n)++[s])=nN (((bS n).take i).filter (wZ n))++[s.map Int.ofNat]:=by unfold nN;rw[c4];rfl
    rw[this];exact Rows.put (Rows.snoc r2 (by rw[<- cC];exact hb)) hA2
   have no:wZ n s=false->(i+1<=ys.length/\Same H1 H2/\(∃x0,([some (.ref b),some (.int (n:Int))]:St)=[x0,some (.int (n:Int))])/\∃zs,H2 A=some (.lst zs)/\Rows K H2 zs (nN (((bS n).take (i+1)).filter (wZ n)))):=λcp=>by
    rw[C4 (by rw[cp];decide),ia] at e1;refine⟨hi,s2,⟨_,rfl⟩,zs,hA2,?_⟩;rw[e1];exact r2
   refine⟨_,rfl,b,_,rfl,.inr hb,_,_,rfl,rfl,_,rfl,?_⟩;rw[af];by_cases c1:0<s.length
   ·refine aW (At (by lia)) ⟨_,rfl,_,_,rfl,rfl,_,rfl,?_⟩;by_cases c2:s.length<n
    ·exact aW (At (by lia)) (yes (by unfold wZ;rw[At c1,At c2];rfl))
    ·exact bB (Au (by lia)) (no (by unfold wZ;rw[Au c2];simp))
   ·exact bB (Au (by lia)) ⟨_,rfl,bB rfl (no (by unfold wZ;rw[Au c1];rfl))⟩
  ·rw[yl,gn,C0 (aKk n n3 n6)] at r2;exact q A zs H2 (m1.trans s2) (m1.free hA) hA2 r2
def gP:eqD (.int i) (.int j)=decide (i=j):=by rw[eqD];rfl
theorem aFh:∀{ds:List Dt},ds.all L.whD=true->∃ns:List Int,ds=ns.map Dt.int
 |[],_=>⟨[],rfl⟩
 |d::ds,h=>by
  rw[pf,cz] at h;obtain⟨ns,e⟩:=aFh h.2;cases d with
  |int i=>exact⟨i::ns,by rw[e];rfl⟩
  |_=>exact absurd h.1 (by simp[L.whD])
def aDm (h:L.whsD d=true):∃ns:List Int,d=.tup (ns.map Dt.int):=by
 cases d with
 |tup ds=>
  obtain⟨ns,e⟩:=aFh (ds:=ds) h;exact⟨ns,by rw[e]⟩
 |_=>exact absurd h (by simp[L.whsD])
def aJC (ns:List Int):L.whsD (.tup (ns.map Dt.int))=true:=by
 show(ns.map Dt.int).all L.whD=true;rw[Aj];exact dk.mpr λ_ _=>rfl
def eL {ns ms:List Int}(h:Dt.tup (ns.map Dt.int)=.tup (ms.map Dt.int)):ns=ms:=by
 replace h:=Dt.tup.inj h
 induction ns generalizing ms with
 |nil=>cases ms with
  |nil=>rfl
  |cons m ms=>cases h
 |cons a ns ih=>cases ms with
  |nil=>cases h
  |cons m ms=>
   rw[de,de] at h;obtain⟨h1,h2⟩:=fj h;rw[Dt.int.inj h1,ih h2]
def iZ {s t:List Nat}(h:s.map Int.ofNat=t.map Int.ofNat):s=t:=by
 induction s generalizing t with
 |nil=>cases t with
  |nil=>rfl
  |cons m ms=>cases h
 |cons a ns ih=>cases t with
  |nil=>cases h
  |cons m ms=>
   rw[de,de] at h;obtain⟨h1,h2⟩:=fj h;rw[Bu h1,ih h2]
def Wi (d:Dt):Prop:=∀ds,d=.tup ds->ds.length<=1000
def frP (d:Dt):Prop:=∃t z:Int,d=.tup ([t,z].map Dt.int)/\frB t z=true
def uO (s:List Nat):Dt:=.tup ((s.map Int.ofNat).map Dt.int)
def ptD (e:List Nat×(Int×Int)):Dt:=.tup [uO e.1,.tup ([e.2.1,e.2.2].map Dt.int)]
def aKK (h:ptD e=ptD e'):e=e':=by
 obtain⟨s,t,z⟩:=e;obtain⟨s',t',z'⟩:=e';have h:=Dt.tup.inj h;obtain⟨h1,h2⟩:=fj h;obtain⟨h3,_⟩:=fj h2;obtain rfl:=iZ (eL h1);have h3:=eL h3;cases h3;rfl
theorem aCH:∀{W W':Cts},W.map ptD=W'.map ptD->W=W'
 |[],[],_=>rfl
 |[],_::_,h=>by cases h
 |_::_,[],h=>by cases h
 |e::W,e'::W',h=>by
  obtain⟨h1,h2⟩:=fj h;rw[aKK h1,aCH h2]
def VaC (n:Nat)(e:List Nat×(Int×Int)):Prop:=e.1∈bP n/\ctB e.1 e.2.1 e.2.2=true
def aGT (n:Nat)(d:Dt):Prop:=∃e,d=ptD e/\VaC n e
def aNv (K:aa):Sp:=λvs H Q _=>∃(v:V) (d:Dt),vs=[v]/\Sh K H d v/\Wi d/\∀H' (b:Bool),Same H H'->(b=true↔frP d)->Q (.bl b) H'
def aMv (h:L.whsD d=false):¬frP d:=λ⟨t,z,e,_⟩=>by rw[e,aJC] at h;cases h
def aNR:qQ1 (aNv K) (lQ K (L.spWs K) aOV) ["thing","top","bottom"]:=by
 intro vs H Q E h;obtain⟨v,d,rfl,hS,hz,q⟩:=h;refine⟨_,rfl,v,d,rfl,hS,hz,λH1 s1=>⟨_,rfl,?_⟩⟩;cases hw:L.whsD d with
 |false=>exact aW rfl (aW rfl (q H1 false s1 ⟨λz=>(by cases z),λz=>absurd z (aMv hw)⟩))
 |true=>
  obtain⟨ns,rfl⟩:=aDm hw;obtain⟨a,xs,rfl,ha,hL⟩:=id hS;obtain rfl:=hL.of_ints;have ha1:=s1.tup ha;refine bB rfl ⟨_,rfl,a,_,rfl,.inr ha1,.int _,.int 2,bh _,rfl,rfl,_,rfl,?_⟩;rw[gP,af];by_cases hn:ns.length=2
  ·refine bB (by rw[At (by lia)];rfl) ?_
   match ns,hn with
   |[t,z],_=>
    refine⟨_,rfl,a,_,rfl,ha1,rfl,_,_,rfl,_,_,rfl,rfl,?_⟩;have q1:=q H1 (frB t z) s1 ⟨λh=>⟨t,z,rfl,h⟩,λ⟨t',z',e,h⟩=>by
     have:=eL e;cases this;exact h⟩
    unfold frB at q1;refine⟨_,rfl,_,_,rfl,rfl,_,rfl,tH (λc=>?_) λc=>?_⟩
    ·have c:decide ((1:Int)<=z)=true:=c;rw[c,nv] at q1;refine⟨_,rfl,_,rfl,t,z,rfl,.int _,.int 1,bh _,rfl,rfl,?_⟩;rw[gP];exact q1
    ·have c:decide ((1:Int)<=z)=false:=jb _ |>.mp c
     rw[c,uf] at q1;exact q1
  ·refine aW (by rw[Au (by lia)];rfl) (q H1 false s1 ⟨λz=>(by cases z),λ⟨t,z,e,_⟩=>?_⟩);have:=eL e;rw[this] at hn;exact absurd rfl hn
def aOz (K:aa):Sp:=λvs H Q _=>∃(n:Nat) (x:V) (d:Dt),vs=[.int (n:Int),x]/\1<=n/\n<=6/\Sh K H d x/\(∀ds,d=.tup ds->∀c∈ds,Wi c)/\∀H' (b:Bool),Same H H'->(b=true↔aGT n d)->Q (.bl b) H'
def gR:aGT n (.tup [c,f])↔∃(s:List Nat) (t z:Int),c=uO s/\f=.tup ([t,z].map Dt.int)/\s∈bP n/\frB t z=true/\(0<t\/(s.length=1/\t<0)):=by
 constructor
 ·rintro⟨⟨s,t,z⟩,e,h1,h2⟩;have e:=Dt.tup.inj e;obtain⟨e1,e2⟩:=fj e;obtain⟨e3,_⟩:=fj e2;unfold ctB at h2;simp only[cz,o7,decide_eq_true_eq] at h2;exact⟨s,t,z,e1,e3,h1,h2.1,h2.2⟩
 ·rintro⟨s,t,z,rfl,rfl,h1,h2,h3⟩;refine⟨(s,t,z),rfl,h1,?_⟩;unfold ctB;simp only[cz,o7,decide_eq_true_eq];exact⟨h2,h3⟩
def aND:qQ1 (aOz K) (aDw K (aQn K) (L.spWs K) (aNv K)) ["many","thing","cut","price"]:=by
 intro vs H Q E h;obtain⟨n,x,d,rfl,n1,n6,hS,hw,q⟩:=h;refine⟨_,rfl,x,d,"tuple",rfl,by decide,hS,_,rfl,?_⟩;cases hi:aBU d "tuple" with
 |false=>
  refine aW rfl (aW rfl (q H false (Same.refl _) ⟨λz=>(by cases z),λ⟨e,he,_⟩=>?_⟩));rw[he] at hi;cases hi
 |true=>
  obtain⟨ds,rfl⟩:∃ds,d=.tup ds:=by
   cases d with
   |tup ds=>exact⟨ds,rfl⟩
   |_=>exact absurd hi (by simp[aBU])
  obtain⟨a,xs,rfl,ha,hL⟩:=id hS;have hl:=hL.length;refine bB rfl ⟨_,rfl,a,xs,rfl,.inr ha,.int _,.int 2,bh _,rfl,rfl,_,rfl,?_⟩;rw[gP];by_cases h2:ds.length=2
  ·refine bB (by rw[At (by lia)];rfl) ?_
   match ds,h2,hL,hw,q with
   |[c,f],_,hL,hw,q=>
    obtain⟨xc,r,rfl,hc,xf,r2,rfl,hf,rfl⟩:=hL;have wc:=hw _ rfl c (by simp);have wf:=hw _ rfl f (by simp);have no:∀H',Same H H'->(¬ ∃(s:List Nat) (t z:Int),c=uO s/\f=.tup ([t,z].map Dt.int)/\s∈bP n/\frB t z=true/\(0<t\/(s.length=1/\t<0)))->Q (.bl false) H':=λH' s hn=>q H' false s ⟨λz=>(by cases z),λz=>absurd (gR.mp z) hn⟩;refine⟨_,rfl,a,_,rfl,ha,rfl,_,_,rfl,_,_,rfl,rfl,?_⟩;refine⟨_,rfl,xc,c,rfl,hc,wc,λH1 s1=>⟨_,rfl,?_⟩⟩;cases hcw:L.whsD c with
    |false=>exact aW rfl (aW rfl (no H1 s1 λ⟨s,t,z,e,_⟩=>by rw[e,show L.whsD (uO s)=true from aJC _] at hcw;cases hcw))
    |true=>
     obtain⟨ns,rfl⟩:=aDm hcw;obtain⟨p,us,rfl,hp,hLp⟩:=id hc;obtain rfl:=hLp.of_ints;refine bB rfl ⟨_,rfl,_,rfl,n,rfl,n1,n6,λF ys H2 s2 _ hF rF=>?_⟩;have s12:=s1.trans s2;refine .inr ⟨p,F,ns,ys,nN (bP n),rfl,rfl,s12.tup hp,.inl (.of hF),rF,_,rfl,?_⟩;by_cases hm:ns∈nN (bP n)
     ·refine bB (by rw[At hm];rfl) ?_;obtain⟨s,hs,rfl⟩:=cw.mp hm;refine⟨_,rfl,xf,f,rfl,hf.same s12,wf,λH3 b s3 hb=>⟨_,rfl,?_⟩⟩;have s13:=s12.trans s3;cases b with
      |false=>
       refine aW rfl (no H3 s13 λ⟨s',t,z,_,e,_,h,_⟩=>?_);have:false=true:=hb.mpr ⟨t,z,e,h⟩;cases this
      |true=>
       obtain⟨t,z,rfl,hfr⟩:=hb.mp rfl;obtain⟨g,us2,rfl,hg,hLg⟩:=id hf;obtain rfl:=hLg.of_ints;have hg3:=s13.tup hg;have fin:∀b:Bool,(b=true↔(0<t\/(s.length=1/\t<0)))->Q (.bl b) H3:=λb hb=>q H3 b s13 (hb.trans ⟨λh=>gR.mpr ⟨s,t,z,rfl,rfl,hs,hfr,h⟩,λh=>by
        obtain⟨s',t',z',e1,e2,_,_,h⟩:=gR.mp h;obtain rfl:=iZ (eL e1);have:=eL e2;cases this;exact h⟩)
       refine bB rfl ⟨_,rfl,ixT (j:=0) hg3 rfl ⟨_,_,rfl,rfl,_,rfl,?_⟩⟩;by_cases c1:0<t
       ·exact aW (At c1) (fin true ⟨λ_=>.inl c1,λ_=>rfl⟩)
       ·refine bB (Au c1) ?_;refine⟨_,rfl,p,_,rfl,.inr (s13.tup hp),.int _,.int 1,bh _,rfl,rfl,_,rfl,?_⟩;rw[gP,af,af];by_cases c2:s.length=1
        ·refine aW (At (by lia)) ⟨_,rfl,ixT (j:=0) hg3 rfl ⟨_,_,rfl,rfl,?_⟩⟩;refine fin _ ⟨λh=>.inr ⟨c2,C0 h⟩,λh=>?_⟩;rcases h with h|h
         ·exact absurd h c1
         ·exact At h.2
        ·refine bB (Au (by lia)) (fin false ⟨λz=>(by cases z),λh=>?_⟩);rcases h with h|h
         ·exact absurd h c1
         ·exact absurd h.1 c2
     ·refine aW (by rw[Au hm];rfl) (aW rfl (no H2 s12 λ⟨s,t,z,e,_,hs,_⟩=>?_));have:=eL (ms:=s.map Int.ofNat) e;exact hm (cw.mpr ⟨s,hs,this.symm⟩)
  ·refine aW (by rw[Au (by lia)];rfl) (q H false (Same.refl _) ⟨λz=>(by cases z),λ⟨e,he,_⟩=>?_⟩);unfold ptD at he;have:=Dt.tup.inj he;rw[this] at h2;exact absurd rfl h2
section
variable {K:aa}
def acP (T:List (List Int))(n:Nat)(D:Int)(ds:List Dt)(a:Int×Int):Prop:=∃W:Cts,ds=W.map ptD/\(∀e∈W,VaC n e)/\yJ T n D W a=true
structure Li (n:Nat)(D:Int)(ds:List Dt):Prop where
 len:ds.length<=28
 bz:∀d∈ds,∀es,d=.tup es->∀c∈es,∀t z:Int,c=.tup ([t,z].map Dt.int)->z.natAbs<2^8000
 wi:∀d∈ds,∀es,d=.tup es->∀c∈es,Wi c
 dv:∀e,ptD e∈ds->VaC n e->e.2.2∣D/\e.2.1.natAbs<2^980
def VaC.pos (h:VaC n e):0<e.2.2:=by
 have h:=h.2;unfold ctB frB at h;simp only[cz,decide_eq_true_eq] at h;lia
theorem aJp:∀{n:Nat}{ds:List Dt}{bs:List Bool},bs.length=ds.length->(∀i,i<ds.length->(bs.getD i false=true↔aGT n (ds.getD i .non)))->(bs.all id=true->∃W:Cts,ds=W.map ptD/\∀e∈W,VaC n e)/\(bs.all id=false->¬ ∃W:Cts,ds=W.map ptD/\∀e∈W,VaC n e)
 |n,[],[],_,_=>⟨λ_=>⟨[],rfl,λe he=>by cases he⟩,λh=>by cases h⟩
 |n,[],_::_,h,_=>by cases h
 |n,_::_,[],h,_=>by cases h
 |n,d::ds,b::bs,hl,h=>by
  obtain⟨i1,i2⟩:=aJp (n:=n) (ds:=ds) (bs:=bs) (by simpa using hl) λi hi=>h (i+1) (by rw[c5];lia);have h0:=h 0 (by rw[c5];lia);have h0:b=true↔aGT n d:=h0;rw[pf];refine⟨λz=>?_,λz=>?_⟩
  ·rw[cz] at z;obtain⟨W,rfl,hW⟩:=i1 z.2;obtain⟨e,rfl,he⟩:=h0.mp z.1;exact⟨e::W,rfl,λx hx=>(b8.mp hx).elim (λz=>z▸he) (hW x)⟩
  ·rintro⟨W,e,hW⟩;cases W with
   |nil=>cases e
   |cons w W=>
    obtain⟨e1,e2⟩:=fj e;have hb:b=true:=h0.mpr ⟨w,e1,hW w (by simp)⟩;rw[hb,show id true=true from rfl,nv] at z;exact i2 z ⟨W,e2,λx hx=>hW x (bq _ hx)⟩
def aQj (h:Sh K H (ptD e) v):∃b,v=.ref b/\Pt K H b (e.1.map Int.ofNat,e.2):=by
 obtain⟨b,xs,rfl,hb,x1,r1,rfl,h1,x2,r2,rfl,h2,rfl⟩:=h;obtain⟨q,us,rfl,hq,hLq⟩:=h1;obtain⟨f,ws,rfl,hf,hLf⟩:=h2;obtain rfl:=hLq.of_ints;obtain rfl:=hLf.of_ints;exact⟨b,rfl,q,f,hb,hq,hf⟩
def aCn (h:ShL K H (W.map ptD) ys):bQ K H ys (cG W):=by
 have hl:=h.length;refine⟨by rw[<- hl];unfold cG;rw[af,af],λi e he=>?_⟩;unfold cG at he;rw[bp] at he;obtain⟨w,hw,rfl⟩:=il.mp he;obtain⟨x,hx,hs⟩:=h.get (j:=i) (d:=ptD w) (by rw[bp,hw];rfl);obtain⟨b,rfl,hb⟩:=aQj hs;exact⟨b,hx,hb⟩
def aLa:∀(e:List Nat×(Int×Int)) (c d:ww) (G:Hp),SqT K G c (e.1.map cB)->SqT K G d [.int e.2.1,.int e.2.2]->∃u,[V.ref c,.ref d][0]?=some (.ref u)/\SqT K G u ((e.1.map Int.ofNat).map V.int):=λe c d G h _=>⟨c,rfl,by rw[<- cC];exact h⟩
def aJc:∀(e:List Nat×(Int×Int)) (c d:ww) (G:Hp),SqT K G c (e.1.map cB)->SqT K G d [.int e.2.1,.int e.2.2]->∃u,[V.ref c,.ref d][1]?=some (.ref u)/\SqT K G u ([e.2.1,e.2.2].map V.int):=λe c d G _ h=>⟨d,rfl,h⟩
def aGP {W:Cts}:nN (W.map (·.1))=W.map λe=>e.1.map Int.ofNat:=by unfold nN;rw[fg];rfl
def aAf {W:Cts}:prI (W.map (·.2))=W.map λe=>[e.2.1,e.2.2]:=by unfold prI;rw[fg];rfl
section
variable {H:Hp}{a B:ww}{ys:List V}{W:Cts}{D:xX}{j:Nat}{f:List Nat×(Int×Int)->List Int}(hf:∀(e:List Nat×(Int×Int)) (c d:ww) (G:Hp),SqT K G c (e.1.map cB)->SqT K G d [.int e.2.1,.int e.2.2]->∃u,[V.ref c,.ref d][j]?=some (.ref u)/\SqT K G u ((f e).map V.int))(ha:H a=some (.lst ys))(rW:bQ K H ys (cG W))(hz:W.length<=60)(hB:H B=none)(q:∀σ' zs H',Same H H'->H' B=some (.lst zs)->Rows K H' zs (W.map f)->D.nx σ' H')
include hf ha rW hz hB q
def aLg:dP (Itl K a) (aE 0) (bG (tOp (aN K) (aC 0) (tC (.int (j:Int)))) B) D [none] (upd H B (.lst [])):=by
 have yl:ys.length=W.length:=by rw[rW.1];unfold cG;rw[af]
 refine aX (K:=K) (a:=a) (xs:=ys) (λi σ' H'=>i<=ys.length/\Same H H'/\(∃x0,σ'=[x0])/\∃zs,H' B=some (.lst zs)/\Rows K H' zs ((W.take i).map f)) ⟨bh _,aD hB _,⟨_,rfl⟩,[],aB,Rows.nil⟩ (λi σ3 H3 _ ⟨_,s3,_⟩=>.of (s3 _ _ ha)) (λi x' σ3 H3 hx ⟨_,s3,⟨x0,es⟩,zs,hB3,r3⟩=>?_) λσ3 H3 ⟨_,s3,_,zs,hB3,r3⟩=>q _ zs H3 s3 hB3 (by rw[yl,gn] at r3;exact r3);subst es;have hi:i<ys.length:=(ai.mp hx).1;obtain⟨e,b,c,d,he,rfl,hb,hc,hd⟩:=sY (K:=K) (H:=H3) (bA rW λb e=>Pt.same s3) hx;obtain⟨u,hu,hU⟩:=hf e c d H3 hc hd;refine⟨_,rfl,ixT hb hu ⟨zs,hB3,bj (show zs.length<=100 by rw[r3.1,af,dj];lia) (by decide),hi,bO hB s3,⟨_,rfl⟩,_,aB,?_⟩⟩;rw[aDu _ he];exact Rows.put (Rows.snoc r3 (b:=u) hU) hB3
def aIl:dP (Itl K a) (jG K 2 (bE (aE 0) (bE (aE 1) jU))) (bG (aC j) B) D [none,none] (upd H B (.lst [])):=by
 have yl:ys.length=W.length:=by rw[rW.1];unfold cG;rw[af]
 refine aX (K:=K) (a:=a) (xs:=ys) (λi σ' H'=>i<=ys.length/\Same H H'/\(∃x0 x1,σ'=[x0,x1])/\∃zs,H' B=some (.lst zs)/\Rows K H' zs ((W.take i).map f)) ⟨bh _,aD hB _,⟨_,_,rfl⟩,[],aB,Rows.nil⟩ (λi σ3 H3 _ ⟨_,s3,_⟩=>.of (s3 _ _ ha)) (λi x' σ3 H3 hx ⟨_,s3,⟨x0,x1,es⟩,zs,hB3,r3⟩=>?_) λσ3 H3 ⟨_,s3,_,zs,hB3,r3⟩=>q _ zs H3 s3 hB3 (by rw[yl,gn] at r3;exact r3);subst es;have hi:i<ys.length:=(ai.mp hx).1;obtain⟨e,b,c,d,he,rfl,hb,hc,hd⟩:=sY (K:=K) (H:=H3) (bA rW λb e=>Pt.same s3) hx;obtain⟨u,hu,hU⟩:=hf e c d H3 hc hd;refine⟨b,_,rfl,hb,rfl,_,_,rfl,_,_,rfl,rfl,?_⟩;refine⟨_,show([some (.ref c),some (.ref d)]:St)[j]?=some (some (.ref u)) from ?_,zs,hB3,bj (show zs.length<=100 by rw[r3.1,af,dj];lia) (by decide),hi,bO hB s3,⟨_,_,rfl⟩,_,aB,?_⟩
 ·match j,hu with
  |0,hu=>cases hu;rfl
  |1,hu=>cases hu;rfl
 rw[aDu _ he];exact Rows.put (Rows.snoc r3 (b:=u) hU) hB3
end
def aMk (K:aa):Sp:=λvs H Q E=>∃(v:V) (l w:ww) (T:List (List Int)) (n:Nat) (a:Int×Int) (ys:List V) (ds:List Dt) (D:Int),vs=[v,.ref l,.ref w]/\Sh K H (xI T) v/\Quad T n/\3<=n/\n<=6/\Sy T n/\Bs T n/\Fr K H w a.1 a.2/\H l=some (.lst ys)/\ShL K H ds ys/\Li n D ds/\0<D/\D.natAbs<2^1000/\∀H' (b:Bool),Same H H'->(b=true↔acP T n D ds a)->Q (.bl b) H'
def aMu (hT2:∀H:Hp,Fr K H C2' 2 1):∀vs H Q E,aMk K vs H Q E->xK K C2' E (aPs K) (aQR K) (aRl K) (aOz K) (aRt K) (aOd K) (wM K) (aQq K C1 C2 C3) {nx:=λ_ H'=>Q .non H',rt:=Q} (bC ["table","some","worth","many"] vs) H:=by
 intro vs H Q E h;obtain⟨v,l,w,T,n,a,ys,ds,D,rfl,hT,qT,n3,n6,sy,bT,hw,hl,hL,li,D0,Db,q0⟩:=h;have n1:1<=n:=by lia
 have n8:n<=8:=by lia
 refine⟨_,rfl,v,T,n,rfl,hT,qT,n1,n8,?_⟩;refine .inr ⟨sy,.inr (.inr ⟨n3,n6,λH1 s1=>?_⟩)⟩;obtain⟨ta,rs,rfl,ha,hrl,_⟩:=id hT.tab;have hrl:rs.length=n:=hrl.trans qT.len;refine⟨_,rfl,ta,rs,rfl,.inr (s1.tup ha),?_⟩;rw[hrl];refine⟨_,rfl,l,rfl,.inl ⟨⟨_,.of (s1 _ _ hl)⟩,λA hA=>?_⟩⟩;have hv:∀H',SameX A (upd H1 A (.lst [])) H'->Same H1 H':=λH' sx=>cE hA sx;have ydl:ds.length=ys.length:=hL.length;have lil:=li.len;have key:∃bs:List Bool,bs.length=ds.length/\(∀i,i<ds.length->(bs.getD i false=true↔aGT n (ds.getD i .non))):=by
  refine⟨ds.map λd=>@decide (aGT n d) (za _),by rw[af],λi hi=>?_⟩;rw[ak,bp,ak,ah hi];exact @decide_eq_true_iff _ (za _)
 obtain⟨bs,bl,hbs⟩:=key;obtain⟨ok1,ok2⟩:=aJp bl hbs;have bsl:bs.length=ys.length:=bl.trans ydl;refine bW [0] (bs.map V.bl) hA (by rw[af];lia) (Emits.cast (tI (K:=K) (a:=l) (xs:=ys) (j:=0) (L:=λi=>[V.bl (bs.getD i false)]) (by decide) (by show 0<2;decide) (λH' sx=>.of (hv H' sx _ _ (s1 _ _ hl))) λi x' σ2 H2 hx l2 ag2 t0 sx2 _=>?_) (by rw[<- bsl];exact L.flat_get V.bl false bs)) λσ2 H2 s2 hA2=>?_
 ·have t1:σ2[1]?=some (some (.int (n:Int))):=(ag2 1 (by decide)).trans rfl;have hi:i<ds.length:=by rw[ydl];exact(ai.mp hx).1
  have hd:ds[i]?=some (ds.getD i .non):=by rw[ak,ah hi];rfl
  obtain⟨y,hy,sy'⟩:=hL.get hd;obtain rfl:y=x':=by rw[hx] at hy;cases hy;rfl
  refine cU λR hR=>⟨_,t1,_,t0,n,y,ds.getD i .non,rfl,n1,n6,sy'.same (s1.trans (hv _ sx2)),li.wi _ (au hd),λH3 b s3 hb=>?_⟩;have:bs.getD i false=b:=AF.mpr ((hbs i hi).trans hb.symm);rw[<- this];exact hR H3 s3
 refine⟨A,bs,rfl,.inl (.of hA2),_,rfl,?_⟩;cases hall:bs.all id with
 |false=>
  refine aW rfl (aW rfl (q0 H2 false (s1.trans s2) ⟨λz=>(by cases z),λ⟨W,e,hW,_⟩=>absurd ⟨W,e,hW⟩ (ok2 hall)⟩))
 |true=>
 obtain⟨W,rfl,hW⟩:=ok1 hall;have rW:bQ K H ys (cG W):=aCn hL;have z:W.length<=60:=by rw[af] at lil;lia
 have dvW:∀e∈W,e.2.2∣D/\e.2.1.natAbs<2^980:=λe he=>li.dv e (cw.mpr ⟨e,he,rfl⟩) (hW e he);have okW:∀e∈W,e.1∈bP n/\ctB e.1 e.2.1 e.2.2=true:=hW;have okd:OkD D (W.map (·.2)):=λx hx=>by
  obtain⟨e,he,rfl⟩:=cw.mp hx;exact⟨(hW e he).pos,(dvW e he).1,av (dvW e he).2 C6⟩
 have tb:∀e∈W,e.2.1.natAbs<2^980:=λe he=>(dvW e he).2;have q:∀H',Same H H'->Q (.bl (yJ T n D W a)) H':=λH' s=>q0 H' _ s ⟨λh=>⟨W,rfl,hW,h⟩,λ⟨W',e,_,h⟩=>by rw[aCH e];exact h⟩;have D2:D.natAbs<2^2000:=av Db C6;have yl:ys.length=W.length:=by rw[rW.1];unfold cG;rw[af]
 refine bB rfl ?_;have s12:=s1.trans s2;refine⟨_,rfl,l,rfl,.inl ⟨⟨_,.of (s12 _ _ hl)⟩,λB hB=>aLg (j:=0) aLa (s12 _ _ hl) (bA rW λb e=>Pt.same s12) z hB λσ3 zs H3 s3 hB3 r3=>?_⟩⟩;rw[<- aGP] at r3;have s13:=s12.trans s3;refine⟨B,zs,nN (W.map (·.1)),rfl,hB3,r3,by rw[cO,af];lia,λH4 s4=>⟨_,rfl,?_⟩⟩;have s14:=s13.trans s4;cases c1:(aKn (nN (W.map (·.1)))).all id with
 |false=>
  refine aW rfl ?_;have:=q H4 s14;unfold yJ at this;rw[c1,uf] at this;exact this
 |true=>
 refine bB rfl ⟨_,rfl,n,rfl,n8,λF6 us H6 s6 _ hF6 r6=>⟨F6,rfl,.inl ⟨⟨_,.of hF6⟩,λA6 hA6=>?_⟩⟩⟩;have ul:us.length=(cA n).length:=by rw[r6.1,gN]
 have s16:=s14.trans s6;have hv6:∀H',SameX A6 (upd H6 A6 (.lst [])) H'->Same H6 H':=λH' sx=>cE hA6 sx;have pij:=(qP n3 n6).2.2.2.1;refine bW [0,1] (((cA n).map (aEN T D W)).map V.bl) hA6 (by rw[af,af];have:=aAz n8;lia) (Emits.cast (oF (K:=K) (a:=F6) (xs:=us) (L:=λi=>[V.bl (aEN T D W ((cA n).getD i (0,0)))]) (λH' sx=>.of (hv6 H' sx _ _ hF6)) λi x' σ7 H7 hx l7 ag7 sx7=>?_) (by rw[aAD,fg,ul];exact(aNi (cA n) (0,0) (λe=>V.bl (aEN T D W e))).symm)) λσ7 H7 s7 hA7=>?_
 ·obtain⟨e,b,he,rfl,hb⟩:=sN (r6.same (hv6 _ sx7)) hx;rw[fB he];obtain⟨g1,g2⟩:=pij e (au he);have l4:σ7.length=4:=l7;refine⟨(σ7.set 0 (some (cB e.1))).set 1 (some (cB e.2)),by rw[dw,dw];exact l7,(ag7.trans (Agree.set (by decide) _)).trans (Agree.set (by decide) _),λNn hN=>⟨b,_,rfl,hb,rfl,_,_,rfl,_,_,rfl,rfl,hN⟩,cU λR hR=>?_⟩;have t0:((σ7.set 0 (some (cB e.1))).set 1 (some (cB e.2)))[0]?=some (some (cB e.1)):=by rw[fk (by decide)];exact gG (by lia)
  have t1:((σ7.set 0 (some (cB e.1))).set 1 (some (cB e.2)))[1]?=some (some (cB e.2)):=gG (by rw[dw];lia);have tk:∀k,2<=k->((σ7.set 0 (some (cB e.1))).set 1 (some (cB e.2)))[k]?=σ7[k]?:=λk hk=>by rw[fk (by lia),fk (by lia)]
  have t2:=(tk 2 (by decide)).trans ((ag7 2 (by decide)).trans (show _=some (some (V.ref ta)) from rfl));have t3:=(tk 3 (by decide)).trans ((ag7 3 (by decide)).trans (show _=some (some (V.ref l)) from rfl));have sA:=s16.trans (hv6 _ sx7);refine tQ (t:=2) (si:=0) (sj:=1) (i:=e.1) (j:=e.2) t2 t0 t1 (hT.same sA) qT (by lia) g2 ⟨C9,λu hu=>?_⟩;have mu:=aD hu (.tup [V.int (at2 T e.1 e.2),.int 1]);have sB:=sA.trans mu;refine⟨_,t3,_,t0,_,t1,l,ys,W,e.1,e.2,D,rfl,sB _ _ hl,bA rW λb e=>Pt.same sB,z,okd,D0,D2,λp H8 s8 hp=>?_⟩;have ok2:OkD D (zJ e.1 e.2 W):=aCa okd λx hx=>by
   obtain⟨x',hx',rfl⟩:=cw.mp hx;exact cw.mpr ⟨x',(gr.mp hx').1,rfl⟩
  have sb:=aAy D0 D2 ok2 (by unfold zJ;rw[af];have:=dy (λx:List Nat×(Int×Int)=>prt x.1 e.1 e.2) W;lia);have wb:=bT e.1 e.2 (by lia) g2;exact⟨u,p,_,1,_,_,rfl,s8.tup (.of aB),.of hp,up8 (k:=20) (by lia) (by decide),up8 (k:=2) (by decide) (by decide),up8 (eD D0 sb) (by decide),up8 (vC D0 D2) (by decide),hR _ (mu.trans s8)⟩
 have s17:=s16.trans s7;refine⟨A6,(cA n).map (aEN T D W),rfl,.inl (.of hA7),_,rfl,?_⟩;rw[BR];show if((cA n).any (aEN T D W))=true then _ else _;cases c3:(cA n).any (aEN T D W) with
 |true=>
  refine aW rfl ?_;have:=q H7 s17;unfold yJ at this;rw[c1,c3,nv] at this;exact this
 |false=>
 refine bB rfl ⟨_,rfl,l,rfl,.inl ⟨⟨_,.of (s17 _ _ hl)⟩,λB8 hB8=>aIl (j:=1) aJc (s17 _ _ hl) (bA rW λb e=>Pt.same s17) z hB8 λσ8 us2 H8 s8 hB9 r9=>?_⟩⟩;rw[<- aAf] at r9;refine⟨B8,us2,W.map (·.2),D,rfl,hB9,r9,okd,by rw[af];lia,D0,D2,λp H9 s9 hp=>?_⟩;have s18:=(s17.trans s8).trans s9;have sb:(eM D (W.map (·.2))).natAbs<2^(7+(980+1000)):=jI D0 Db (λx hx=>by
  obtain⟨e,he,rfl⟩:=cw.mp hx;exact⟨(okd e.2 hx).1,tb e he⟩) (by rw[af];lia)
 have t1:(lo (eM D (W.map (·.2))) D).1.natAbs<2^2000:=av (eD D0 sb) C6;have two:∀k:Nat,2<=k->(2:Int).natAbs<2^k/\(1:Int).natAbs<2^k:=λk hk=>⟨av (show 2<2^2 by decide) (az (by decide) hk),av (show 1<2^2 by decide) (az (by decide) hk)⟩;refine⟨C2',p,2,1,_,_,rfl,hT2 H9,.of hp,(two 2000 (by decide)).1,(two 2000 (by decide)).2,t1,vC D0 D2,by decide,iW D0,λp2 H10 s10 hp2=>⟨_,rfl,?_⟩⟩;have s19:=s18.trans s10;refine⟨.tup ([(aFp D W).1,(aFp D W).2].map Dt.int),.tup ([a.1,a.2].map Dt.int),eE _,⟨p2,_,rfl,.of hp2,ShL.ints [(aFp D W).1,(aFp D W).2]⟩,⟨w,_,rfl,s19.tup hw,ShL.ints [a.1,a.2]⟩,?_⟩;rw[kJ];have:=q H10 s19;unfold yJ at this;rw[c1,c3,nv] at this;exact this
end
def aLh:∀n,3<=n->n<=6->((bc n).all λj=>(bc j).all λi=>decide ((i,j)∈cA n))=true:=n36 (by decide+kernel) (by decide+kernel) (by decide+kernel) (by decide+kernel)
def aKe (n3:3<=n)(n6:n<=6)(hij:i<j)(hj:j<n):(i,j)∈cA n:=C0 (dk.mp (dk.mp (aLh n n3 n6) j (fc.mpr hj)) i (fc.mpr hij))
theorem yC:∀(n:Nat) (s:List Nat),s.Pairwise (· < ·)->(∀x∈s,x<n)->s∈bS n
 |0,s,_,h=>by
  cases s with
  |nil=>exact br.mpr rfl
  |cons a s=>exact absurd (h a (by simp)) (i5 _)
 |n+1,s,hp,h=>by
  have e:bS (n+1)=bS n++(bS n).map (· ++ [n]):=rfl;rw[e];by_cases c:n∈s
  ·refine du _ ?_;obtain⟨a,b,rfl⟩:=List.append_of_mem c;obtain⟨p1,p2,p3⟩:=my.mp hp;have hb:b=[]:=by
    cases b with
    |nil=>rfl
    |cons x b=>
     have h1:=(mi.mp p2).1 x (by simp);have h2:=h x (by simp);lia
   subst hb;exact cw.mpr ⟨a,yC n a p1 λx hx=>p3 x hx n (by simp),rfl⟩
  ·refine j3 _ (yC n s hp λx hx=>?_);have:=h x hx;have:x≠n:=λz=>c (z▸hx);lia
def aDN (n3:3<=n)(n6:n<=6)(hp:s.Pairwise (· < ·))(h:∀x∈s,x<n)(h0:0<s.length)(h1:s.length<n):s∈bP n:=by
 rw[<- C0 (aKk n n3 n6),gr];refine⟨yC n s hp h,?_⟩;unfold wZ;rw[At h0,At h1];rfl
theorem aDp:∀{ds:List Dt},(∀j,j<ds.length->∃k:Nat,k<n/\ds[j]?=some (.int (k:Int)))->∃s:List Nat,ds=(s.map Int.ofNat).map Dt.int/\∀x∈s,x<n
 |[],_=>⟨[],rfl,λx hx=>by cases hx⟩
 |d::ds,h=>by
  obtain⟨k,hk,e⟩:=h 0 (by simp);obtain⟨s,e2,h2⟩:=aDp (ds:=ds) λj hj=>h (j+1) (by simpa using hj);refine⟨k::s,?_,λx hx=>(b8.mp hx).elim (λz=>z▸hk) (h2 x)⟩;rw[e2,show d=.int (k:Int) from cf e];rfl
def aRm (K:aa):Sp:=λvs H Q _=>∃(v:V) (d:Dt),vs=[v]/\Sh K H d v/\(∀t z:Int,d=.tup ([t,z].map Dt.int)->z.natAbs<2^8000)/\∀H' (b:Bool),Same H H'->(b=true↔frP d)->Q (.bl b) H'
def aPx:qQ1 (aRm K) (fH K (qO K) (L.spW K)) ["thing"]:=by
 intro vs H Q E h;obtain⟨v,d,rfl,hS,hz,q⟩:=h;have no:¬frP d->∀H',Same H H'->Q (.bl false) H':=λn H' s=>q H' false s ⟨λz=>(by cases z),λz=>absurd z n⟩;refine⟨_,rfl,v,d,"tuple",rfl,by decide,hS,_,rfl,?_⟩;cases hi:aBU d "tuple" with
 |false=>exact aW rfl (aW rfl (no (λ⟨t,z,e,_⟩=>by rw[e] at hi;cases hi) H (Same.refl _)))
 |true=>
  obtain⟨ds,rfl⟩:∃ds,d=.tup ds:=by
   cases d with
   |tup ds=>exact⟨ds,rfl⟩
   |_=>exact absurd hi (by simp[aBU])
  obtain⟨a,xs,rfl,ha,hL⟩:=id hS;have hl:=hL.length;refine bB rfl ⟨_,rfl,a,xs,rfl,.inr ha,.int _,.int 2,bh _,rfl,rfl,_,rfl,?_⟩;rw[gP];by_cases h2:ds.length=2
  ·refine bB (by rw[At (by lia)];rfl) ?_
   match ds,h2,hL,hz,q,no with
   |[c,f],_,hL,hz,q,no=>
    obtain⟨xc,r,rfl,hc,xf,r2,rfl,hf,rfl⟩:=hL;refine⟨_,rfl,ixT (j:=0) ha rfl ⟨xc,c,rfl,hc,λH1 s1=>⟨_,rfl,?_⟩⟩⟩;cases hwc:L.whD c with
    |false=>exact aW rfl (aW rfl (no (λ⟨t,z,e,_⟩=>by
      have e:=(fj (Dt.tup.inj e)).1;rw[e] at hwc;cases hwc) H1 s1))
    |true=>
    obtain⟨t,rfl⟩:∃t,c=.int t:=by
     cases c with
     |int t=>exact⟨t,rfl⟩
     |_=>exact absurd hwc (by simp[L.whD])
    refine bB rfl ⟨_,rfl,ixT (j:=1) (s1.tup ha) rfl ⟨xf,f,rfl,hf.same s1,λH2 s2=>⟨_,rfl,?_⟩⟩⟩;have s12:=s1.trans s2;cases hwf:L.whD f with
    |false=>exact aW rfl (aW rfl (no (λ⟨t',z,e,_⟩=>by
      have e:=(fj (fj (Dt.tup.inj e)).2).1;rw[e] at hwf;cases hwf) H2 s12))
    |true=>
    obtain⟨z,rfl⟩:∃z,f=.int z:=by
     cases f with
     |int z=>exact⟨z,rfl⟩
     |_=>exact absurd hwf (by simp[L.whD])
    have ec:xc=.int t:=hc;have ef:xf=.int z:=hf;subst ec ef;have ha2:=s12.tup ha;have fr:frP (.tup [.int t,.int z])↔frB t z=true:=⟨λ⟨t',z',e,h⟩=>by
     have:=eL (ns:=[t,z]) e;cases this;exact h,λh=>⟨t,z,rfl,h⟩⟩
    refine bB rfl ⟨_,rfl,ixT (j:=1) ha2 rfl ⟨_,_,rfl,rfl,_,rfl,?_⟩⟩;by_cases c1:z<1
    ·refine aW (At c1) (no (λz'=>?_) H2 s12);have:=fr.mp z';unfold frB at this;rw[Au (show ¬(1<=z) by lia),uf] at this;cases this
    ·refine bB (Au c1) ?_;refine⟨_,rfl,ixT (j:=0) ha2 rfl ⟨_,rfl,ixT (j:=1) ha2 rfl ⟨t,z,rfl,by lia,hz t z rfl,λp H3 s3 hp=>?_⟩⟩⟩;refine⟨_,rfl,.tup ([t / gd t z,z / gd t z].map Dt.int),.tup ([t,z].map Dt.int),eE _,⟨p,_,rfl,.of hp,ShL.ints [t / gd t z,z / gd t z]⟩,⟨a,_,rfl,s3.tup ha2,ShL.ints [t,z]⟩,?_⟩;rw[kJ];refine q H3 _ (s12.trans s3) ((Iff.trans ?_ fr.symm));rw[decide_eq_true_eq];unfold frB;rw[At (show 1<=z by lia),nv,decide_eq_true_eq];constructor
     ·intro e;have e2:z / gd t z=z:=(fj (fj e).2).1;obtain⟨_,r2,_,_⟩:=jY (i:=t) (j:=z) (by lia);rw[e2] at r2;have:(gd t z-1)*z=0:=by rw[Int.sub_mul,<- r2];lia
      rcases AE.mp this with h|h<;>lia
     ·intro e;rw[e,BI,BI]
  ·refine aW (by rw[Au (by lia)];rfl) (no (λ⟨t,z,e,_⟩=>?_) H (Same.refl _));have:=Dt.tup.inj e;rw[this] at h2;exact absurd rfl h2
def sdP (n:Nat)(d:Dt):Prop:=∃s∈bP n,d=uO s
def aQL (K:aa):Sp:=λvs H Q _=>∃(n:Nat) (v:V) (d:Dt),vs=[.int (n:Int),v]/\3<=n/\n<=6/\Sh K H d v/\∀H' (b:Bool),Same H H'->(b=true↔sdP n d)->Q (.bl b) H'
def aQe:qQ1 (aQL K) (iL K (L.spW K)) ["many","some","place"]:=by
 intro vs H Q E h;obtain⟨n,v,d,rfl,n3,n6,hS,q⟩:=h;have no:¬sdP n d->∀H',Same H H'->Q (.bl false) H':=λn H' s=>q H' false s ⟨λz=>(by cases z),λz=>absurd z n⟩;refine⟨_,rfl,v,d,"tuple",rfl,by decide,hS,_,rfl,?_⟩;cases hi:aBU d "tuple" with
 |false=>exact aW rfl (aW rfl (no (λ⟨s,_,e⟩=>by rw[e] at hi;cases hi) H (Same.refl _)))
 |true=>
 obtain⟨ds,rfl⟩:∃ds,d=.tup ds:=by
  cases d with
  |tup ds=>exact⟨ds,rfl⟩
  |_=>exact absurd hi (by simp[aBU])
 obtain⟨p,xs,rfl,hp,hL⟩:=id hS;have hl:=hL.length;have len:∀s,.tup ds=uO s->ds.length=s.length:=λs e=>by
  have:=Dt.tup.inj e;rw[this,af,af]
 refine bB rfl ⟨_,rfl,p,xs,rfl,.inr hp,_,_,rfl,rfl,_,rfl,?_⟩;by_cases c0:0<ds.length;rotate_left
 ·refine bB (Au (by lia)) ⟨_,rfl,aW rfl (no (λ⟨s,hs,e⟩=>?_) H (Same.refl _))⟩;have:=(rT n3 n6 hs).1;have:=len s e;lia
 refine aW (At (by lia)) ⟨_,rfl,_,_,rfl,rfl,_,rfl,?_⟩;by_cases cn:ds.length<n;rotate_left
 ·refine aW (by rw[Au (by lia)];rfl) (no (λ⟨s,hs,e⟩=>?_) H (Same.refl _));have:=(rT n3 n6 hs).2;have:=len s e;lia
 refine bB (by rw[At (by lia)];rfl) ?_;refine⟨_,rfl,p,rfl,.inr ⟨⟨_,hp⟩,?_⟩⟩;refine yX (K:=K) (a:=p) (xs:=xs) (λi σ' H'=>Same H H'/\(∃x2,σ'=[some (.int (n:Int)),some (.ref p),x2])/\∀j,j<i->∃k:Nat,k<n/\ds[j]?=some (.int (k:Int))) ⟨Same.refl _,⟨_,rfl⟩,λj hj=>absurd hj (i5 _)⟩ (λi σ1 H1 _ ⟨s1,_⟩=>s1.tup hp) (λi x σ1 H1 hx ⟨s1,⟨x2,es⟩,hj⟩=>?_) λσ1 H1 ⟨s1,⟨x2,es⟩,hj⟩=>?_
 ·subst es;have hi':i<ds.length:=by rw[hl];exact(ai.mp hx).1
  have hd:ds[i]?=some ds[i]:=ah hi';generalize ds[i]=e at hd;obtain⟨y,hy,sy⟩:=hL.get hd;obtain rfl:y=x:=by rw[hx] at hy;cases hy;rfl
  have bad:(∀k:Nat,k<n->e≠.int (k:Int))->¬sdP n (.tup ds):=λhk ⟨s,hs,es⟩=>by
   have es:=Dt.tup.inj es;rw[es,bp,bp] at hd;obtain⟨u,hu,rfl⟩:=il.mp hd;obtain⟨k,hk',rfl⟩:=il.mp hu;exact hk k ((fG hs).2 k (au hk')) rfl
  refine⟨_,rfl,y,e,rfl,sy.same s1,λH2 s2=>⟨_,rfl,?_⟩⟩;have s12:=s1.trans s2;cases hw:L.whD e with
  |false=>exact aW rfl (aW rfl (no (bad λk _ z=>by rw[z] at hw;cases hw) H2 s12))
  |true=>
  obtain⟨m,rfl⟩:∃m,e=.int m:=by
   cases e with
   |int m=>exact⟨m,rfl⟩
   |_=>exact absurd hw (by simp[L.whD])
  have ey:y=.int m:=sy;subst ey;refine bB rfl ⟨_,rfl,_,_,rfl,rfl,_,rfl,?_⟩;by_cases m0:0<=m;rotate_left
  ·exact bB (Au m0) ⟨_,rfl,aW rfl (no (bad λk _ z=>m0 (by rw[Dt.int.inj z];lia)) H2 s12)⟩
  refine aW (At m0) ⟨_,rfl,_,_,rfl,rfl,_,rfl,?_⟩;by_cases mn:m<(n:Int);rotate_left
  ·exact aW (by rw[Au mn];rfl) (no (bad λk hk z=>mn (by rw[Dt.int.inj z];lia)) H2 s12)
  refine bB (by rw[At mn];rfl) ⟨s12,⟨_,rfl⟩,λj hj'=>?_⟩;by_cases cj:j<i
  ·exact hj j cj
  ·obtain rfl:j=i:=by lia
   exact⟨m.toNat,by lia,by rw[hd,Int.toNat_of_nonneg m0]⟩
 subst es;obtain⟨s,es,hsn⟩:=aDp (n:=n) λj hj'=>hj j (by rw[<- hl];exact hj');subst es;obtain rfl:=hL.of_ints;rw[af,af] at c0 cn;have hp:SqT K H p (s.map cB):=by rw[cC];exact hp
 have hp1:=s1.tup hp;refine⟨_,rfl,.inl ⟨p,_,rfl,.inr hp1,λl hl=>?_⟩⟩;have ml:=aD hl (.lst (s.map cB));refine⟨_,rfl,p,s,rfl,ml.tup hp1,λk hk=>by have:=hsn k hk;lia,λks kp km H2 s2 l2 hl2=>?_⟩;have m2:=aD hl2 (.lst (zK ks));have hl3:=m2 _ _ (s2 _ _ (show(upd H1 l (.lst (s.map cB))) l=_ from aB));refine⟨.lst ((s.map Int.ofNat).map Dt.int),.lst ((ks.map Int.ofNat).map Dt.int),?_,⟨l,_,rfl,.of (by rw[hl3,cC]),ShL.ints _⟩,⟨l2,_,rfl,.of (by rw[aB];unfold zK;rw[fg];rfl),ShL.ints _⟩,?_⟩
 ·exact(eE (s.map Int.ofNat):dep (.tup ((s.map Int.ofNat).map Dt.int))<=100)
 ·have ed:eqD (.lst ((s.map Int.ofNat).map Dt.int)) (.lst ((ks.map Int.ofNat).map Dt.int))=decide (s.map Int.ofNat=ks.map Int.ofNat):=by rw[eqD];exact aGw
  rw[ed];refine q _ _ (((s1.trans ml).trans s2).trans m2) ?_;rw[decide_eq_true_eq];constructor
  ·intro e;have e:=iZ e;rw[<- e] at kp;exact⟨s,aDN n3 n6 kp hsn c0 cn,rfl⟩
  ·rintro⟨s',hs',e⟩;obtain rfl:=iZ (eL e);have nd1:ks.Nodup:=kp.imp λ{a b} z e=>by lia
   have nd2:s.Nodup:=(aAm hs').imp λ{a b} z e=>by lia
   rw[rh (le:=(· < ·)) (λa b _ _ x y=>by lia) kp (aAm hs') ((qd nd1 nd2).mpr km)]
theorem aAr:∀{a b c:List Int},HT.lexLt a b=true->HT.lexLt b c=true->HT.lexLt a c=true
 |[],_,[],_,h=>by
  rename_i b _;cases b<;>cases h
 |[],_,_::_,_,_=>rfl
 |_::_,[],_,h,_=>by cases h
 |_::_,_::_,[],_,h=>by cases h
 |x::a,y::b,z::c,h,g=>by
  rw[HT.lexLt_cons] at h g ⊢;by_cases c1:x=y
  ·subst c1;rw[C5 rfl] at h;by_cases c2:x=z
   ·subst c2;rw[C5 rfl] at g ⊢;exact aAr h g
   ·rw[C4 c2] at g ⊢;exact g
  ·rw[C4 c1] at h;have h:=C0 h;by_cases c2:y=z
   ·subst c2;rw[C4 c1];exact At h
   ·rw[C4 c2] at g;have g:=C0 g;rw[C4 (by lia)];exact At (by lia)
theorem aDQ:∀{R:List (List Int)},(∀i,i+1<R.length->HT.lexLt (R.getD i []) (R.getD (i+1) [])=true)->R.Pairwise λa b=>HT.lexLt a b=true
 |[],_=>.nil
 |a::R,h=>by
  have ih:=aDQ (R:=R) λi hi=>h (i+1) (by rw[c5];lia);refine mi.mpr ⟨λx hx=>?_,ih⟩;cases R with
  |nil=>cases hx
  |cons b R=>
   have h0:HT.lexLt a b=true:=h 0 (by simp);rcases b8.mp hx with rfl|hx
   ·exact h0
   ·exact aAr h0 ((mi.mp ih).1 x hx)
def aDO:(aKn R).all id=true↔R.Pairwise λa b=>HT.lexLt a b=true:=by
 refine⟨λh=>aDQ λi hi=>?_,aKp⟩;have:=dk.mp h (HT.lexLt (R.getD i []) (R.getD (i+1) [])) (cw.mpr ⟨i,fc.mpr (by lia),rfl⟩);exact this
def xT:∀{R S:List (List Int)},eqD (.lst (R.map λr=>Dt.tup (r.map Dt.int))) (.lst (S.map λr=>Dt.tup (r.map Dt.int)))=decide (R=S):=by
 have key:∀{R S:List (List Int)},eqL (R.map λr=>Dt.tup (r.map Dt.int)) (S.map λr=>Dt.tup (r.map Dt.int))=decide (R=S):=by
  intro R
  induction R with
  |nil=>
   intro S;cases S with
   |nil=>unfold List.map eqL;rfl
   |cons s S=>rw[de];unfold List.map eqL;rfl
  |cons r R ih=>
   intro S;cases S with
   |nil=>rw[de];unfold List.map eqL;rfl
   |cons s S=>
    rw[de,de,eqL,ih,kJ,<- Bool.decide_and];exact decide_eq_decide.mpr ⟨λ⟨a,b⟩=>by rw[a,b],λe=>by cases e;exact⟨rfl,rfl⟩⟩
 intro R S;rw[eqD];exact key
def aLX (D0:0<D)(W:Cts):lo (eM D (W.map (·.2)++W.map (·.2))) D=aFp D W:=by
 unfold aFp;have z:=iW (i:=eM D (W.map (·.2))) D0;refine aII D0 (by lia) ?_;obtain⟨m1,m2⟩:=aGr (i:=eM D (W.map (·.2))) D0;rw[aDK];generalize eM D (W.map (·.2))=S at *;generalize gd S D=g at *;generalize (lo S D).1=t at *;generalize (lo S D).2=y at *;subst m1 m2;rw[Bc,qy,Int.two_mul,qy,fw,fe g y,fe y g]
def aRq (K:aa):Sp:=λvs H Q _=>∃(v:V) (l w:ww) (T:List (List Int)) (n:Nat) (a:Int×Int) (ys:List V) (ds:List Dt) (D:Int),vs=[v,.ref l,.ref w]/\Sh K H (xI T) v/\Quad T n/\3<=n/\n<=6/\Bs T n/\Fr K H w a.1 a.2/\H l=some (.lst ys)/\ShL K H ds ys/\Li n D ds/\0<D/\D.natAbs<2^1000/\∀H' (b:Bool),Same H H'->(b=true↔acP T n D ds a)->Q (.bl b) H'
def aQB:qQ1 (aRq K) (iD K (aRm K) (aQL K) (aMi K) (fJ K) (wM K)) ["table","some","worth","many","thing","sides","i","j","over","paid","whole"]:=by
 intro vs H Q E hh;obtain⟨v,l,w,T,n,a,ys,ds,D,rfl,hT,qT,n3,n6,bT,hw,hl,hL,li,D0,Db,q0⟩:=hh;have db:D.natAbs<2^2000:=av Db C6;obtain⟨ta,rs,rfl,ha,hrl,_⟩:=id hT.tab;have hrl:rs.length=n:=hrl.trans qT.len;have ydl:ds.length=ys.length:=hL.length;refine⟨_,rfl,ta,rs,rfl,.inr ha,?_⟩;rw[hrl];refine⟨_,rfl,.ref l,.lst ds,"list",rfl,by decide,⟨l,ys,rfl,.of hl,hL⟩,_,rfl,bB rfl ?_⟩;refine⟨_,rfl,l,rfl,.inl ⟨⟨_,.of hl⟩,?_⟩⟩;refine aX (K:=K) (a:=l) (xs:=ys) (λi σ' H'=>Same H H'/\(∀j,j<i->∀d,ds[j]?=some d->aGT n d)/\∃x4,σ'=[some (.ref ta),some (.ref l),some (.ref w),some (.int (n:Int)),x4,none,none,none,none,none,none]) ⟨Same.refl _,λj hj=>absurd hj (i5 _),_,rfl⟩ (λi σ1 H1 _ ⟨s1,_⟩=>.of (s1 _ _ hl)) (λi x σ1 H1 hx ⟨s1,hj,x4,es⟩=>?_) λσ1 H1 ⟨s1,hj,x4,es⟩=>?_
 ·subst es;have hi:i<ds.length:=by rw[ydl];exact(ai.mp hx).1
  have hd:ds[i]?=some ds[i]:=ah hi;generalize ds[i]=d at hd;have dm:=au hd;obtain⟨y,hy,sy⟩:=hL.get hd;obtain rfl:y=x:=by rw[hx] at hy;cases hy;rfl
  have no:¬aGT n d->∀H',Same H H'->Q (.bl false) H':=λh H' s=>q0 H' false s ⟨λz=>(by cases z),λ⟨W,e,hW,_⟩=>by
   subst e;obtain⟨e,he,rfl⟩:=cw.mp dm;exact absurd ⟨e,rfl,hW e he⟩ h⟩
  refine⟨_,rfl,y,d,"tuple",rfl,by decide,sy.same s1,_,rfl,?_⟩;cases hi':aBU d "tuple" with
  |false=>exact aW rfl (aW rfl (no (λ⟨e,he,_⟩=>by rw[he] at hi';cases hi') H1 s1))
  |true=>
  obtain⟨es,rfl⟩:∃es,d=.tup es:=by
   cases d with
   |tup es=>exact⟨es,rfl⟩
   |_=>exact absurd hi' (by simp[aBU])
  obtain⟨b,us,rfl,hb,hLb⟩:=id sy;have hlb:=hLb.length;have hb1:=s1.tup hb;refine bB rfl ⟨_,rfl,b,us,rfl,.inr hb1,.int _,.int 2,bh _,rfl,rfl,_,rfl,?_⟩;rw[gP];by_cases h2:es.length=2;rotate_left
  ·refine aW (by rw[Au (by lia)];rfl) (no (λ⟨e,he,_⟩=>?_) H1 s1);unfold ptD at he;rw[Dt.tup.inj he] at h2;exact absurd rfl h2
  refine bB (by rw[At (by lia)];rfl) ?_;have bz:=li.bz _ dm _ rfl
  match es,h2,hLb,bz,no,hd with
  |[c,f],_,hLb,bz,no,hd=>
  obtain⟨xc,r,rfl,hc,xf,r2,rfl,hf,rfl⟩:=hLb;refine⟨_,rfl,_,rfl,ixT (j:=0) hb1 rfl ⟨n,xc,c,rfl,n3,n6,hc.same s1,λH2 b2 s2 hb2=>⟨_,rfl,?_⟩⟩⟩;have s12:=s1.trans s2;cases b2 with
  |false=>
   refine aW rfl (aW rfl (no (λh=>?_) H2 s12));obtain⟨s,t,z,e1,_,hs,_⟩:=gR.mp h;have:false=true:=hb2.mpr ⟨s,hs,e1⟩;cases this
  |true=>
  obtain⟨s,hs,rfl⟩:=hb2.mp rfl;refine bB rfl ⟨_,rfl,ixT (j:=1) (s12.tup hb) rfl ⟨xf,f,rfl,hf.same s12,bz f (by simp),λH3 b3 s3 hb3=>⟨_,rfl,?_⟩⟩⟩;have s13:=s12.trans s3;cases b3 with
  |false=>
   refine aW rfl (no (λh=>?_) H3 s13);obtain⟨s,t,z,_,e2,_,fr,_⟩:=gR.mp h;have:false=true:=hb3.mpr ⟨t,z,e2,fr⟩;cases this
  |true=>
  obtain⟨t,z,rfl,fr⟩:=hb3.mp rfl;obtain⟨fa,fx,rfl,hfa,hLf⟩:=id hf;obtain rfl:=hLf.of_ints;obtain⟨ca,cx,rfl,hca,hLc⟩:=id hc;obtain rfl:=hLc.of_ints;have hb3':=s13.tup hb;have hf3:=s13.tup hfa;have hc3:=s13.tup hca;have sl:=(rT n3 n6 hs).1;have uni:aGT n (.tup [uO s,.tup ([t,z].map Dt.int)])↔(0<t\/(s.length=1/\t<0)):=⟨λh=>by
   obtain⟨s',t',z',e1,e2,_,_,h⟩:=gR.mp h;obtain rfl:=iZ (eL e1);have:=eL e2;cases this;exact h,λh=>gR.mpr ⟨s,t,z,rfl,rfl,hs,fr,h⟩⟩
  have next:(0<t\/(s.length=1/\t<0))->(Same H H3/\(∀j,j<i+1->∀d,ds[j]?=some d->aGT n d)/\∃x4,([some (.ref ta),some (.ref l),some (.ref w),some (.int (n:Int)),some (.ref b),none,none,none,none,none,none]:St)=[some (.ref ta),some (.ref l),some (.ref w),some (.int (n:Int)),x4,none,none,none,none,none,none]):=λh=>⟨s13,λj hj' d' hd'=>by
   by_cases cj:j<i
   ·exact hj j cj d' hd'
   ·obtain rfl:j=i:=by lia
    rw[hd] at hd';cases hd';exact uni.mpr h,_,rfl⟩
  refine bB rfl ⟨_,rfl,ixT (j:=1) hb3' rfl (ixT (j:=0) hf3 rfl ⟨.int t,.int 0,bh _,rfl,rfl,_,rfl,?_⟩)⟩;rw[gP];by_cases t0:t=0
  ·exact aW (At t0) (aW rfl (no (λh=>by have:=uni.mp h;lia) H3 s13))
  refine bB (Au t0) ⟨_,rfl,ixT (j:=0) hb3' rfl ⟨ca,_,rfl,.inr hc3,_,_,rfl,rfl,_,rfl,?_⟩⟩;rw[af,af];by_cases c1:1<s.length
  ·refine aW (At (by lia)) ⟨_,rfl,ixT (j:=1) hb3' rfl (ixT (j:=0) hf3 rfl ⟨_,_,rfl,rfl,_,rfl,?_⟩)⟩;by_cases tn:t<0
   ·exact aW (At tn) (no (λh=>by have:=uni.mp h;lia) H3 s13)
   ·exact bB (Au tn) (next (.inl (by lia)))
  ·exact bB (Au (by lia)) (bB rfl (next (by
    by_cases tn:0<t
    ·exact .inl tn
    ·exact .inr ⟨by lia,by lia⟩)))
 subst es;have allv:∃W:Cts,ds=W.map ptD/\∀e∈W,VaC n e:=by
  have g:∀{ds:List Dt},(∀(j:Nat) (d:Dt),ds[j]?=some d->aGT n d)->∃W:Cts,ds=W.map ptD/\∀e∈W,VaC n e:=by
   intro ds
   induction ds with
   |nil=>exact λ_=>⟨[],rfl,λe he=>by cases he⟩
   |cons d ds ih=>
    intro h;obtain⟨W,rfl,hW⟩:=ih λj d hd=>h (j+1) d hd;obtain⟨e,rfl,he⟩:=h 0 d rfl;exact⟨e::W,rfl,λx hx=>(b8.mp hx).elim (λz=>z▸he) (hW x)⟩
  exact g λj d (hd:ds[j]?=some d)=>hj j (by rw[<- ydl];exact(ai.mp hd).1) d hd
 obtain⟨W,rfl,hW⟩:=allv;have rW:bQ K H ys (cG W):=aCn hL;have lil:=li.len;have wl:W.length<=28:=by rw[af] at lil;exact lil
 have dvW:∀e∈W,e.2.2∣D/\e.2.1.natAbs<2^980:=λe he=>li.dv e (cw.mpr ⟨e,he,rfl⟩) (hW e he);have okd:∀P:Pr,(∀x∈P,∃e∈W,x=e.2)->OkD D P:=λP hP x hx=>by
  obtain⟨e,he,rfl⟩:=hP x hx;exact⟨(hW e he).pos,(dvW e he).1,av (dvW e he).2 C6⟩
 have yl:ys.length=W.length:=by rw[rW.1];unfold cG;rw[af]
 have q:∀H' (b:Bool),Same H H'->(b=true↔yJ T n D W a=true)->Q (.bl b) H':=λH' b s hb=>q0 H' b s (hb.trans ⟨λh=>⟨W,rfl,hW,h⟩,λ⟨W',e,_,h⟩=>by rw[aCH e];exact h⟩);clear q0 hj;refine⟨_,rfl,l,rfl,.inl ⟨⟨_,.of (s1 _ _ hl)⟩,λB hB=>aLg (j:=0) aLa (s1 _ _ hl) (bA rW λb e=>Pt.same s1) (by lia) hB λσ3 zs H3 s3 hB3 r3=>?_⟩⟩;rw[<- aGP] at r3;have s13:=s1.trans s3;refine⟨_,rfl,_,rfl,B,zs,nN (W.map (·.1)),rfl,.of hB3,r3,λr hr=>?_,by rw[cO,af];lia,λzs' R' srt nd mem H4 s4 r4 l4 hl4=>?_⟩
 ·obtain⟨s,hs,rfl⟩:=cw.mp hr;obtain⟨e,he,rfl⟩:=cw.mp hs;exact C0 (dk.mp (aQb n n3 n6) e.1 (hW e he).1)
 have m4:=aD hl4 (.lst zs');have s14:=(s13.trans s4).trans m4;refine⟨_,_,aFj _,Rows.sh ((r3.same s4).same m4) (.of (m4 _ _ (s4 _ _ hB3))),Rows.sh (r4.same m4) (.of aB),_,rfl,?_⟩;rw[xT];by_cases ce:nN (W.map (·.1))=R';rotate_left
 ·refine aW (by rw[Au ce];rfl) (q _ false s14 ⟨λz=>(by cases z),λh=>?_⟩);unfold yJ at h;rw[cz] at h;exact absurd (aIa (aDO.mp h.1) srt nd mem).symm ce
 refine bB (by rw[At ce];rfl) ?_;have ris:(aKn (nN (W.map (·.1)))).all id=true:=by
  refine aDO.mpr ?_;rw[ce];exact(ur.mpr ⟨srt,nd⟩).imp λ⟨z1,z2⟩=>zL z2 (by rw[<- yQ];exact z1)
 generalize upd H4 l4 (.lst zs')=H5 at *;refine⟨_,rfl,n,rfl,by lia,λF6 us M H6 s6 _ hF6 r6 gM gA zM=>⟨F6,rfl,.inl ⟨⟨_,.of hF6⟩,?_⟩⟩⟩;have s16:=s14.trans s6;refine aX (K:=K) (a:=F6) (xs:=us) (λi σ' H'=>Same H6 H'/\(∀q,q<i->∀e,M[q]?=some e->aEN T D W e=false)/\∃x6 x7 x8 x9,σ'=[some (.ref ta),some (.ref l),some (.ref w),some (.int (n:Int)),x4,some (.ref B),x6,x7,x8,x9,none]) ⟨Same.refl _,λq hq=>absurd hq (i5 _),_,_,_,_,rfl⟩ (λi σ7 H7 _ ⟨s7,_⟩=>.of (s7 _ _ hF6)) (λi x σ7 H7 hx ⟨s7,hb7,x6,x7,x8,x9,es⟩=>?_) λσ7 H7 ⟨s7,hb7,x6,x7,x8,x9,es⟩=>?_
 ·subst es;obtain⟨pr,b0,hpr,rfl,hb0⟩:=sN (r6.same s7) hx;obtain⟨g1,g2⟩:=gM pr (au hpr);have sA:=s16.trans s7;refine⟨b0,_,rfl,hb0,rfl,_,_,rfl,_,_,rfl,rfl,?_⟩;refine⟨_,rfl,l,rfl,.inl ⟨⟨_,.of (sA _ _ hl)⟩,λC hC=>?_⟩⟩;refine aX (K:=K) (a:=l) (xs:=ys) (λj σ' H'=>j<=ys.length/\Same H7 H'/\(∃x0,σ'=[x0,some (cB pr.1),some (cB pr.2)])/\∃ws,H' C=some (.lst ws)/\RG (Pt K H') ws (cG ((W.take j).filter λe=>prt e.1 pr.1 pr.2))) ⟨bh _,aD hC _,⟨_,rfl⟩,[],aB,aAA⟩ (λj σ8 H8 _ ⟨_,s8,_⟩=>.of ((sA.trans s8) _ _ hl)) (λj x' σ8 H8 hx' ⟨_,s8,⟨x0,es⟩,ws,hC8,r8⟩=>?_) λσ8 H8 ⟨_,s8,_,ws,hC8,r8⟩=>?_
  ·subst es;have hj:j<ys.length:=(ai.mp hx').1;obtain⟨e,b,c,f,he,rfl,hb,hc,hf⟩:=sY (K:=K) (H:=H8) (bA rW λb e=>Pt.same (sA.trans s8)) hx';refine⟨_,rfl,ixT (j:=0) hb rfl ⟨_,rfl,_,rfl,c,e.1,pr.1,pr.2,rfl,hc,_,rfl,?_⟩⟩;have e1:(W.take (j+1)).filter (λe=>prt e.1 pr.1 pr.2)=(W.take j).filter (λe=>prt e.1 pr.1 pr.2)++if prt e.1 pr.1 pr.2=true then[e] else[]:=by
    rw[gq,he,je];congr 1;have:=aOR (λe:List Nat×(Int×Int)=>prt e.1 pr.1 pr.2) id e;rw[A9] at this;exact this
   refine tH (λcp=>?_) λcp=>?_
   ·rw[C5 cp] at e1;refine⟨_,rfl,ws,hC8,bj (show ws.length<=100 by rw[r8.1];unfold cG;rw[af];have:=dy (λe:List Nat×(Int×Int)=>prt e.1 pr.1 pr.2) (W.take j);rw[dj] at this;lia) (by decide),hj,bO hC s8,⟨_,rfl⟩,_,aB,?_⟩;rw[e1];have:cG ((W.take j).filter (λe=>prt e.1 pr.1 pr.2)++[e])=cG ((W.take j).filter λe=>prt e.1 pr.1 pr.2)++[(e.1.map Int.ofNat,e.2)]:=by unfold cG;rw[c4];rfl
    rw[this];exact bA (yH r8 (b:=b) (e:=(e.1.map Int.ofNat,e.2)) ⟨c,f,hb,by rw[<- cC];exact hc,hf⟩) λb e=>Pt.x hC8 (SameX.put _)
   ·rw[C4 cp,ia] at e1;refine⟨hj,s8,⟨_,rfl⟩,ws,hC8,?_⟩;rw[e1];exact r8
  rw[yl,gn] at r8;have wsl:ws.length=(W.filter λe=>prt e.1 pr.1 pr.2).length:=by rw[r8.1];unfold cG;rw[af]
  have fl:=dy (λe:List Nat×(Int×Int)=>prt e.1 pr.1 pr.2) W;have sB:=sA.trans s8;refine⟨_,rfl,C,rfl,.inl ⟨⟨_,.of hC8⟩,λG hG=>aLg (j:=1) aJc hC8 r8 (by lia) hG λσ9 us2 H9 s9 hG9 r9=>?_⟩⟩;rw[<- aAf] at r9;have sC:=sB.trans s9;refine⟨G,us2,zJ pr.1 pr.2 W,D,rfl,hG9,r9,okd _ λx hx=>?_,by unfold zJ;rw[af];lia,D0,db,λp H10 s10 hp=>?_⟩
  ·obtain⟨e,he,rfl⟩:=cw.mp hx;exact⟨e,(gr.mp he).1,rfl⟩
  have hp:Fr K H10 p (lo (eM (D) (zJ pr.1 pr.2 W)) (D)).1 (lo (eM (D) (zJ pr.1 pr.2 W)) (D)).2:=.of hp;have sD:=sC.trans s10;have wb:=bT pr.1 pr.2 (by lia) g2;refine⟨_,rfl,ixT (j:=0) hp rfl (tQ (t:=0) (si:=6) (sj:=7) (i:=pr.1) (j:=pr.2) rfl rfl rfl (hT.same sD) qT (by lia) g2 ⟨_,rfl,ixT (j:=1) hp rfl ⟨.inl (.inl ⟨by lia,by lia⟩),_,_,rfl,rfl,_,rfl,?_⟩⟩)⟩;by_cases le:(lo (eM D (zJ pr.1 pr.2 W)) D).1<=at2 T pr.1 pr.2*(lo (eM D (zJ pr.1 pr.2 W)) D).2
  ·refine bB (Au (Int.not_lt.mpr le)) ⟨((s7.trans s8).trans s9).trans s10,λq' hq' e he=>?_,_,_,_,_,rfl⟩;by_cases cq:q'<i
   ·exact hb7 q' cq e he
   ·obtain rfl:q'=i:=by lia
    rw[hpr] at he;cases he;unfold aEN;refine Au ?_;rw[oo];exact Int.not_lt.mpr le
  ·refine aW (At (Int.not_le.mp le)) (q _ false sD ⟨λz=>(by cases z),λh=>?_⟩);unfold yJ at h;rw[cz,cz,t9] at h;have hn:aEN T D W pr=true:=by
    unfold aEN;refine At ?_;rw[oo];exact Int.not_le.mp le
   have:=xy.mp h.2.1 pr (aKe n3 n6 g1 g2);exact absurd hn this
 subst es;have s17:=s16.trans s7;refine⟨_,rfl,l,rfl,.inl ⟨⟨_,.of (s17 _ _ hl)⟩,λA hA=>aIl (j:=1) aJc (s17 _ _ hl) (bA rW λb e=>Pt.same s17) (by lia) hA λσ8 us2 H8 s8 hB9 r9=>?_⟩⟩;rw[<- aAf] at r9;refine⟨_,rfl,_,rfl,.inl ⟨A,A,us2,us2,rfl,rfl,hB9,hB9,?_,λX hX=>?_⟩⟩
 ·rw[r9.1];unfold prI;rw[af,af];exact bo (show _<=100 by lia) (by decide)
 have mX:=aD hX (.lst (us2++us2));have s18:=(s17.trans s8).trans mX;refine⟨X,us2++us2,W.map (·.2)++W.map (·.2),D,rfl,aB,by rw[aBW];exact(mJ r9 r9).same mX,okd _ λx hx=>?_,by rw[aq,af];lia,D0,db,λp H9 s9 hp=>⟨_,rfl,?_⟩⟩
 ·rcases cg.mp hx with hx|hx
  ·obtain⟨e,he,rfl⟩:=cw.mp hx;exact⟨e,he,rfl⟩
  ·obtain⟨e,he,rfl⟩:=cw.mp hx;exact⟨e,he,rfl⟩
 ·rw[aLX D0 W] at hp;have s19:=s18.trans s9;have noW:(cA n).any (aEN T D W)=false:=by
   refine xy.mpr λe he=>?_;obtain⟨g1,g2⟩:=(qP n3 n6).2.2.2.1 e he;obtain⟨p',hp'⟩:=gi.mp (gA e.1 e.2 g1 g2);have lt:p'<us.length:=by rw[r6.1,gN];exact(ai.mp hp').1
   rw[hb7 p' lt e hp'];exact cy
  refine⟨.tup ([(aFp D W).1,(aFp D W).2].map Dt.int),.tup ([a.1,a.2].map Dt.int),eE _,⟨p,_,rfl,.of hp,ShL.ints [(aFp D W).1,(aFp D W).2]⟩,⟨w,_,rfl,s19.tup hw,ShL.ints [a.1,a.2]⟩,?_⟩;rw[kJ];refine q H9 _ s19 ?_;unfold yJ;rw[ris,noW];exact Iff.rfl
def aRA:(2:Nat)^1900<10^600:=by decide+kernel
def okI (h:i.natAbs<2^1900):okM 0 0 (.int i):=by
 refine⟨?_,?_,ar _,ar _,by unfold aHX;rfl⟩
 ·show decide (i.natAbs.log2<1920)=true;refine At ?_;by_cases h0:i.natAbs=0
  ·rw[h0];decide
  ·exact(yv h0).mpr (av h C6)
 ·show decide ((PyData.shown (.int i)).length<=1930)=true;refine At ?_;have e:(i7 (ug i)).length<=601:=by
   rw[ofString_length];exact AO (k:=600) (by decide) (BS h aRA)
  exact bo (show(PyData.shown (.int i)).length<=601 from e) (by decide)
def okB:okM 0 0 (.bl b):=⟨rfl,rfl,ar _,ar _,by unfold aHX;rfl⟩
def okN:okM 0 0 .non:=⟨rfl,rfl,ar _,ar _,by unfold aHX;rfl⟩
def okX (h:(x.cps.toList.all λc=>decide (c<16^8))=true):okM x.cps.size 0 (.str x):=⟨rfl,h,ar _,ar _,by unfold aHX;rfl⟩
def _root_.L2.okM.le (h1:m<=k)(h2:e<=f)(h:okM m e d):okM k f d:=⟨h.1,h.2.1,bo h.2.2.1 h1,bo h.2.2.2.1 h2,h.2.2.2.2⟩
def okL (m e:Nat)(ds:List Dt):Prop:=tj (rJ ds)=true/\o9 1930 (rJ ds)=true/\xg (rJ ds)<=m/\kZ ds<=e/\aCN ds=true
def cP:okL 0 e []:=⟨by unfold rJ tj;rfl,by unfold rJ o9;rfl,by unfold rJ xg;exact ar _,bh _,by unfold aCN;rfl⟩
def bK (h:okM m e d)(g:okL k e ds):okL (m+1+k) e (d::ds):=by
 obtain⟨a,b,c,f,t⟩:=h;obtain⟨a',b',c',f',t'⟩:=g;refine⟨?_,?_,?_,?_,?_⟩
 ·unfold rJ tj;rw[a,a'];rfl
 ·unfold rJ o9;rw[b,b'];rfl
 ·unfold rJ xg;lia
 ·rw[kZ];lia
 ·unfold aCN;rw[t,t'];rfl
def okL.le (h1:m<=k)(h2:e<=f)(h:okL m e ds):okL k f ds:=⟨h.1,h.2.1,bo h.2.2.1 h1,bo h.2.2.2.1 h2,h.2.2.2.2⟩
theorem yA:∀{ds:List Dt},(∀d∈ds,okM k e d)->okL ((k+1)*ds.length) e ds
 |[],_=>cP
 |d::ds,h=>(bK (h d (by simp)) (yA λx hx=>h x (bq _ hx))).le (by rw[c5,Nat.mul_succ];lia) (ar _)
theorem okL.mem:∀{ds:List Dt},okL m e ds->∀d∈ds,okM m e d
 |[],_,d,h=>by cases h
 |x::ds,h,d,hd=>by
  obtain⟨h1,h2,h3,h4,h5⟩:=h;unfold rJ tj at h1;unfold rJ o9 at h2;unfold rJ xg at h3;rw[kZ] at h4;unfold aCN at h5;rw[cz] at h1 h2 h5;rcases b8.mp hd with rfl|hd
  ·exact⟨h1.1,h2.1,by lia,by lia,h5.1⟩
  ·exact okL.mem (ds:=ds) ⟨h1.2,h2.2,by lia,by lia,h5.2⟩ d hd
def fO (g:okL m e ds)(hl:ds.length<64):okM m (e+1) (.tup ds):=by
 obtain⟨a,b,c,f,t⟩:=g;exact⟨by unfold toP vm;exact a,by unfold toP wu;exact b,by unfold toP Cq;exact c,by rw[dep];lia,by unfold aHX;rw[At hl,t];rfl⟩
def aBe (g:okL m e ds):okM m (e+1) (.lst ds):=by
 obtain⟨a,b,c,f,t⟩:=g;exact⟨by unfold toP vm;exact a,by unfold toP wu;exact b,by unfold toP Cq;exact c,by rw[dep];lia,by unfold aHX;exact t⟩
def aDT (h:okM m e (.tup ds)):okL m e ds/\ds.length<64:=by
 obtain⟨a,b,c,f,t⟩:=h;unfold toP vm at a;unfold toP wu at b;unfold toP Cq at c;rw[dep] at f;unfold aHX at t;rw[cz] at t;exact⟨⟨a,b,c,by lia,t.2⟩,C0 t.1⟩
def aNQ (h:okM m e (.int i)):i.natAbs<2^8000:=by
 have h1:decide (i.natAbs.log2<1920)=true:=h.1;have h1:=C0 h1;by_cases h0:i.natAbs=0
 ·rw[h0];exact Cp (by decide)
 ·exact av ((yv h0).mp h1) C6
structure Gd (n:Nat)(D:Int)(ds:List Dt):Prop where
 len:ds.length<=28
 ok:okL 4000 90 ds
 dv:∀e,ptD e∈ds->VaC n e->e.2.2∣D/\e.2.1.natAbs<2^980
def Gd.li (g:Gd n D ds):Li n D ds where
 len:=g.len
 bz:=λd hd es e c hc t z ec=>by
  subst e;have h1:=(aDT (g.ok.mem _ hd)).1.mem c hc;subst ec;exact aNQ ((aDT h1).1.mem (.int z) (by simp))
 wi:=λd hd es e c hc fs ef=>by
  subst e;have h1:=(aDT (g.ok.mem _ hd)).1.mem c hc;subst ef;have:=(aDT h1).2;lia
 dv:=g.dv
def Gd.okR (g:Gd n D ds):okR (.lst ds):=by
 have:=aBe g.ok;exact⟨this.1,this.2.1,this.2.2.1,bo this.2.2.2.1 (by decide)⟩
def Dv (n:Nat)(D:Int)(d:Dt):Prop:=∀e,ptD e=d->VaC n e->e.2.2∣D/\e.2.1.natAbs<2^980
structure Ba (n:Nat)(D:Int)(W:Cts):Prop where
 len:W.length<=15
 ent:∀e∈W,e.1∈bP n/\0<e.2.2/\e.2.2∣D/\e.2.1.natAbs<2^410
 nd:(W.map (·.1)).Nodup
 d0:0<D
 db:D.natAbs<2^410
def D2 (D:Int):Int:=D*(2*10^20)
def aGp (h:z∣D):z∣D2 D:=ze h
def Ba.d2 (b:Ba n D W):0<D2 D/\(D2 D).natAbs<2^1000:=by
 refine⟨lr b.d0 (by decide),?_⟩;exact av (iB b.db (show((2:Int)*10^20).natAbs<2^70 by decide)) C6
def aOF (n6:n<=6)(h:s∈bP n):okM 6 1 (uO s):=by
 obtain⟨h1,h2⟩:=fG h;refine(fO (yA (k:=0) (e:=0) λd hd=>?_) (by rw[af,af];lia)).le (by rw[af,af];lia) (ar _);obtain⟨i,hi,rfl⟩:=cw.mp hd;obtain⟨k,hk,rfl⟩:=cw.mp hi;have:=h2 k hk;exact okI (av (show(Int.ofNat k).natAbs<2^3 by show k<8;lia) C6)
def xD (h:okM m e a)(g:okM k e b):okM (m+k+2) (e+1) (.tup [a,b]):=
 (fO (bK h (bK g cP)) (show 2<64 by decide)).le (by lia) (ar _)
def aNp (h:t.natAbs<2^1900)(g:z.natAbs<2^1900):okM 2 1 (.tup ([t,z].map Dt.int)):=xD (okI h) (okI g)
def aMd {x:Int}{k:Nat}(h:x.natAbs<2^k)(hk:k<=1900):x.natAbs<2^1900:=av h (az (by decide) hk)
def aKl (hl:ds.length<=18)(h:∀d∈ds,okM 150 7 d/\Dv n D d):Gd n D ds where
 len:=by lia
 ok:=(yA (k:=150) (e:=7) λd hd=>(h d hd).1).le (by lia) (by decide)
 dv:=λe he hv=>(h _ he).2 e rfl hv
def hd (S:List ww)(H:Hp):Hp:=λb=>if b∈S then none else H b
def BLs (S:List ww)(H:Hp):Prop:=∀b∈S,∃L,H b=some (.lst L)
def cL (h:b∉S):hd S H b=H b:=C4 h
def aBa (h:b∈S):hd S H b=none:=C5 h
def aI (s:Same H H'):Same (hd S H) (hd S H'):=λb u e=>by
 by_cases c:b∈S
 ·rw[aBa c] at e;cases e
 ·rw[cL c] at e ⊢;exact s b u e
def aNs (hp:p∈S)(s:SameX p H H'):Same (hd S H) (hd S H'):=λb u e=>by
 by_cases c:b∈S
 ·rw[aBa c] at e;cases e
 ·rw[cL c] at e ⊢;exact s b u (λz=>c (z▸hp)) e
def aZ:Same (hd S H) H:=λb u e=>by
 by_cases c:b∈S
 ·rw[aBa c] at e;cases e
 ·rw[cL c] at e;exact e
def vI (hp:p∈S):hd S (upd H p o)=hd S H:=funext λb=>by
 by_cases c:b∈S
 ·rw[aBa c,aBa c]
 ·rw[cL c,cL c,aM λz=>c (by rw[z];exact hp)]
def xY:Same (hd (A::S) H) (hd S H):=λb u e=>by
 by_cases c:b∈A::S
 ·rw[aBa c] at e;cases e
 ·rw[cL c] at e;rw[cL λz=>c (bq _ z)];exact e
def zP (hA:H A=none):Same (hd S H) (hd (A::S) (upd H A o)):=λb u e=>by
 by_cases c:b∈S
 ·rw[aBa c] at e;cases e
 ·rw[cL c] at e;have n:b≠A:=aJ e hA;rw[cL λz=>(b8.mp z).elim n c,aM n];exact e
def aMy (hA:H A=none):Same (hd S H) (hd (A::S) H):=λb u e=>by
 by_cases c:b∈S
 ·rw[aBa c] at e;cases e
 ·rw[cL c] at e;have n:b≠A:=aJ e hA;rw[cL λz=>(b8.mp z).elim n c];exact e
def BLs.same (h:BLs S H)(s:Same H H'):BLs S H':=λb hb=>let⟨L,e⟩:=h b hb;⟨L,s _ _ e⟩
def BLs.new (h:BLs S H)(hp:H p=none):p∉S:=λz=>by
 obtain⟨L,e⟩:=h p z;rw[hp] at e;cases e
def BLs.tup (h:BLs S H)(hp:H p=some (.tup zs)):p∉S:=λz=>by
 obtain⟨L,e⟩:=h p z;rw[hp] at e;cases e
def BLs.cons (h:BLs S H)(hA:H A=some (.lst L)):BLs (A::S) H:=λb hb=>by
 rcases b8.mp hb with rfl|hb
 ·exact⟨L,hA⟩
 ·exact h b hb
def dS (h:SqT K H b xs)(hb:BLs S H):SqT K (hd S H) b xs:=by
 rcases h with(h|⟨o,h⟩)|h
 ·exact .inl (.inl (by rw[cL (hb.tup h)];exact h))
 ·refine .inl (.inr ⟨o,?_⟩);rw[cL λz=>by obtain⟨L,e⟩:=hb b z;rw[h] at e;cases e];exact h
 ·exact .inr h
def Ep (Φ:Hp->V->Prop)(S:List ww)(t:TE)(σ:St)(H:Hp):Prop:=∀H1,Same H H1->BLs S H1->∀Q:VK,(∀x H2,Same H1 H2->Φ (hd S H2) x->Q x H2)->t σ H1 Q
def Aa (Φ:Hp->V->Prop)(S:List ww)(t:TA)(σ:St)(H:Hp)(k:Nat):Prop:=∀H1,Same H H1->BLs S H1->∀Q:List V->Hp->Prop,(∀xs H2,Same H1 H2->xs.length=k->(∀x∈xs,Φ (hd S H2) x)->Q xs H2)->t σ H1 Q
def Mo (Φ:Hp->V->Prop):Prop:=∀G G' x,Same G G'->Φ G x->Φ G' x
def aEG (h:Ep Φ S t σ H)(f:∀G x,Φ G x->Ψ G x):Ep Ψ S t σ H:=λH1 s hb Q q=>h H1 s hb Q λx H2 s2 hx=>q x H2 s2 (f _ _ hx)
def aAo (mo:Mo Φ)(hv:σ[i]?=some (some x))(h:Φ (hd S H) x):Ep Φ S (aC i) σ H:=λH1 s hb Q q=>⟨_,hv,q x H1 (Same.refl _) (mo _ _ _ (aI s) h)⟩
def kC:Aa Φ S aF σ H 0:=λH1 s hb Q q=>q [] H1 (Same.refl _) rfl (by simp)
def aV (mo:Mo Φ)(h:Ep Φ S t σ H)(hs:Aa Φ S ts σ H k):Aa Φ S (aA t ts) σ H (k+1):=λH1 s hb Q q=>
 h H1 s hb _ λx H2 s2 hx=>hs H2 (s.trans s2) (hb.same s2) _ λxs H3 s3 hl hxs=>q (x::xs) H3 (s2.trans s3) (by rw[c5,hl]) λy hy=>by
  rcases b8.mp hy with rfl|hy
  ·exact mo _ _ _ (aI s3) hx
  ·exact hxs y hy
def LP (Φ:Hp->V->Prop)(k:Nat):Hp->V->Prop:=λG v=>∃a xs,v=.ref a/\G a=some (.lst xs)/\xs.length<=k/\∀x∈xs,Φ G x
def jQ (mo:Mo Φ):Mo (LP Φ k):=λG G' v s ⟨a,xs,e,h,l,hx⟩=>⟨a,xs,e,s _ _ h,l,λx hm=>mo _ _ _ s (hx x hm)⟩
def aLM (h:LP Φ k G x)(hk:k<=j):LP Φ j G x:=let⟨a,xs,e,h,l,hx⟩:=h;⟨a,xs,e,h,bo l hk,hx⟩
def aLG (h:Ep (LP Φ k) S t σ H)(hk:k<=j:=by decide):Ep (LP Φ j) S t σ H:=aEG h λ_ _ hx=>aLM hx hk
def vG (mo:Mo Φ)(h:Ep (LP Φ k) S t σ H)(h':Ep (LP Φ j) S u σ H)(hz:k+j<=300:=by decide):Ep (LP Φ (k+j)) S (tOp (aR K) t u) σ H:=λH1 s hb Q q=>
 h H1 s hb _ λx H2 s2 ⟨a,xs,e1,ha,hl,hx⟩=>h' H2 (s.trans s2) (hb.same s2) _ λy H3 s3 ⟨b,ys,e2,hb3,gl,hy⟩=>by
  subst e1 e2;refine .inl ⟨a,b,xs,ys,rfl,rfl,s3 _ _ (aZ _ _ ha),aZ _ _ hb3,bo (show _<=300 by lia) (by decide),λp hp=>?_⟩;have sp:=aD hp (.lst (xs++ys));refine q _ _ ((s2.trans s3).trans sp) ⟨p,_,rfl,by rw[cL (((hb.same s2).same s3).new hp)];exact aB,by rw[aq];lia,λx hm=>?_⟩;rcases cg.mp hm with hm|hm
  ·exact mo _ _ _ (aI (s3.trans sp)) (hx x hm)
  ·exact mo _ _ _ (aI sp) (hy x hm)
def aMF (mo:Mo Φ)(h:Ep (LP Φ k) S t σ H):Ep (LP Φ k) S (aCo K t) σ H:=λH1 s hb Q q=>
 h H1 s hb _ λx H2 s2 ⟨a,xs,e1,ha,hl,hx⟩=>by
  subst e1;refine⟨a,xs,rfl,.of (aZ _ _ ha),λp hp=>?_⟩;have sp:=aD hp (.lst xs.reverse);exact q _ _ (s2.trans sp) ⟨p,_,rfl,by rw[cL ((hb.same s2).new hp)];exact aB,by rw[lh];exact hl,λx hm=>mo _ _ _ (aI sp) (hx x (List.mem_reverse.mp hm))⟩
def uB (mo:Mo Φ)(h:Aa Φ S ts σ H k)(hk:k<=20:=by decide):Ep (LP Φ k) S (dC ts) σ H:=λH1 s hb Q q=>
 h H1 s hb _ λxs H2 s2 hl hx=>⟨by rw[hl];exact bo hk (by decide),λp hp=>by
  have sp:=aD hp (.lst xs);exact q _ _ (s2.trans sp) ⟨p,xs,rfl,by rw[cL ((hb.same s2).new hp)];exact aB,by lia,λx hm=>mo _ _ _ (aI sp) (hx x hm)⟩⟩
def oG (mo:Mo Φ)(hv:σ[i]?=some (some x))(h:LP Φ k (hd S H) x):Ep (LP Φ k) S (aC i) σ H:=aAo (jQ mo) hv h
def aFB (mo:Mo Φ)(h:Ep Φ S t σ H):Ep (LP Φ 1) S (dC (aA t aF)) σ H:=uB mo (aV mo h kC)
def mE (h:te σ H (λv H2=>rest D (σ.set i (some v)) H2)):aH (aP te (aE i)) rest D σ H:=h
def aPj (mo:Mo Φ)(h:Aa Φ S ts σ H k)(s:Same H H1)(hb:BLs S H1)(hk:k<=20)(q:∀p xs H2,Same H1 H2->H1 p=none->H2 p=some (.lst xs)->xs.length=k->(∀x∈xs,Φ (hd (p::S) H2) x)->Q (.ref p) H2):dC ts σ H1 Q:=
 h H1 s hb _ λxs H2 s2 hl hxs=>⟨by rw[hl];exact bo hk (by decide),λp hp=>by
  have sp:=aD hp (.lst xs);exact q p xs _ (s2.trans sp) (s2.free hp) aB hl λx hx=>mo _ _ _ (zP hp) (hxs x hx)⟩
def DtP (K:aa)(d:Dt):Hp->V->Prop:=λG v=>Sh K G d v
def aNN:Mo (DtP K d):=λ_ _ _ s h=>Sh.same s h
def AaD (K:aa)(ds:List Dt)(S:List ww)(t:TA)(σ:St)(H:Hp):Prop:=∀H1,Same H H1->BLs S H1->∀Q:List V->Hp->Prop,(∀xs H2,Same H1 H2->ShL K (hd S H2) ds xs->Q xs H2)->t σ H1 Q
def gY:AaD K [] S aF σ H:=λH1 s hb Q q=>q [] H1 (Same.refl _) rfl
def cR (h:Ep (DtP K d) S t σ H)(hs:AaD K ds S ts σ H):AaD K (d::ds) S (aA t ts) σ H:=λH1 s hb Q q=>
 h H1 s hb _ λx H2 s2 hx=>hs H2 (s.trans s2) (hb.same s2) _ λxs H3 s3 hxs=>q (x::xs) H3 (s2.trans s3) ⟨x,xs,rfl,hx.same (aI s3),hxs⟩
def oI (h:AaD K ds S ts σ H)(hk:ds.length<=20:=by simp):Ep (DtP K (.tup ds)) S (bH ts) σ H:=λH1 s hb Q q=>
 h H1 s hb _ λxs H2 s2 hxs=>⟨by rw[<- hxs.length];exact bo hk (by decide),λp hp=>by
  have sp:=aD hp (.tup xs);exact q _ _ (s2.trans sp) ⟨p,xs,rfl,dS (.of aB) ((hb.same s2).same sp),hxs.same (aI sp)⟩⟩
def aHN (h:AaD K ds S ts σ H)(hk:ds.length<=20:=by simp):Ep (DtP K (.lst ds)) S (dC ts) σ H:=λH1 s hb Q q=>
 h H1 s hb _ λxs H2 s2 hxs=>⟨by rw[<- hxs.length];exact bo hk (by decide),λp hp=>by
  have sp:=aD hp (.lst xs);exact q _ _ (s2.trans sp) ⟨p,xs,rfl,.of (by rw[cL ((hb.same s2).new hp)];exact aB),hxs.same (aI sp)⟩⟩
def Vl (v:V)(t:TE)(σ:St):Prop:=∀(H:Hp) (Q:VK),Q v H->t σ H Q
def d_v (h:Vl v t σ)(hs:∀G,Sh K G d v):Ep (DtP K d) S t σ H:=λH1 s hb Q q=>h H1 Q (q v H1 (Same.refl _) (hs _))
def fS (h:σ[i]?=some (some v)):Vl v (aC i) σ:=λ_ _ q=>⟨_,h,q⟩
def v_c:Vl v (tC v) σ:=λ_ _ q=>q
def d_i (h:Vl (.int i) t σ):Ep (DtP K (.int i)) S t σ H:=d_v h λ_=>rfl
def d_b:Ep (DtP K (.bl b)) S (tC (.bl b)) σ H:=d_v v_c λ_=>rfl
def d_n:Ep (DtP K .non) S (tC .non) σ H:=d_v v_c λ_=>rfl
def FoD (D:Int)(o:Dt):Prop:=okM 130 5 o/\∀t z:Int,o=.tup ([t,z].map Dt.int)->1<=z->z∣D/\t.natAbs<2^980
def FoP (K:aa)(D:Int):Hp->V->Prop:=λG v=>∃o,Sh K G o v/\FoD D o
def bZ:Mo (FoP K D):=λ_ _ _ s ⟨o,h,r⟩=>⟨o,h.same s,r⟩
def CsP (K:aa):Hp->V->Prop:=λG v=>∃c,Sh K G c v/\okM 10 3 c
def dH:Mo (CsP K):=λ_ _ _ s ⟨o,h,r⟩=>⟨o,h.same s,r⟩
def EnP (K:aa)(n:Nat)(D:Int):Hp->V->Prop:=λG v=>∃d,Sh K G d v/\okM 150 7 d/\Dv n D d
def bL:Mo (EnP K n D):=λ_ _ _ s ⟨o,h,r⟩=>⟨o,h.same s,r⟩
def iG (h:Ep (DtP K o) S t σ H)(f:FoD D o):Ep (FoP K D) S t σ H:=aEG h λ_ _ hx=>⟨o,hx,f⟩
def tN (h:Ep (DtP K o) S t σ H)(f:okM 10 3 o):Ep (CsP K) S t σ H:=aEG h λ_ _ hx=>⟨o,hx,f⟩
def yW (h:Ep (DtP K o) S t σ H)(f:okM 150 7 o)(g:Dv n D o):Ep (EnP K n D) S t σ H:=aEG h λ_ _ hx=>⟨o,hx,f,g⟩
def aLU (f:FoD D o):Dv n D (.tup [c,o]):=λe he hv=>by
 have h:=Dt.tup.inj he;have h2:=(fj (fj h).2).1;exact f.2 e.2.1 e.2.2 h2.symm hv.pos
def aNZ (hb:SqT K G b [x,y])(hx:CsP K G x)(hy:FoP K D G y):EnP K n D G (.ref b):=by
 obtain⟨c,hc,oc⟩:=hx;obtain⟨o,ho,fo⟩:=hy;exact⟨.tup [c,o],⟨b,_,rfl,hb,_,_,rfl,hc,_,_,rfl,ho,rfl⟩,(xD (oc.le (ar _) (show 3<=5 by decide)) fo.1).le (by decide) (by decide),aLU fo⟩
def zV (h:∀a b:Dt,d≠.tup [a,b]):Dv n D d:=λe he _=>absurd he.symm (h _ _)
def aPh (hk:k<=18)(h:LP (EnP K n D) k G v):∃l ys ds,v=.ref l/\G l=some (.lst ys)/\ShL K G ds ys/\Gd n D ds:=by
 obtain⟨l,ys,rfl,hl,len,hx⟩:=h;have key:∀ys:List V,(∀x∈ys,EnP K n D G x)->∃ds,ShL K G ds ys/\∀d∈ds,okM 150 7 d/\Dv n D d:=by
  intro ys
  induction ys with
  |nil=>exact λ_=>⟨[],rfl,λd hd=>by cases hd⟩
  |cons y ys ih=>
   intro h;obtain⟨ds,h1,h2⟩:=ih λx hx=>h x (bq _ hx);obtain⟨d,hd,r⟩:=h y (by simp);exact⟨d::ds,⟨y,ys,rfl,hd,h1⟩,λx hx=>(b8.mp hx).elim (λz=>z▸r) (h2 x)⟩
 obtain⟨ds,h1,h2⟩:=key ys hx;exact⟨l,ys,ds,rfl,hl,h1,aKl (by rw[h1.length];lia) h2⟩
def aGG (h:okM 130 5 o)(g:∀t z:Int,o≠.tup ([t,z].map Dt.int)):FoD D o:=⟨h,λt z e _=>absurd e (g t z)⟩
def aAQ (ht:t.natAbs<2^980)(hz:z.natAbs<2^1000)(hd:1<=z->z∣D):FoD D (.tup ([t,z].map Dt.int)):=⟨(aNp (aMd ht (by decide)) (aMd hz (by decide))).le (by decide) (by decide),λt' z' e h=>by
 have:=eL e;cases this;exact⟨hd h,ht⟩⟩
def aMI (h:i.natAbs<2^411):okM 126 0 (.str (aHq i)):=by
 refine(okX (x:=aHq i) ?_).le ?_ (ar _)
 ·have key:∀m:Nat,∀c∈(Nat.toDigits 10 m).map Char.toNat,c<16^8:=λm c hc=>by
   obtain⟨g,hg,rfl⟩:=cw.mp hc;have:=PyProof.Rows.digit_range (Nat.isDigit_of_mem_toDigits (by decide) (by decide) hg);exact bj this.2 (by decide)
  refine dk.mpr λc hc=>At ?_;cases i with
  |ofNat m=>
   unfold aHq at hc;rw[show Int.ofNat m=(m:Int) from rfl,PySem.W.KIN.signs_num] at hc;exact key m c hc
  |negSucc m=>
   unfold aHq at hc;have e:(i7 (ug (Int.negSucc m))).cps.toList=45::(Nat.toDigits 10 (m+1)).map Char.toNat:=by
    have e1:ug (Int.negSucc m)="-"++ug (m+1):=rfl;rw[e1,Str.ofString_eq_toList];show("-"++Nat.repr (m+1)).toList.map Char.toNat=_;rw[String.toList_append,Nat.toList_repr];rfl
   rw[e] at hc;rcases b8.mp hc with rfl|hc
   ·decide
   ·exact key (m+1) c hc
 ·have e:(aHq i).length<=125:=by
   unfold aHq;rw[ofString_length];exact AO (k:=124) (by decide) (BS h (by decide+kernel))
  exact bo (show(aHq i).cps.size<=125 from e) (by decide)
def aRC (mo:Mo Φ)(h:Ep (LP Φ k) S t σ H)(h':Ep (LP Φ j) S u σ H)(s:Same H H1)(hb:BLs S H1)(hz:k+j<=300)(q:∀p xs H2,Same H1 H2->H1 p=none->H2 p=some (.lst xs)->xs.length<=k+j->(∀x∈xs,Φ (hd (p::S) H2) x)->Q (.ref p) H2):tOp (aR K) t u σ H1 Q:=
 h H1 s hb _ λx H2 s2 ⟨a,xs,e1,ha,hl,hx⟩=>h' H2 (s.trans s2) (hb.same s2) _ λy H3 s3 ⟨b,ys,e2,hb3,gl,hy⟩=>by
  subst e1 e2;refine .inl ⟨a,b,xs,ys,rfl,rfl,s3 _ _ (aZ _ _ ha),aZ _ _ hb3,bo (show _<=300 by lia) (by decide),λp hp=>?_⟩;have sp:=aD hp (.lst (xs++ys));refine q p _ _ ((s2.trans s3).trans sp) ((s2.trans s3).free hp) aB (by rw[aq];lia) λx hm=>?_;rcases cg.mp hm with hm|hm
  ·exact mo _ _ _ (zP hp) (mo _ _ _ (aI s3) (hx x hm))
  ·exact mo _ _ _ (zP hp) (hy x hm)
def TzP (K:aa)(z:Int):Hp->V->Prop:=λG v=>∃(b:ww) (t:Int),v=.ref b/\SqT K G b [.int t,.int z]/\t.natAbs<2^412
def aFc:Mo (TzP K z):=λ_ _ _ s ⟨b,t,e,h,r⟩=>⟨b,t,e,s.tup h,r⟩
def aOt (h:Sh K G (.tup ([t,z].map Dt.int)) v):∃b,v=.ref b/\SqT K G b [.int t,.int z]:=by
 obtain⟨b,xs,rfl,hb,hL⟩:=h;obtain rfl:=hL.of_ints;exact⟨b,rfl,hb⟩
def aPA (h:Ep (DtP K (.tup ([t,z].map Dt.int))) S u σ H)(ht:t.natAbs<2^412):Ep (TzP K z) S u σ H:=aEG h λ_ _ hx=>by
 obtain⟨b,e,hb⟩:=aOt hx;exact⟨b,t,e,hb,ht⟩
def aKd (hz:0<z)(hd:z∣D0)(ht:t.natAbs<2^900)(hD:0<D0)(hb:D0.natAbs<2^1000):FoD D0 (.tup ([(lo t z).1,(lo t z).2].map Dt.int)):=
 aAQ (av (eD hz ht) C6) (cJ (iW hz) hD (Bv (pN hz) hd) hb) λ_=>Bv (pN hz) hd
def aGd (h:SqT K G p [.int t,.int z])(f:FoD D (.tup ([t,z].map Dt.int))):FoP K D G (.ref p):=⟨.tup ([t,z].map Dt.int),⟨p,_,rfl,h,ShL.ints [t,z]⟩,f⟩
def aRw (h:Vl (.bl b) u σ):Ep (DtP K (.bl b)) S u σ H:=d_v h λ_=>rfl
def aRf (h:Vl (.str x) u σ):Ep (DtP K (.str x)) S u σ H:=d_v h λ_=>rfl
def aQu (K:aa):Sp:=λvs H Q _=>∃(f:ww) (t z D:Int) (S:List ww),vs=[.ref f]/\Fr K H f t z/\BLs S H/\0<z/\z∣D/\0<D/\D.natAbs<2^410/\t.natAbs<2^410/\∀x H',Same H H'->LP (FoP K (D2 D)) 25 (hd S H') x->Q x H'
def aRT (h:σ[i]?=some (some (.int x))):Vl (.int (x+k)) (tOp (aR K) (aC i) (tC (.int k))) σ:=λ_ _ q=>⟨_,h,q⟩
def aRE (h:σ[i]?=some (some (.int x))):Vl (.int (x-k)) (tOp jL (aC i) (tC (.int k))) σ:=λ_ _ q=>⟨_,h,_,_,rfl,rfl,q⟩
def aOX (h:σ[i]?=some (some (.int x))):Vl (.int (0-x)) (tOp jL (AC 0) (aC i)) σ:=λ_ _ q=>⟨_,h,_,_,rfl,rfl,q⟩
def aQS (h:σ[i]?=some (some (.int x)))(hx:x.natAbs<2^8000):Vl (.int (2*x)) (tOp cM (AC 2) (aC i)) σ:=λ_ _ q=>⟨_,h,.inl (.inl ⟨by decide,by decide⟩),q⟩
def aRI (h:σ[i]?=some (some (.int x))):Vl (.bl (decide (x=k))) (tOp (gH K) (aC i) (tC (.int k))) σ:=λ_ Q q=>⟨_,h,.int _,.int _,bh _,rfl,rfl,by rw[gP];exact q⟩
def aRd (h:σ[i]?=some (some (.int x)))(hx:x.natAbs<2^1900):Vl (.str (aHq x)) (tCB aFO (aA (aC i) aF)) σ:=λ_ Q q=>⟨_,h,x,rfl,hx,λt e=>by rw[e];exact q⟩
def fI (h:Ep (DtP K a) S t σ H)(g:Ep (DtP K b) S u σ H):Ep (DtP K (.tup [a,b])) S (bH (aA t (aA u aF))) σ H:=oI (cR h (cR g gY))
def lE (ha:okM j 3 a)(hb:okM k 3 b)(hk:j+k+2<=130)(h:∀t z:Int,¬(a=.int t/\b=.int z)):FoD D (.tup [a,b]):=by
 refine aGG ((xD ha hb).le hk (by decide)) λt z e=>?_;obtain⟨h1,h2⟩:=fj (Dt.tup.inj e);exact h t z ⟨h1,(fj h2).1⟩
def aJy (h:z∣D):2*z∣D2 D:=by
 obtain⟨k,rfl⟩:=h;exact⟨k*10^20,by unfold D2;rw[fw,fw,ff 2 z,ff 2 k]⟩
def aQa:qQ1 (aQu K) (dR K (qO K) (wM K)) ["part","top","bottom","found"]:=by
 intro vs H Q E h;obtain⟨f,t,z,D,S,rfl,hf,hb,hz,hzD,D0,Db,ht,q⟩:=h;have zb:=cJ hz D0 hzD Db;have t19:t.natAbs<2^1900:=aMd ht (by decide);have z19:z.natAbs<2^1900:=aMd zb (by decide);have d2:0<D2 D:=lr D0 (by decide);have d2b:(D2 D).natAbs<2^480:=av (iB Db (show((2:Int)*10^20).natAbs<2^70 by decide)) C6;have d2c:(D2 D).natAbs<2^1000:=av d2b C6;have ab1:∀{x:Int}{k m:Nat},x.natAbs<2^k->k+1<=m->(2*x).natAbs<2^m:=λ{x k m} hx hm=>by
  have:=iB (show(2:Int).natAbs<2^2 by decide) hx;have e:(2*x).natAbs=2*x.natAbs:=by lia
  have:2^(k+1)<=2^m:=az (by decide) hm;rw[Nat.pow_succ] at this;lia
 have up:∀{x:Int}{k m:Nat},x.natAbs<2^k->k<=m->x.natAbs<2^m:=λhx hm=>av hx (az (by decide) hm);have big1:(2:Nat)^410+1<2^412:=by decide+kernel
 have t1:(t+1).natAbs<2^412:=by lia
 have t2:(t-1).natAbs<2^412:=by lia
 have t3:(0-t).natAbs<2^412:=by lia
 have n3:(0-t).natAbs<2^980:=up t3 (by decide);have n4:(0-z).natAbs<2^1000:=by have:=up (m:=1000) zb (by decide);lia
 have one2:∀k,(1:Int).natAbs<2^(k+1):=λk=>Nat.one_lt_two_pow (by lia);have zero2:∀k,(0:Int).natAbs<2^k:=λk=>Cp (by decide);refine⟨_,rfl,f,_,rfl,hf,rfl,_,_,rfl,_,_,rfl,rfl,?_⟩;refine mE ((uB (S:=S) (Φ:=TzP K z) aFc (aV aFc (aPA (fI (d_i (aRT (i:=1) rfl)) (d_i (fS (i:=2) rfl))) t1) (aV aFc (aPA (fI (d_i (aRE (i:=1) rfl)) (d_i (fS (i:=2) rfl))) t2) (aV aFc (aPA (fI (d_i (aOX (i:=1) rfl)) (d_i (fS (i:=2) rfl))) t3) kC)))) H (Same.refl _) hb _ λy H1 s1 hy=>?_);obtain⟨A,xs,rfl,hA,hl,hx⟩:=hy;have hb1:=hb.same s1;refine⟨_,rfl,A,rfl,.inl ⟨⟨_,.of (aZ _ _ hA)⟩,λacc hacc=>?_⟩⟩;refine lA (vars:=[0]) (K:=K) (a:=A) (xs:=xs) (λi L H'=>L.length=i/\∀x∈L,FoP K (D2 D) (hd (acc::S) H') x) (by decide) (by show 0<1;decide) ⟨rfl,λx hm=>by cases hm⟩ hacc (λi L H' sm _=>.of (sm _ _ (aZ _ _ hA))) (λi x σ1 H2 L Dn hxi l1 ag1 s0 sm1 ha1 ⟨r1,r2⟩ hD=>?_) λσ1 H2 L sm1 ha1 ⟨r1,r2⟩=>?_
 ·have hi:=(ai.mp hxi).1;obtain⟨b,t',rfl,hbt,tb⟩:=aFc _ _ _ (aI sm1) (hx x (au hxi));have hbt:=aZ.tup hbt;refine⟨_,s0,ixT (j:=0) hbt rfl ⟨_,s0,ixT (j:=1) hbt rfl ⟨t',z,rfl,hz,up8 zb (by decide),λp H3 s3 hp=>?_⟩⟩⟩;have ha3:=s3 _ _ ha1;refine⟨L,ha3,by rw[r1];exact av hi (bo hl (by decide)),?_⟩;have hb3:BLs (acc::S) H3:=((hb1.same sm1).same s3).cons ha3;refine hD σ1 _ _ l1 ag1 (bO hacc (sm1.trans s3)) aB ⟨by rw[aq,r1];rfl,λx hm=>?_⟩;rw[vI (by simp)];rcases cg.mp hm with hm|hm
  ·exact bZ _ _ _ (aI s3) (r2 x hm)
  ·rw[br.mp hm];exact aGd (dS (.of hp) hb3) (aKd hz (aGp hzD) (up tb (by decide)) d2 d2c)
 have hb2:=hb1.same sm1;have nacc:acc∉S:=hb1.new hacc;have y1:LP (FoP K (D2 D)) 3 (hd S H2) (.ref acc):=⟨acc,L,rfl,by rw[cL nacc];exact ha1,by rw[r1];exact hl,λx hm=>bZ _ _ _ xY (r2 x hm)⟩;have s12:=s1.trans sm1;clear r2 r1 hx hA hb1 sm1 s1;have one:∀{a:Dt}{x y:Dt},Dt.tup [a]≠.tup [x,y]:=λe=>by cases (fj (Dt.tup.inj e)).2
 refine mE ((vG (K:=K) (S:=S) bZ (oG (i:=3) bZ rfl y1) (uB bZ (aV bZ (iG (fI (d_i (aQS (i:=1) rfl (up8 ht (by decide)))) (d_i (aQS (i:=2) rfl (up8 zb (by decide))))) (aAQ (ab1 ht (by decide)) (ab1 zb (by decide)) λ_=>aJy hzD)) (aV bZ (iG (fI (d_i v_c) (d_i v_c)) (aAQ (zero2 _) (one2 999) λ_=>Co _)) (aV bZ (iG (fI (d_i (fS (i:=1) rfl)) (d_i v_c)) (aAQ (up ht (by decide)) (zero2 _) λh=>absurd h (by decide))) (aV bZ (iG (aHN (cR (d_i (fS (i:=1) rfl)) (cR (d_i (fS (i:=2) rfl)) gY))) (aGG ((aBe (bK (okI t19) (bK (okI z19) cP))).le (by decide) (by decide)) λ_ _ e=>by cases e)) kC)))))) H2 (Same.refl _) hb2 _ λy H3 s3 y2=>?_);have hb3:=hb2.same s3;refine mE ((vG (K:=K) (S:=S) bZ (oG (i:=3) bZ rfl y2) (uB bZ (aV bZ (iG (fI (d_i (fS (i:=1) rfl)) (d_i (aOX (i:=2) rfl))) (aAQ (up ht (by decide)) n4 λh=>by lia)) (aV bZ (iG (oI (cR (d_i (fS (i:=1) rfl)) gY)) (aGG ((fO (bK (okI t19) cP) (show 1<64 by decide)).le (by decide) (by decide)) λ_ _=>one)) (aV bZ (iG (fI (d_i (fS (i:=1) rfl)) d_b) (lE (okI t19 |>.le (ar _) (by decide)) (okB.le (ar _) (by decide)) (by decide) λ_ _ e=>by cases e.2)) (aV bZ (iG (d_i (fS (i:=1) rfl)) (aGG ((okI t19).le (by decide) (by decide)) λ_ _ e=>by cases e)) (aV bZ (iG d_n (aGG (okN.le (by decide) (by decide)) λ_ _ e=>by cases e)) kC))))))) H3 (Same.refl _) hb3 _ λy H4 s4 y3=>?_)
 have hb4:=hb3.same s4;have oi:∀{x:Int},x.natAbs<2^1900->okM 0 3 (.int x):=λh=>(okI h).le (ar _) (by decide);have ob:∀{b:Bool},okM 0 3 (.bl b):=okB.le (ar _) (by decide);have on:okM 0 3 .non:=okN.le (ar _) (by decide);have os:∀{x:Int},x.natAbs<2^411->okM 126 3 (.str (aHq x)):=λh=>(aMI h).le (ar _) (by decide);have ht':t.natAbs<2^411:=up ht (by decide);have hz':z.natAbs<2^411:=up zb (by decide);refine mE ((vG (K:=K) (S:=S) bZ (oG (i:=3) bZ rfl y3) (uB bZ (aV bZ (iG (fI d_b (d_i (fS (i:=2) rfl))) (lE ob (oi z19) (by decide) λ_ _ e=>by cases e.1)) (aV bZ (iG (fI (aRw (aRI (i:=1) rfl)) (d_i (fS (i:=2) rfl))) (lE ob (oi z19) (by decide) λ_ _ e=>by cases e.1)) (aV bZ (iG (fI (aRf (aRd (i:=1) rfl t19)) (d_i (fS (i:=2) rfl))) (lE (os ht') (oi z19) (by decide) λ_ _ e=>by cases e.1)) kC))))) H4 (Same.refl _) hb4 _ λy H5 s5 y4=>?_);have hb5:=hb4.same s5;refine mE ((vG (K:=K) (S:=S) bZ (oG (i:=3) bZ rfl y4) (uB bZ (aV bZ (iG (fI (d_i (fS (i:=1) rfl)) (aRf (aRd (i:=2) rfl z19))) (lE (oi t19) (os hz') (by decide) λ_ _ e=>by cases e.2)) (aV bZ (iG (fI d_n (d_i (fS (i:=2) rfl))) (lE on (oi z19) (by decide) λ_ _ e=>by cases e.1)) (aV bZ (iG (fI (d_i (fS (i:=1) rfl)) d_n) (lE (oi t19) on (by decide) λ_ _ e=>by cases e.2)) kC))))) H5 (Same.refl _) hb5 _ λy H6 s6 y5=>?_);have hb6:=hb5.same s6;have s26:=(((s3.trans s4).trans s5).trans s6);refine mE (aRC (K:=K) (S:=S) (k:=18) (j:=3) bZ (oG (i:=3) bZ rfl y5) (uB bZ (aV bZ (iG (fI (oI (cR (d_i (fS (i:=1) rfl)) gY)) (d_i (fS (i:=2) rfl))) (lE ((fO (bK (okI t19) cP) (show 1<64 by decide)).le (ar _) (by decide)) (oi z19) (by decide) λ_ _ e=>by cases e.1)) (aV bZ (iG (fI (d_i (fS (i:=1) rfl)) (aHN (cR (d_i (fS (i:=2) rfl)) gY))) (lE (oi t19) ((aBe (bK (okI z19) cP)).le (ar _) (by decide)) (by decide) λ_ _ e=>by cases e.2)) (aV bZ (iG (fI (d_i (aOX (i:=1) rfl)) (d_i (aOX (i:=2) rfl))) (aAQ n3 n4 λh=>by lia)) kC)))) (Same.refl _) hb6 (by decide) λX xs H7 s7 hX0 hX hl7 hx7=>?_);have hb7:=hb6.same s7;have s27:=s26.trans s7;have hf7:=(s12.trans s27).tup hf;have plus:∀(w:Int) (H8:Hp) (P:ww) (g:ww),0<w->w∣D2 D->H8 P=some (.lst [.ref f,.ref g])->Fr K H8 f t z->Fr K H8 g 1 w->∀Q:VK,(∀p H9,Same H8 H9->H9 p=some (.tup [.int (lo (eM (D2 D) [(t,z),(1,w)]) (D2 D)).1,.int (lo (eM (D2 D) [(t,z),(1,w)]) (D2 D)).2])->Q (.ref p) H9)->wM K [.ref P] H8 Q E0:=λw H8 P g w0 wd hP h1 h2 Q q=>by
  refine⟨P,_,[(t,z),(1,w)],D2 D,rfl,hP,?_,λe he=>?_,show 2<=100 by decide,d2,up d2b (by decide),q⟩
  ·exact Rows.snoc (Rows.snoc Rows.nil (r:=[t,z]) h1) (r:=[1,w]) h2
  ·rcases b8.mp he with rfl|he
   ·exact⟨hz,aGp hzD,up ht (by decide)⟩
   ·rw[br.mp he];exact⟨w0,wd,one2 1999⟩
 have sfo:∀w:Int,0<w->FoD (D2 D) (.tup ([(lo (eM (D2 D) [(t,z),(1,w)]) (D2 D)).1,(lo (eM (D2 D) [(t,z),(1,w)]) (D2 D)).2].map Dt.int)):=λw w0=>by
  refine aKd d2 (Int.dvd_refl _) ?_ d2 d2c;refine up (k:=7+(410+480)) (jI d2 d2b (λe he=>?_) (show 2<=100 by decide)) (by decide);rcases b8.mp he with rfl|he
  ·exact⟨hz,ht⟩
  ·rw[br.mp he];exact⟨w0,one2 409⟩
 refine⟨_,rfl,.inl ⟨rfl,_,.of hX⟩,_,rfl,C9,λg hg=>⟨C9,λP hP=>?_⟩⟩;have sg:=(aD hg (.tup [.int 1,.int 2])).trans (aD hP (.lst [.ref f,.ref g]));refine plus 2 _ P g (by decide) ⟨D*10^20,by unfold D2;rw[ff]⟩ aB (sg.tup hf7) (aD hP _ |>.tup (.of aB)) (λx H1=>bY (V.ref X) [x] H1 λ_ H1=>cV K (qO K) (wM K) {nx:=λ_ H'=>Q .non H',rt:=Q} ([some (.ref f),some (.int t),some (.int z),some (.ref X)]:St) H1) λp H9 s9 hp=>?_
 have s79:=sg.trans s9;have hX9:=s79 _ _ hX;refine⟨X,xs,_,rfl,rfl,hX9,bj hl7 (by decide),?_⟩;have b9:BLs (X::S) H9:=(hb7.same s79).cons hX9;have x9:∀x∈xs++[V.ref p],FoP K (D2 D) (hd (X::S) H9) x:=λx hm=>by
  rcases cg.mp hm with hm|hm
  ·exact bZ _ _ _ (aI s79) (hx7 x hm)
  ·rw[br.mp hm];exact aGd (dS (.of hp) b9) (sfo 2 (by decide))
 have hf9:Fr K H9 f t z:=s79.tup hf7;have nXf:SqT K (upd H9 X (.lst (xs++[.ref p]))) f [.int t,.int z]:=aCh hf9 hX9;have hXu:upd H9 X (.lst (xs++[.ref p])) X=some (.lst (xs++[.ref p])):=aB;have x9':∀x∈xs++[V.ref p],FoP K (D2 D) (hd (X::S) (upd H9 X (.lst (xs++[.ref p])))) x:=λx hm=>by
  rw[vI (by simp)];exact x9 x hm
 have sH:Same H (upd H9 X (.lst (xs++[.ref p]))):=bO ((s12.trans s26).free hX0) ((s12.trans s27).trans s79);have bu:BLs S (upd H9 X (.lst (xs++[.ref p]))):=hb.same sH;have lxs:(xs++[V.ref p]).length<=22:=by rw[aq,gg];lia
 generalize upd H9 X (.lst (xs++[.ref p]))=G at *;generalize xs++[V.ref p]=xs2 at *;refine⟨_,rfl,.inl ⟨rfl,_,.of hXu⟩,_,rfl,10,20,rfl,rfl,⟨by decide,by decide,by decide⟩,C9,λg2 hg2=>⟨C9,λP2 hP2=>?_⟩⟩;have sg2:=(aD hg2 (.tup [.int 1,.int (10^20)])).trans (aD hP2 (.lst [.ref f,.ref g2]));refine plus (10^20) _ P2 g2 (by decide) ⟨D*2,by unfold D2;rw[fe 2,ff]⟩ aB (sg2.tup nXf) (aD hP2 _ |>.tup (.of aB)) (λx H1=>bY (V.ref X) [x] H1 λ_ H1=>(aH (cK (aC 3)) aG) {nx:=λ_ H'=>Q .non H',rt:=Q} ([some (.ref f),some (.int t),some (.int z),some (.ref X)]:St) H1) λp2 H10 s10 hp2=>?_
 have sG:=sg2.trans s10;have hXG:=sG _ _ hXu;refine⟨X,xs2,_,rfl,rfl,hXG,bj lxs (by decide),_,rfl,?_⟩;have sF:Same H (upd H10 X (.lst (xs2++[.ref p2]))):=bO ((s12.trans s26).free hX0) (sH.trans sG);refine q _ _ sF ⟨X,_,rfl,by rw[cL (hb6.new hX0)];exact aB,by rw[aq,gg];lia,λx hm=>?_⟩;refine bZ _ _ _ (xY (A:=X)) ?_;rw[vI (by simp)];rcases cg.mp hm with hm|hm
 ·exact bZ _ _ _ (aI sG) (x9' x hm)
 ·rw[br.mp hm];exact aGd (dS (.of hp2) ((bu.same sG).cons hXG)) (sfo (10^20) (by decide))
def Fl (K:aa)(H:Hp)(x:V):Prop:=(∃i:Int,x=.int i)\/∃(b:ww) (rs:List Int),x=.ref b/\SqT K H b (rs.map V.int)
def Fl.x {K:aa}{H H':Hp}{x:V}{p:ww}{ys:List V}(h:Fl K H x)(hp:H p=some (.lst ys))(s:SameX p H H'):Fl K H' x:=h.imp (λh=>h) λ⟨b,rs,e,h⟩=>⟨b,rs,e,fL h hp s⟩
theorem aJw:∀{xs:List V},(∀x∈xs,Fl K H x)->∃ds,ShL K H ds xs/\kZ ds<=1
 |[],_=>⟨[],rfl,bh _⟩
 |x::xs,h=>by
  obtain⟨ds,h1,h2⟩:=aJw λy hy=>h y (bq _ hy);rcases h x (by simp) with⟨i,rfl⟩|⟨b,rs,rfl,hb⟩
  ·exact⟨.int i::ds,⟨_,_,rfl,rfl,h1⟩,by
    have:dep (.int i)=0:=by simp[dep]
    rw[kZ,this];lia⟩
  ·refine⟨.tup (rs.map Dt.int)::ds,⟨_,_,rfl,⟨b,_,rfl,hb,ShL.ints _⟩,h1⟩,?_⟩;have e:kZ (rs.map Dt.int)=0:=by
    induction rs with
    |nil=>rfl
    |cons a r ih=>rw[de,kZ,show kZ (r.map Dt.int)=0 from by
      clear ih hb
      induction r with
      |nil=>rfl
      |cons a r ih=>rw[de,kZ,ih];rfl];rfl
   have:dep (.tup (rs.map Dt.int))=1:=by rw[dep,e]
   rw[kZ,this];lia
def aCT {fs ls:List V}{k:Nat}(hk:k<ls.length):((fs++[ls[k]])++ls.eraseIdx k).Perm (fs++ls):=by
 rw[gx];refine Av _ ?_;have e:ls=ls.take k++ls[k]::ls.drop (k+1):=by simp
 have e2:ls.eraseIdx k=ls.take k++ls.drop (k+1):=List.eraseIdx_eq_take_drop_succ _ _;rw[e2];refine List.Perm.trans ?_ (List.Perm.of_eq e.symm);show(ls[k]::(ls.take k++ls.drop (k+1))).Perm _;exact zj.symm
def aLT (K:aa):Sp:=λvs H Q _=>∃(p l:ww) (ns:List Int) (b:ww) (os:List V),vs=[.ref p,.ref b]/\Pen H p l ns/\H b=some (.lst os)/\os.length<=64/\(∀x∈os,Fl K H x)/\∀(F:ww) (ms:List V) H',Pen H' p l ns->SameX p H H'->H F=none->H' F=some (.lst ms)->ms.Perm os->Q (.ref F) H'
def aMG:qQ1 (aLT K) (mG K iE) ["feed","some","left","found"]:=by
 intro vs H Q E h;obtain⟨p,lp,ns,b,os,rfl,hP,hb,o8,hf,q⟩:=h;refine⟨_,rfl,.inl ⟨b,_,rfl,.inl (.of hb),λl hl=>⟨C7,λF hF=>?_⟩⟩⟩;have s1:=aD hl (.lst (os));have s2:=aD hF (.lst []);have nl:=hP.ne hl;have nF:=(hP.x s1).ne hF;have hFH:=s1.free hF;have lF:l≠F:=aJ (show upd H l (.lst (os)) l=some (.lst (os)) from aB) hF;refine⟨λm σ' H'=>∃(ls fs:List V),σ'=[some (.ref p),some (.ref b),some (.ref l),some (.ref F)]/\Pen H' p lp ns/\H' l=some (.lst (ls))/\H' F=some (.lst (fs))/\SameX p H H'/\ls.length=m/\(fs++ls).Perm os,
  ⟨os.length,os,[],rfl,hP.x (s1.trans s2),s2 _ _ aB,aB,(s1.trans s2).x,rfl,List.Perm.refl _⟩,?_⟩
 rintro m σ' H' ⟨ls,fs,rfl,hP',el,eF,sx,rfl,pm⟩;obtain⟨kN,zN,hN,_⟩:=hP;have eN:=hN;have le:fs.length+ls.length=os.length:=by rw[<- pm.length_eq,aq]
 refine⟨_,rfl,C7,λpe hpe=>?_⟩;have se:=aD hpe (.lst []);have hfl:∀x∈ls,Fl K (upd H' pe (.lst [])) x:=λx hx=>(hf x (pm.mem_iff.mp (du _ hx))).x eN (sx.trans se.x);obtain⟨ds,hsh,hdp⟩:=aJw hfl;refine⟨.lst ds,.lst [],by rw[dep];lia,⟨l,_,rfl,.of (se _ _ el),hsh⟩,⟨pe,[],rfl,.of aB,rfl⟩,_,rfl,?_⟩;cases ls with
 |nil=>
  obtain rfl:ds=[]:=List.eq_nil_of_length_eq_zero hsh.length;refine bB (by simp[eqD,eqL]) ?_;exact⟨_,rfl,q F fs _ (hP'.x se) (sx.trans se.x) hFH (se _ _ eF) (by rw[ia] at pm;exact pm)⟩
 |cons a ls=>
  obtain⟨d0,ds,rfl⟩:∃d0 ds',ds=d0::ds':=by
   cases ds with
   |nil=>cases hsh.length
   |cons d0 ds'=>exact⟨d0,ds',rfl⟩
  refine aW (by simp[eqD,eqL]) ?_;clear hfl hsh;have hPe:=hP'.x se;have ele:=se _ _ el;have eFe:=se _ _ eF;have sxe:=sx.trans se.x;generalize upd H' pe (.lst [])=G1 at *;rw[c5] at le;refine⟨λσ2 H2=>∃m',m'<(a::ls).length/\∃(ls fs:List V),σ2=[some (.ref p),some (.ref b),some (.ref l),some (.ref F)]/\Pen H2 p lp ns/\H2 l=some (.lst (ls))/\H2 F=some (.lst (fs))/\SameX p H H2/\ls.length=m'/\(fs++ls).Perm os,λ_ _ h=>h,?_⟩;refine⟨_,rfl,.inl ⟨rfl,_,.of eFe⟩,_,rfl,.inl ⟨rfl,_,.of ele⟩,_,rfl,_,rfl,l,_,rfl,.inl (.of ele),p,lp,ns,ls.length+1,by rw[c5];rfl,hPe,by lia,bj (show ls.length+1<=64 by lia) (by decide),λr H2 hr hP2 sx2=>?_⟩;have el2:H2 l=some (.lst (a::ls)):=sx2 _ _ nl.1 ele;have eF2:H2 F=some (.lst (fs)):=sx2 _ _ nF.1 eFe;have hr':r<(a::ls).length:=by rw[c5];exact hr
  refine⟨l,_,_,r,(a::ls)[r],rfl,rfl,el2,by lia,by lia,aQl hr',by rw[ah hr'],?_⟩;refine⟨F,fs,_,rfl,rfl,by rw[aM (gf lF)];exact eF2,bj (show fs.length<=64 by lia) (by decide),?_⟩;refine⟨ls.length,by rw[c5];lia,(a::ls).eraseIdx r,fs++[(a::ls)[r]],rfl,(hP2.upd nl.1 nl.2).upd nF.1 nF.2,by rw[aM lF];exact aB,by rw[aB],λc o hc e=>?_,by rw[List.length_eraseIdx_of_lt hr'];rfl,(aCT hr').trans pm⟩;rw[aM (aJ e hFH),aM (aJ e hl)];exact sx2 _ _ hc (sxe _ _ hc e)
def BP (K:aa)(W:Cts):Hp->V->Prop:=λG v=>∃a ys,v=.ref a/\G a=some (.lst ys)/\bQ K G ys (cG W)
def jR:Mo (BP K W):=λ_ _ _ s ⟨a,ys,e,h,r⟩=>⟨a,ys,e,s _ _ h,bA r λb e=>Pt.same s⟩
def aKC (h:Pt K H b e)(hb:BLs S H):Pt K (hd S H) b e:=by
 obtain⟨q,f,h1,h2,h3⟩:=h;exact⟨q,f,dS h1 hb,dS h2 hb,dS h3 hb⟩
def PiE (D:Int)(W:Cts):Prop:=∀e∈W,okM 10 3 (uO e.1)/\FoD D (.tup ([e.2.1,e.2.2].map Dt.int))
def aPX {K:aa}{n:Nat}{D:Int}{G:Hp}{b:ww}{e:List Nat×(Int×Int)}(h:Pt K G b (e.1.map Int.ofNat,e.2))(h1:okM 10 3 (uO e.1))(h2:FoD D (.tup ([e.2.1,e.2.2].map Dt.int))):EnP K n D G (.ref b):=by
 obtain⟨q,f,hb,hq,hf⟩:=h;exact aNZ hb ⟨uO e.1,⟨q,_,rfl,hq,ShL.ints _⟩,h1⟩ ⟨.tup ([e.2.1,e.2.2].map Dt.int),⟨f,_,rfl,hf,ShL.ints [e.2.1,e.2.2]⟩,h2⟩
def aKz (h:bQ K G ys (cG W))(hp:PiE D W):∀y∈ys,EnP K n D G y:=λy hy=>by
 obtain⟨i,hi⟩:=u4 hy;obtain⟨e,b,q,f,he,rfl,hb,hq,hf⟩:=sY h hi;obtain⟨h1,h2⟩:=hp e (au he);exact aPX ⟨q,f,hb,by rw[<- cC];exact hq,hf⟩ h1 h2
def aBb (h:BP K W G v)(hp:PiE D W)(hk:W.length<=k):LP (EnP K n D) k G v:=by
 obtain⟨a,ys,rfl,ha,r⟩:=h;exact⟨a,ys,rfl,ha,by rw[r.1];unfold cG;rw[af];exact hk,aKz r hp⟩
def Ba.pi (b:Ba n D W)(n6:n<=6):PiE (D2 D) W:=λe he=>by
 obtain⟨h1,h2,h3,h4⟩:=b.ent e he;exact⟨(aOF n6 h1).le (by decide) (by decide),aAQ (av h4 C6) (cJ h2 b.d0 h3 (av b.db C6)) λ_=>aGp h3⟩
def aOx (h:bQ K G xs (cG W))(g:bQ K G ys (cG Z)):bQ K G (xs++ys) (cG (W++Z)):=by
 have e:cG (W++Z)=cG W++cG Z:=by unfold cG;rw[c4]
 refine⟨by rw[aq,e,aq,h.1,g.1],λi x hx=>?_⟩;rw[e] at hx;have hl:=h.1;by_cases c:i<(cG W).length
 ·rw[dg c] at hx;obtain⟨b,h1,h2⟩:=h.2 i x hx;exact⟨b,by rw[dg (by lia)];exact h1,h2⟩
 ·rw[c9 (by lia)] at hx;obtain⟨b,h1,h2⟩:=g.2 _ x hx;exact⟨b,by rw[c9 (by lia),hl];exact h1,h2⟩
def aQm (K:aa):Sp:=λvs H Q _=>∃(l m:ww) (ys zs:List V) (W Z:Cts),vs=[.ref l,.ref m]/\H l=some (.lst ys)/\H m=some (.lst zs)/\bQ K H ys (cG W)/\bQ K H zs (cG Z)/\((W++Z).map (·.1)).Nodup/\(W++Z).length<=20/\∀F us H',Same H H'->H' F=some (.lst us)->H F=none->us.Perm (ys++zs)->Q (.ref F) H'
def aPN:qQ1 (aQm K) (jS K) ["some","more"]:=by
 intro vs H Q E h;obtain⟨l,m,ys,zs,W,Z,rfl,hl,hm,rW,rZ,nd,len,q⟩:=h;have l1:ys.length=W.length:=by rw[rW.1];unfold cG;rw[af]
 have l2:zs.length=Z.length:=by rw[rZ.1];unfold cG;rw[af]
 rw[aq] at len;refine⟨_,rfl,_,rfl,.inl ⟨l,m,ys,zs,rfl,rfl,hl,hm,bo (show _<=20 by lia) (by decide),λp hp=>?_⟩⟩;have sp:=aD hp (.lst (ys++zs));refine⟨p,ys++zs,cG (W++Z),rfl,.inl (.of aB),bA (aOx rW rZ) λb e=>Pt.same sp,?_,?_,λus W' _ _ pu _ F hF=>?_⟩
 ·have e:(cG (W++Z)).map (·.1)=nN ((W++Z).map (·.1)):=by
   unfold cG nN;rw[fg,fg];rfl
  rw[e];unfold nN;exact yg _ (λa b hne e=>hne (iZ e)) nd
 ·unfold cG;rw[af,aq];lia
 ·exact q F us _ (sp.trans (aD hF _)) aB (sp.free hF) pu
def aMC (hv:σ[1]?=some (some v))(hb:BP K W (hd S H) v)(hZ:Ep (BP K Z) S u σ H)(nd:((W++Z).map (·.1)).Nodup)(hl:W.length<=15)(hz:Z.length<=2)(hp:PiE D W)(hq:PiE D Z):Ep (LP (EnP K n D) 17) S (aL (aQm K) [] E0 (aA (aC 1) (aA u aF))) σ H:=λH1 s bl Q q=>by
 refine⟨_,hv,hZ H1 s bl _ λy H2 s2 hy=>?_⟩;obtain⟨a,ys,rfl,ha,rW⟩:=jR _ _ _ (aI (s.trans s2)) hb;obtain⟨m,zs,rfl,hm,rZ⟩:=hy;have b2:=bl.same s2;refine⟨a,m,ys,zs,W,Z,rfl,aZ _ _ ha,aZ _ _ hm,bA rW λb e=>Pt.same aZ,bA rZ λb e=>Pt.same aZ,nd,by rw[aq];lia,λF us H3 s3 hF hF0 pu=>?_⟩;have l1:ys.length=W.length:=by rw[rW.1];unfold cG;rw[af]
 have l2:zs.length=Z.length:=by rw[rZ.1];unfold cG;rw[af]
 refine q _ _ (s2.trans s3) ⟨F,us,rfl,by rw[cL (b2.new hF0)];exact hF,by rw[pu.length_eq,aq];lia,λx hx=>?_⟩;refine bL _ _ _ (aI s3) ?_;rcases cg.mp (pu.mem_iff.mp hx) with h|h
 ·exact aKz rW hp x h
 ·exact aKz rZ hq x h
section
variable {K:aa}{S:List ww}{H:Hp}{σ:St}{Φ:Hp->V->Prop}
def PoV (t:TO)(σ:St)(o:Option Int):Prop:=∀(H:Hp) (Q:Option Int->Hp->Prop),Q o H->t σ H Q
def aPm:PoV bN σ none:=λ_ _ q=>q
def sJ (h:σ[i]?=some (some (.int y))):PoV (dQ (aC i)) σ (some y):=λ_ _ q=>⟨_,h,_,rfl,q⟩
def aAK (h:σ[i]?=some (some (.int y))):PoV (dQ (tOp (aR K) (aC i) (tC (.int c)))) σ (some (y+c)):=λ_ _ q=>⟨_,h,_,rfl,q⟩
def aRL:PoV (dQ (tC (.int c))) σ (some c):=λ_ _ q=>⟨_,rfl,q⟩
def six (h:0<=y):HT.sIx n d (some y)=min y.toNat n:=by
 unfold HT.sIx;simp only;rw[C4 (by lia)]
def yI (xs:List V)(lo hi:Option Int):(eK xs lo hi).length=min (HT.sIx xs.length xs.length hi-HT.sIx xs.length 0 lo) (xs.length-HT.sIx xs.length 0 lo):=by
 unfold eK;rw[dj,ip]
def aGs (h:0<=y)(hc:0<=c):(eK xs none (some y)).length+(eK xs (some (y+c)) none).length<=xs.length:=by
 rw[yI,yI,six h,six (by lia)];show min (min y.toNat xs.length-0) (xs.length-0)+min (xs.length-min (y+c).toNat xs.length) (xs.length-min (y+c).toNat xs.length)<=_;lia
def aKD (h:0<=y)(hc:0<=c):(eK xs (some y) (some (y+c))).length<=c.toNat:=by
 rw[yI,six h,six (by lia)];lia
def aHp (hc:0<=c):(eK xs none (some c)).length<=c.toNat:=by
 rw[yI,six hc];show min (min c.toNat xs.length-0) (xs.length-0)<=_;lia
def aNJ {t:TE}{lo hi:TO}{k j:Nat}{o1 o2:Option Int}(mo:Mo Φ)(h:Ep (LP Φ k) S t σ H)(p1:PoV lo σ o1)(p2:PoV hi σ o2)(hk:∀xs:List V,(eK xs o1 o2).length<=j):Ep (LP Φ j) S (tSl (nD K) t lo hi) σ H:=λH1 s hb Q q=>
 h H1 s hb _ λx H2 s2 ⟨a,xs,e1,ha,hl,hx⟩=>p1 _ _ (p2 _ _ (by
  subst e1;refine .inl ⟨a,xs,rfl,.of (aZ _ _ ha),λp hp=>?_⟩;have sp:=aD hp (.lst (eK xs o1 o2));exact q _ _ (s2.trans sp) ⟨p,_,rfl,by rw[cL ((hb.same s2).new hp)];exact aB,hk _,λx hm=>mo _ _ _ (aI sp) (hx x (oE hm))⟩))
def aHB (mo:Mo Φ)(hv:σ[i]?=some (some x))(hx:LP Φ k (hd S H) x)(p1:PoV t1 σ (some y))(p2:PoV t2 σ (some (y+c)))(y0:0<=y)(c0:0<=c)(h:Ep (LP Φ j) S u σ H)(hz:k+j<=300:=by decide):Ep (LP Φ (k+j)) S (tOp (aR K) (tOp (aR K) (tSl (nD K) (aC i) bN t1) u) (tSl (nD K) (aC i) t2 bN)) σ H:=λH1 s hb Q q=>by
 obtain⟨a,xs,rfl,ha,hl,hx'⟩:=jQ mo _ _ _ (aI s) hx;have ct:=aGs (xs:=xs) y0 c0;refine⟨_,hv,p1 _ _ (.inl ⟨a,xs,rfl,.of (aZ _ _ ha),λp hp=>?_⟩)⟩;have sp:=aD hp (.lst (eK xs none (some y)));refine h _ (s.trans sp) (hb.same sp) _ λw H2 s2 hw=>?_;obtain⟨b,ys,rfl,hb2,gl,hy⟩:=hw;have bl2:=(hb.same sp).same s2;refine .inl ⟨p,b,_,ys,rfl,rfl,s2 _ _ aB,aZ _ _ hb2,bo (show _<=300 by lia) (by decide),λr hr=>?_⟩;have sr:=aD hr (.lst (eK xs none (some y)++ys));have s3:=(sp.trans s2).trans sr;refine⟨_,hv,p2 _ _ (.inl ⟨a,xs,rfl,.of (s3 _ _ (aZ _ _ ha)),λg hg=>?_⟩)⟩;have sg:=aD hg (.lst (eK xs (some (y+c)) none));refine .inl ⟨r,g,_,_,rfl,rfl,sg _ _ aB,aB,bo (show _<=300 by rw[aq];lia) (by decide),λz hz0=>?_⟩;have sz:=aD hz0 (.lst ((eK xs none (some y)++ys)++eK xs (some (y+c)) none));refine q _ _ ((s3.trans sg).trans sz) ⟨z,_,rfl,by rw[cL (((bl2.same sr).same sg).new hz0)];exact aB,by rw[aq,aq];lia,λx hm=>?_⟩;rcases cg.mp hm with hm|hm
 ·rcases cg.mp hm with hm|hm
  ·exact mo _ _ _ (aI ((s3.trans sg).trans sz)) (hx' x (oE hm))
  ·exact mo _ _ _ (aI ((sr.trans sg).trans sz)) (hy x hm)
 ·exact mo _ _ _ (aI ((s3.trans sg).trans sz)) (hx' x (oE hm))
def aPK (mo:Mo Φ)(hv:σ[i]?=some (some x))(hx:LP Φ k (hd S H) x)(p1:PoV t1 σ (some y))(p2:PoV t2 σ (some (y+c)))(y0:0<=y)(c0:0<=c)(hz:k<=300:=by decide):Ep (LP Φ k) S (tOp (aR K) (tSl (nD K) (aC i) bN t1) (tSl (nD K) (aC i) t2 bN)) σ H:=λH1 s hb Q q=>by
 obtain⟨a,xs,rfl,ha,hl,hx'⟩:=jQ mo _ _ _ (aI s) hx;have ct:=aGs (xs:=xs) y0 c0;refine⟨_,hv,p1 _ _ (.inl ⟨a,xs,rfl,.of (aZ _ _ ha),λp hp=>?_⟩)⟩;have sp:=aD hp (.lst (eK xs none (some y)));refine⟨_,hv,p2 _ _ (.inl ⟨a,xs,rfl,.of (sp _ _ (aZ _ _ ha)),λg hg=>?_⟩)⟩;have sg:=aD hg (.lst (eK xs (some (y+c)) none));refine .inl ⟨p,g,_,_,rfl,rfl,sg _ _ aB,aB,bo (show _<=300 by lia) (by decide),λz hz0=>?_⟩;have sz:=aD hz0 (.lst (eK xs none (some y)++eK xs (some (y+c)) none));refine q _ _ ((sp.trans sg).trans sz) ⟨z,_,rfl,by rw[cL (((hb.same sp).same sg).new hz0)];exact aB,by rw[aq];lia,λx hm=>?_⟩;rcases cg.mp hm with hm|hm<;>exact mo _ _ _ (aI ((sp.trans sg).trans sz)) (hx' x (oE hm))
def aQi (mo:Mo Φ)(h:Ep (LP Φ 1) S t σ H):Ep (LP Φ 2) S (tOp aEA t (AC 2)) σ H:=λH1 s hb Q q=>
 h H1 s hb _ λx H2 s2 ⟨a,xs,e1,ha,hl,hx⟩=>by
  subst e1;refine⟨a,2,xs,rfl,rfl,aZ _ _ ha,by decide,by decide,bo (show _<=2 by show xs.length*2<=2;lia) (by decide),λp hp=>?_⟩;have sp:=aD hp (.lst (dr (2:Int).toNat xs).flatten);have e:(dr (2:Int).toNat xs).flatten=xs++xs:=by simp[dr]
  refine q _ _ (s2.trans sp) ⟨p,_,rfl,by rw[cL ((hb.same s2).new hp)];exact aB,by rw[e,aq];lia,λx hm=>?_⟩;rw[e] at hm;exact mo _ _ _ (aI sp) (hx x ((cg.mp hm).elim id id))
def aRi (K:aa):Sp:=λvs H Q _=>∃(S:List ww) (t:V) (y:Int) (m:Nat) (D:Int),vs=[t,.int y]/\0<=y/\BLs S H/\LP (EnP K m D) 15 (hd S H) t/\∀x H',Same H H'->LP (EnP K m D) 17 (hd S H') x->Q x H'
def aPw:qQ1 (aRi K) (iR K) ["some","at","pair"]:=by
 intro vs H Q E h;obtain⟨S,t,y,m,D,rfl,y0,hb,ht,q⟩:=h;refine(aNJ (K:=K) (S:=S) (j:=2) bL (oG (i:=0) bL rfl ht) (sJ (i:=1) rfl) (aAK (i:=1) (c:=2) rfl) λxs=>aKD y0 (by decide)) H (Same.refl _) hb _ λx H1 s1 hx=>?_;have ht1:=jQ bL _ _ _ (aI s1) ht;refine(aHB (K:=K) (S:=S) (i:=0) (c:=2) bL rfl ht1 (sJ (i:=1) rfl) (aAK (i:=1) rfl) y0 (by decide) (aMF bL (oG (i:=2) bL rfl hx))) H1 (Same.refl _) (hb.same s1) _ λz H2 s2 hz=>q z H2 (s1.trans s2) hz
structure Tb (Θ:Hp->V->Prop)(H G:Hp)(p l F:ww)(ns:List Int)(c:Nat)(H':Hp):Prop where
 pen:Pen H' p l ns
 sx:SameX p H H'
 sm:Same (hd [F,p] G) (hd [F,p] H')
 fo:∃ys,H' F=some (.lst ys)/\ys.length<=c/\∀y∈ys,Θ (hd [F,p] H') y
def Tb.bls (B:Tb Θ H G p l F ns c H1):BLs [F,p] H1:=λb hb=>by
 rcases b8.mp hb with rfl|hb
 ·obtain⟨ys,h,_⟩:=B.fo;exact⟨ys,h⟩
 ·rw[br.mp hb];obtain⟨k,z,h,_⟩:=B.pen;exact⟨_,h⟩
def Tb.same (mo:Mo Θ)(B:Tb Θ H G p l F ns c H1)(s:Same H1 H2):Tb Θ H G p l F ns c H2:=by
 obtain⟨ys,h1,h2,h3⟩:=B.fo;exact⟨B.pen.x s,B.sx.trans s.x,B.sm.trans (aI s),ys,s _ _ h1,h2,λy hy=>mo _ _ _ (aI s) (h3 y hy)⟩
def Tb.draw (mo:Mo Θ)(B:Tb Θ H G p l F ns c H1)(hF:F≠p)(hP:Pen H2 p l ns)(s:SameX p H1 H2):Tb Θ H G p l F ns c H2:=by
 obtain⟨ys,h1,h2,h3⟩:=B.fo;have x:Same (hd [F,p] H1) (hd [F,p] H2):=aNs (by simp) s;exact⟨hP,B.sx.trans s,B.sm.trans x,ys,s _ _ hF h1,h2,λy hy=>mo _ _ _ x (h3 y hy)⟩
def Tb.le (B:Tb Θ H G p l F ns c H1)(h:c<=k):Tb Θ H G p l F ns k H1:=by
 obtain⟨ys,h1,h2,h3⟩:=B.fo;exact⟨B.pen,B.sx,B.sm,ys,h1,bo h2 h,h3⟩
def Tb.here (B:Tb Θ H G p l F ns c H1):Tb Θ H H1 p l F ns c H1:=⟨B.pen,B.sx,Same.refl _,B.fo⟩
def aCB (mo:Mo Θ)(B:Tb Θ H G p l F ns c H1)(hl:l≠F)(hp:p≠F)(hF:H F=none)(hc:c<=2000)(v3:σ[3]?=some (some (.ref F)))(h:Ep Θ [F,p] t σ H1)(q:∀H2,Tb Θ H G p l F ns (c+1) H2->D.nx σ H2):fF (tBM K "list" bY (aC 3) (aA t aF)) D σ H1:=by
 obtain⟨ys,hys,yl,hy⟩:=B.fo;refine⟨_,v3,.inl ⟨rfl,_,.of hys⟩,h H1 (Same.refl _) B.bls _ λx H2 s2 hx=>?_⟩;have B2:=B.same mo s2;have e:=vI (S:=[F,p]) (H:=H2) (p:=F) (o:=.lst (ys++[x])) (by simp);refine⟨F,ys,x,rfl,rfl,s2 _ _ hys,bj (show ys.length<=2000 by lia) (by decide),q _ ⟨B2.pen.upd (gf hp) (gf hl),λb o hb e=>?_,by rw[e];exact B2.sm,ys++[x],aB,by rw[aq,gg];lia,λy hy'=>?_⟩⟩
 ·rw[aM (aJ e hF)];exact B2.sx _ _ hb e
 ·rw[e];rcases cg.mp hy' with hy'|hy'
  ·exact mo _ _ _ (aI s2) (hy y hy')
  ·rw[br.mp hy'];exact hx
end
def aBo (h:SqT K G b (s.map cB)):Sh K G (uO s) (.ref b):=⟨b,_,rfl,by rw[<- cC];exact h,ShL.ints _⟩
def aMV (hv:σ[i]?=some (some (.ref b)))(h:SqT K (hd S H) b (s.map cB)):Ep (DtP K (uO s)) S (aC i) σ H:=aAo aNN hv (aBo h)
def aQv (hv:σ[i]?=some (some (.ref b)))(h:SqT K (hd S H) b (s.map cB))(va:Vl (.int t) ta σ)(vz:Vl (.int z) tz σ):Ep (DtP K (ptD (s,(t,z)))) S (bH (aA (aC i) (aA (bH (aA ta (aA tz aF))) aF))) σ H:=
 fI (aMV hv h) (fI (d_i va) (d_i vz))
def aJQ (h:AaD K (Z.map ptD) S ts σ H)(hk:Z.length<=20):Ep (BP K Z) S (dC ts) σ H:=λH1 s hb Q q=>
 h H1 s hb _ λxs H2 s2 hxs=>⟨by rw[<- hxs.length,af];exact bo hk (by decide),λp hp=>by
  have sp:=aD hp (.lst xs);exact q _ _ (s2.trans sp) ⟨p,xs,rfl,by rw[cL ((hb.same s2).new hp)];exact aB,bA (aCn hxs) λb e=>Pt.same (aI sp)⟩⟩
def aKt:Vl (.int (-c)) (tUn pK (tC (.int c))) σ:=λ_ _ q=>⟨_,rfl,q⟩
def aGK:s.map Int.ofNat∈nN L↔s∈L:=by
 unfold nN;rw[cw];exact⟨λ⟨t,h,e⟩=>iZ e▸h,λh=>⟨s,h,rfl⟩⟩
def SdP (K:aa)(n:Nat):Hp->V->Prop:=λG x=>∃(b:ww) (s:List Nat),x=.ref b/\SqT K G b (s.map cB)/\s∈bP n
def aQH:Mo (SdP K n):=λ_ _ _ s ⟨b,t,e,h,r⟩=>⟨b,t,e,s.tup h,r⟩
def aKo (h:Rows K H xs R)(hb:BLs S H):Rows K (hd S H) xs R:=⟨h.1,λi e he=>let⟨b,h1,h2⟩:=h.2 i e he;⟨b,h1,dS h2 hb⟩⟩
def uM (hl:s.length<=6)(h:∀x∈s,x<8):okM 10 3 (uO s):=by
 refine(fO (yA (k:=0) (e:=0) λd hd=>?_) (by rw[af,af];lia)).le (by rw[af,af];lia) (by decide);obtain⟨i,hi,rfl⟩:=cw.mp hd;obtain⟨k,hk,rfl⟩:=cw.mp hi;have:=h k hk;exact okI (av (show(Int.ofNat k).natAbs<2^3 by show k<8;lia) C6)
def aHd (h:okM 10 3 (uO s))(ht:t.natAbs<2^980)(hz:z.natAbs<2^1000)(hd:z∣D):PiE D [(s,(t,z))]:=λe he=>by
 rw[br.mp he];exact⟨h,aAQ ht hz λ_=>hd⟩
def aOu (h:PiE D W)(g:PiE D Z):PiE D (W++Z):=λe he=>(cg.mp he).elim (h e) (g e)
def vK {x:Int}{k:Nat}(h:x.natAbs<4)(hk:2<=k):x.natAbs<2^k:=av (show x.natAbs<2^2 from h) (az (by decide) hk)
def jA {W:Cts}{s:List Nat}{e:Int×Int}(nd:(W.map (·.1)).Nodup)(h:s∉W.map (·.1)):((W++[(s,e)]).map (·.1)).Nodup:=by
 rw[c4];exact my.mpr ⟨nd,y9 _ _,λa ha b hb=>by
  have:=br.mp hb;subst this;intro e;exact h (e▸ha)⟩
def iF (n:Nat)(s:List Nat):List Nat:=(bc n).filter λk=>!s.contains k
def aEU:(bc (i+1)).filter p=(bc i).filter p++if p i=true then[i] else[]:=by
 rw[sk,je];congr 1;cases h:p i<;>simp[h]
def aRj (K:aa):Sp:=λvs H Q _=>∃(p l:ww) (ns:List Int) (n:Nat) (t:ww) (ys:List V) (W:Cts) (D:Int),vs=[.ref p,.ref t,.int (n:Int)]/\Pen H p l ns/\3<=n/\n<=6/\H t=some (.lst ys)/\bQ K H ys (cG W)/\Ba n D W/\t≠p /\
 ∀F zs H',Pen H' p l ns->SameX p H H'->H F=none->H' F=some (.lst zs)->zs.length<=128->(∀y∈zs,LP (EnP K n (D2 D)) 17 H' y)->Q (.ref F) H'
def aPr:qQ1 (aRj K) (iN K (aQm K) (aLT K) (aGu K)) ["feed","some","many","found","known","side","rest"]:=by
 intro vs H Q E h;obtain⟨p,l,ns,n,t,ys,W,D,rfl,hP,n3,n6,ht,rW,ba,tp,q⟩:=h;have b0:BLs [p] H:=λb hb=>by
  rw[br.mp hb];obtain⟨k,z,h,_⟩:=hP;exact⟨_,h⟩
 have mo:Mo (LP (EnP K n (D2 D)) 17):=jQ bL;have yl:ys.length=W.length:=by rw[rW.1];unfold cG;rw[af]
 have wl:=ba.len;refine mE ?_;refine aPj mo kC (Same.refl _) b0 (by decide) λF fs G s1 hF0 hF fl hfs=>?_;have nF:=hP.ne hF0;have B0:Tb (LP (EnP K n (D2 D)) 17) H G p l F ns 0 G:=⟨hP.x s1,s1.x,Same.refl _,fs,hF,by lia,hfs⟩;have hFp:F≠p:=nF.1;have hFl:l≠F:=gf nF.2;have tF:t≠F:=aJ ht hF0;have tS:t∉[F,p]:=by simp[tF,tp]
 have rG:=bA rW λb e=>Pt.same s1;have htG:=s1 _ _ ht;refine⟨_,rfl,t,rfl,.inl ⟨⟨_,.of htG⟩,λA hA=>aIl (j:=0) aLa htG rG (by lia) hA λσ3 zs H3 s3 hA3 r3=>?_⟩⟩;rw[<- aGP] at r3;have nA:A∉[F,p]:=B0.bls.new hA;have B3:=B0.same mo s3;have r3':=aKo r3 B3.bls;have hA3':hd [F,p] H3 A=some (.lst zs):=by rw[cL nA];exact hA3
 have bp3:BP K W (hd [F,p] H3) (.ref t):=⟨t,ys,rfl,by rw[cL tS];exact s3 _ _ htG,bA rG λb e h=>aKC (Pt.same s3 h) B3.bls⟩;refine⟨_,rfl,_,rfl,n,rfl,n3,n6,λC cs H4 s4 hC0 hC rC=>?_⟩;have B4:=B3.same mo s4;have cS:∀x∈cs,SdP K n H4 x:=λx hx=>by
  obtain⟨i,hi⟩:=u4 hx;obtain⟨s,b,hs,rfl,hb⟩:=gO rC hi;exact⟨b,s,rfl,hb,au hs⟩
 have cl:cs.length<=64:=by
  rw[rC.1,cO];unfold bP;rw[dj,ip,dG];have:2^n<=2^6:=az (by decide) n6;lia
 refine⟨p,l,ns,C,cs,rfl,B4.pen,hC,cl,λx hx=>?_,λO ms H5 hP5 sx5 hO0 hO pm=>?_⟩
 ·obtain⟨b,s,rfl,hb,_⟩:=cS x hx;exact .inr ⟨b,s.map Int.ofNat,rfl,by rw[<- cC];exact hb⟩
 have B5:=B4.draw mo hFp hP5 sx5;have x5:Same (hd [F,p] H4) (hd [F,p] H5):=aNs (by simp) sx5;refine⟨_,rfl,.inl ⟨O,_,rfl,.of hO,λo2 ho2=>⟨o2,rfl,.inl ⟨⟨_,.of aB⟩,?_⟩⟩⟩⟩;have s6:=aD ho2 (.lst (eK ms none (some 12)));have B6:=(B5.same mo s6).here;have n2:=B5.bls.new ho2;have h2:hd [F,p] (upd H5 o2 (.lst (eK ms none (some 12)))) o2=some (.lst (eK ms none (some 12))):=by rw[cL n2];exact aB
 have osl:(eK ms none (some 12)).length<=64:=bo (kR _ _ _) (by rw[pm.length_eq];exact cl);have hs36:Same (hd [F,p] H3) (hd [F,p] (upd H5 o2 (.lst (eK ms none (some 12))))):=((aI s4).trans x5).trans (aI s6);have oS:∀x∈eK ms none (some 12),SdP K n (hd [F,p] (upd H5 o2 (.lst (eK ms none (some 12))))) x:=λx hx=>by
  obtain⟨b,s,rfl,hb,hs⟩:=cS x (pm.mem_iff.mp (oE hx));exact⟨b,s,rfl,(x5.trans (aI s6)).tup (dS hb B4.bls),hs⟩
 have bp6:=jR _ _ _ hs36 bp3;have hA6:=hs36 _ _ hA3';have r6:=r3'.same hs36;clear bp3 hA3' r3' hs36 B5 B4 B3 s6 x5 hO pm cS hC rC;generalize eK ms none (some 12)=os at *;generalize upd H5 o2 (.lst os)=G6 at *;refine aX (K:=K) (a:=o2) (xs:=os) (λi σ' H'=>i<=os.length/\(∃x5 x6,σ'=[some (.ref p),some (.ref t),some (.int (n:Int)),some (.ref F),some (.ref A),x5,x6])/\Tb (LP (EnP K n (D2 D)) 17) H G6 p l F ns (2*i) H') ⟨bh _,⟨_,_,rfl⟩,B6⟩ (λi σ7 H7 _ ⟨_,_,B⟩=>.of (aZ _ _ (B.sm _ _ h2))) (λi x σ7 H7 hx ⟨_,⟨x5,x6,es⟩,B⟩=>?_) λσ7 H7 ⟨_,⟨x5,x6,es⟩,B⟩=>?_
 ·subst es;have hi:i<os.length:=(ai.mp hx).1;obtain⟨b,s,rfl,hb,hs⟩:=aQH _ _ _ B.sm (oS x (au hx));have hb7:=aZ.tup hb;have⟨sl,sn⟩:=fG hs;refine⟨_,rfl,(n:Int),rfl,by lia,by lia,λR hR=>?_⟩;rw[cv];refine bR (lo:=0) (n:=n) (λk σ' H'=>k<=n/\Same H7 H'/\(∃x0,σ'=[x0,some (.ref b)])/\H' R=some (.lst ((iF k s).map cB))) ⟨bh _,aD hR _,⟨_,rfl⟩,aB⟩ (λk σ8 H8 hk ⟨_,s8,⟨x0,es⟩,hR8⟩=>?_) λσ8 H8 ⟨_,s8,_,hR8⟩=>?_
  ·subst es;rw[jd];have rl:(iF k s).length<=k:=by
    have:=dy (λj=>!s.contains j) (bc k);rw[e8] at this;exact this
   refine⟨_,rfl,_,rfl,.inl ⟨b,_,rfl,.inr (s8.tup hb7),rfl,rL,_,rfl,?_⟩⟩;have e1:iF (k+1) s=iF k s++if(!s.contains k)=true then[k] else[]:=aEU;refine tH (λc=>?_) λc=>?_
   ·have c:(!inV (.int (k:Int)) (s.map cB))=true:=c;rw[vD] at c;rw[C5 c] at e1;refine⟨_,rfl,_,hR8,bj (show _<=100 by rw[af];lia) (by decide),hk,bO hR s8,⟨_,rfl⟩,?_⟩;rw[aB,e1,c4];rfl
   ·have c:¬(!inV (.int (k:Int)) (s.map cB))=true:=c;rw[vD] at c;rw[C4 c,ia] at e1;refine⟨hk,s8,⟨_,rfl⟩,?_⟩;rw[e1];exact hR8
  refine⟨R,_,rfl,.inl ⟨.of hR8,λr hr=>?_⟩⟩;have s9:=s8.trans (aD hr (.tup ((iF n s).map cB)));have hr9:SqT K (upd H8 r (.tup ((iF n s).map cB))) r ((iF n s).map cB):=.of aB;have B9:=B.same mo s9;generalize upd H8 r (.tup ((iF n s).map cB))=G9 at *;have rl:(iF n s).length<=6:=by
   have:=dy (λj=>!s.contains j) (bc n);rw[e8] at this;exact bo this n6
  have rsm:∀x∈iF n s,x<8:=λx hx=>by
   have:=fc.mp (gr.mp hx).1;lia
  have ok1:okM 10 3 (uO s):=uM (by lia) λx hx=>by have:=sn x hx;lia
  have ok2:okM 10 3 (uO (iF n s)):=uM rl rsm;have rn:iF n s≠s:=λe=>by
   have h0:=(rT n3 n6 hs).1;obtain⟨a,ha⟩:=List.exists_mem_of_length_pos h0;rw[<- e] at ha;have h1:=(gr.mp ha).2;rw[e] at ha;rw[uo.mpr ha] at h1;cases h1
  have hA9:=aZ _ _ (B9.sm _ _ hA6);have rA9:=(r6.same B9.sm).same aZ;have hb9:=(aI s9).tup hb;have hr9':=dS hr9 B9.bls;have pW:PiE (D2 D) W:=ba.pi n6;refine⟨_,rfl,_,rfl,.inr ⟨b,A,s.map Int.ofNat,zs,nN (W.map (·.1)),rfl,rfl,by rw[<- cC];exact s9.tup hb7,.inl (.of hA9),rA9,_,rfl,tH (λc=>?_) λc=>?_⟩⟩
  ·have c:(!decide (s.map Int.ofNat∈nN (W.map (·.1))))=true:=c;rw[t9,decide_eq_false_iff_not,aGK] at c;have z1:Ep (BP K [(s,((0:Int),(1:Int)))]) [F,p] (dC (aA (bH (aA (aC 5) (aA (bH (aA (AC 0) (aA (AC 1) aF))) aF))) aF)) ([some (.ref p),some (.ref t),some (.int (n:Int)),some (.ref F),some (.ref A),some (.ref b),some (.ref r)]:St) G9:=aJQ (cR (aQv rfl hb9 v_c v_c) gY) (show 1<=20 by decide);refine aCB mo B9.here hFl (gf hFp) hF0 (by lia) rfl (aMC rfl (jR _ _ _ B9.sm bp6) z1 (jA ba.nd c) wl (show 1<=2 by decide) pW (aHd ok1 (vK (by decide) (by decide)) (vK (by decide) (by decide)) (Co _))) λH10 B10=>?_;have s10:=B10.sm;have B10:Tb (LP (EnP K n (D2 D)) 17) H G6 p l F ns (2*i+1) H10:=⟨B10.pen,B10.sx,B9.sm.trans s10,B10.fo⟩;have hA10:=aZ _ _ (B10.sm _ _ hA6);have rA10:=(r6.same B10.sm).same aZ;have hr10:SqT K (hd [F,p] H10) r ((iF n s).map cB):=s10.tup hr9';have hb10:SqT K (hd [F,p] H10) b (s.map cB):=s10.tup hb9;refine⟨_,rfl,_,rfl,.inr ⟨r,A,(iF n s).map Int.ofNat,zs,nN (W.map (·.1)),rfl,rfl,by rw[<- cC];exact aZ.tup hr10,.inl (.of hA10),rA10,_,rfl,tH (λc2=>?_) λc2=>?_⟩⟩
   ·have c2:(!decide ((iF n s).map Int.ofNat∈nN (W.map (·.1))))=true:=c2;rw[t9,decide_eq_false_iff_not,aGK] at c2;have z2:Ep (BP K [(s,((1:Int),(2:Int))),(iF n s,((-1:Int),(2:Int)))]) [F,p] (dC (aA (bH (aA (aC 5) (aA (bH (aA (AC 1) (aA (AC 2) aF))) aF))) (aA (bH (aA (aC 6) (aA (bH (aA (tUn pK (AC 1)) (aA (AC 2) aF))) aF))) aF))) ([some (.ref p),some (.ref t),some (.int (n:Int)),some (.ref F),some (.ref A),some (.ref b),some (.ref r)]:St) H10:=aJQ (cR (aQv rfl hb10 v_c v_c) (cR (aQv rfl hr10 aKt v_c) gY)) (show 2<=20 by decide);have d2:(2:Int)∣D2 D:=⟨D*10^20,by unfold D2;rw[ff]⟩;refine aCB mo B10 hFl (gf hFp) hF0 (by lia) rfl (aMC rfl (jR _ _ _ B10.sm bp6) z2 ?_ wl (show 2<=2 by decide) pW (aOu (W:=[_]) (Z:=[_]) (aHd ok1 (vK (by decide) (by decide)) (vK (by decide) (by decide)) d2) (aHd ok2 (vK (by decide) (by decide)) (vK (by decide) (by decide)) d2))) λH11 B11=>⟨hi,⟨_,_,rfl⟩,B11.le (by lia)⟩;have e:W++[(s,((1:Int),(2:Int))),(iF n s,((-1:Int),(2:Int)))]=(W++[(s,((1:Int),(2:Int)))])++[(iF n s,((-1:Int),(2:Int)))]:=by rw[gx];rfl
    rw[e];refine jA (jA ba.nd c) λh=>?_;rw[c4] at h;rcases cg.mp h with h|h
    ·exact c2 h
    ·exact rn (br.mp h)
   ·exact⟨hi,⟨_,_,rfl⟩,B10.le (by lia)⟩
  ·exact⟨hi,⟨_,_,rfl⟩,B9.le (by lia)⟩
 ·subst es;obtain⟨zs',z1,z2,z3⟩:=B.fo;exact⟨_,rfl,q F zs' H7 B.pen B.sx hF0 z1 (by lia) λy hy=>mo _ _ _ aZ (z3 y hy)⟩
def aGL (mo:Mo Φ)(mo2:Mo Ψ)(mo3:Mo Χ)(hc:ci.map (aMa σ)=[none,some w])(hw:Χ (hd S H) w)(h:Ep (LP Ψ k) S t σ H)(hk:k<=300)(he:∀(S':List ww) (H':Hp) (x:V),BLs S' H'->Ψ (hd S' H') x->Χ (hd S' H') w->Ep Φ S' te [some x,some w] H'):Ep (LP Φ k) S (bJ ci (dU K t) (aE 0) [] λacc=>bG te acc) σ H:=λH1 s hb Q q=>
 h H1 s hb _ λx H2 s2 hx=>by
  obtain⟨a,xs,rfl,ha,hl,hx⟩:=hx;have b2:=hb.same s2;refine⟨a,rfl,.inl ⟨⟨xs,.of (aZ _ _ ha)⟩,λacc hacc=>?_⟩⟩;rw[hc];have hw2:=mo3 _ _ _ (aI (s.trans s2)) hw;refine lA (vars:=[0]) (K:=K) (a:=a) (xs:=xs) (λi L H'=>L.length=i/\∀y∈L,Φ (hd (acc::S) H') y) (by decide) (by show 0<2;decide) ⟨rfl,λx hm=>by cases hm⟩ hacc (λi L H' sm _=>.of (sm _ _ (aZ _ _ ha))) (λi x σ1 H3 L Dn hxi l1 ag1 s0 sm1 ha1 ⟨r1,r2⟩ hD=>?_) λσ1 H3 L sm1 ha1 ⟨r1,r2⟩=>?_
  ·have hi:=(ai.mp hxi).1;have e1:σ1=[some x,some w]:=by
    have a1:σ1[1]?=some (some w):=(ag1 1 (by decide)).trans rfl
    match σ1,l1,s0,a1 with
    |[a,b],_,s0,a1=>cases s0;cases a1;rfl
   subst e1;have b3:BLs (acc::S) H3:=(b2.same sm1).cons ha1;have sx:Same (hd S H2) (hd (acc::S) H3):=(aMy hacc).trans (aI sm1);refine he (acc::S) H3 x b3 (mo2 _ _ _ sx (hx x (au hxi))) (mo3 _ _ _ sx hw2) H3 (Same.refl _) b3 _ λy H4 s4 hy=>?_;have ha4:=s4 _ _ ha1;refine⟨L,ha4,bj (show L.length<=300 by lia) (by decide),?_⟩;refine hD _ _ _ l1 ag1 (bO hacc (sm1.trans s4)) aB ⟨by rw[aq,r1];rfl,λx hm=>?_⟩;rw[vI (by simp)];rcases cg.mp hm with hm|hm
   ·exact mo _ _ _ (aI s4) (r2 x hm)
   ·rw[br.mp hm];exact hy
  ·have nacc:acc∉S:=b2.new hacc;exact q _ _ (s2.trans sm1) ⟨acc,L,rfl,by rw[cL nacc];exact ha1,by rw[r1];exact hl,λx hm=>mo _ _ _ xY (r2 x hm)⟩
def aRR (mo:Mo Φ)(h:Aa Φ S ts σ H k)(s:Same H H1)(hb:BLs S H1)(hk:k<=20)(q:∀p xs H2,Same H1 H2->H2 p=some (.tup xs)->xs.length=k->(∀x∈xs,Φ (hd S H2) x)->Q (.ref p) H2):bH ts σ H1 Q:=
 h H1 s hb _ λxs H2 s2 hl hxs=>⟨by rw[hl];exact bo hk (by decide),λp hp=>by
  have sp:=aD hp (.tup xs);exact q p xs _ (s2.trans sp) aB hl λx hx=>mo _ _ _ (aI sp) (hxs x hx)⟩
def aKG (mo:Mo Φ)(h:Aa Φ S ts σ H k)(s:Same H H1)(hb:BLs S H1)(hk:k<=20)(q:∀p xs H2,Same H1 H2->H2 p=some (.tup xs)->xs.length=k->(∀x∈xs,Φ (hd S H2) x)->dP (Itt K p) g tb {D with nx:=rest D} σ H2):aH (iJ (dU K (bH ts)) g tb) rest D σ H1:=
 aRR (Q:=λx H1=>∃a,x=.ref a/\(((∃xs,SqL K H1 a xs)/\dP (Itl K a) g tb {D with nx:=rest D} σ H1)\/((∃xs,SqT K H1 a xs)/\dP (Itt K a) g tb {D with nx:=rest D} σ H1))) mo h s hb hk λp xs H2 s2 hp hl hx=>⟨p,rfl,.inr ⟨⟨xs,.of hp⟩,q p xs H2 s2 hp hl hx⟩⟩
def aCr (hv:σ[i]?=some (some x))(hw:σ[j]?=some (some y))(hx:CsP K (hd S H) x)(hy:FoP K D (hd S H) y):Ep (EnP K n D) S (bH (aA (aC i) (aA (aC j) aF))) σ H:=λH1 s hb Q q=>⟨_,hv,_,hw,C9,λp hp=>by
 have sp:=aD hp (.tup [x,y]);exact q _ _ sp (aNZ (dS (.of aB) (hb.same sp)) (dH _ _ _ (aI (s.trans sp)) hx) (bZ _ _ _ (aI (s.trans sp)) hy))⟩
def aQJ {K:aa}{S:List ww}{H:Hp}{σ:St}{i:Nat}{b:ww}{s:List Nat}(hv:σ[i]?=some (some (.ref b)))(h:SqT K (hd S H) b (s.map cB))(hl:s.length<=6)(hs:∀x∈s,x<8):Ep (CsP K) S (aNM K (aC i)) σ H:=λH1 s1 hb Q q=>⟨_,hv,b,_,rfl,s1.tup (aZ.tup h),λp hp=>by
 have sp:=aD hp (.tup (s.map cB).reverse);refine q _ _ sp ⟨uO s.reverse,aBo (dS (.of ?_) (hb.same sp)),uM (by rw[lh];exact hl) λx hx=>hs x (List.mem_reverse.mp hx)⟩;rw[aB,List.map_reverse]⟩
def aQW (n:Nat):(aAl 0 (n:Int)).map V.int=(bc n).map cB:=by
 unfold aAl;rw[fg,show((n:Int)-0).toNat=n by lia];refine qx λi _=>?_;show V.int (0+(i:Int))=V.int (i:Int);rw[jd]
def aNG {K:aa}{S:List ww}{H:Hp}{σ:St}{n:Nat}(n3:3<=n)(n6:n<=6){i:Nat}(hv:σ[i]?=some (some (.int (n:Int)))):Ep (LP (CsP K) 64) S (aL (aGu K) [] E0 (aA (aC i) aF)) σ H:=λH1 s hb Q q=>⟨_,hv,n,rfl,n3,n6,λF ys H2 s2 hF0 hF r=>q _ _ s2 ⟨F,ys,rfl,by rw[cL (hb.new hF0)];exact hF,by
  rw[r.1,cO];unfold bP;rw[dj,ip,dG];have:2^n<=2^6:=az (by decide) n6;lia,λx hx=>by
  obtain⟨i,hi⟩:=u4 hx;obtain⟨s',b,hs,rfl,h⟩:=gO r hi;have m:=au hs;have:=fG m;exact⟨uO s',aBo (dS h (hb.same s2)),uM (by lia) λx hx=>by have:=this.2 x hx;lia⟩⟩⟩
def aMn {K:aa}{S:List ww}{H:Hp}{σ:St}{n:Nat}(n6:n<=6){i:Nat}(hv:σ[i]?=some (some (.int (n:Int)))):Ep (CsP K) S (tCB aFl (aA (tCB aMc (aA (aC i) aF)) aF)) σ H:=λH1 s hb Q q=>⟨_,hv,.inl ⟨_,rfl,λpr hpr=>⟨pr,0,_,rfl,aB,⟨by lia,by lia,by lia,by lia,by lia⟩,λb hb0=>by
 rw[aQW];have s2:=(aD hpr (.rng 0 (n:Int))).trans (aD hb0 (.tup ((bc n).map cB)));exact q _ _ s2 ⟨uO (bc n),aBo (dS (.of aB) (hb.same s2)),uM (by rw[e8];exact n6) λx hx=>by have:=fc.mp hx;lia⟩⟩⟩⟩
def aRz (h:Vl (.int i) t σ)(hi:i.natAbs<2^1900):Ep (CsP K) S t σ H:=tN (d_i h) ((okI hi).le (by decide) (by decide))
def aOY:Ep (EnP K n D) S (tC .non) σ H:=yW d_n (okN.le (by decide) (by decide)) (zV λ_ _ e=>by cases e)
def aOT {i:Int}(h:i.natAbs<8):i.natAbs<2^1900:=av (show _<2^3 from h) C6
def aLd (h:(x.cps.toList.all λc=>decide (c<16^8))=true)(hl:x.cps.size<=5):Ep (DtP K (.str x)) S (tC (.str x)) σ H/\okM 5 0 (.str x):=⟨d_v v_c λ_=>rfl,(okX h).le hl (ar _)⟩
def aQF:Aa (EnP K n D) S (aA (AC 7) (aA (tC (.bl true)) (aA (tC (.str "abc")) (aA (bH aF) (aA (bH (aA (bH aF) aF)) aF))))) σ H 5:=
 have z:okM 0 1 (.tup []):=fO (e:=0) cP (by decide)
 aV bL (yW (d_i v_c) ((okI (aOT (by decide))).le (by decide) (by decide)) (zV λ_ _ e=>by cases e)) (aV bL (yW d_b (okB.le (by decide) (by decide)) (zV λ_ _ e=>by cases e)) (aV bL (yW (aLd (by decide+kernel) (by decide+kernel)).1 ((aLd (K:=K) (S:=S) (H:=H) (σ:=σ) (x:="abc") (by decide+kernel) (by decide+kernel)).2.le (by decide) (by decide)) (zV λ_ _ e=>by cases e)) (aV bL (yW (oI gY) (z.le (by decide) (by decide)) (zV λ_ _ e=>by cases e)) (aV bL (yW (oI (cR (oI gY) gY)) ((fO (bK z cP) (show 1<64 by decide)).le (by decide) (by decide)) (zV λ_ _ e=>by cases (fj (Dt.tup.inj e)).2)) kC))))
def aQt (n6:n<=6)(v2:σ[2]?=some (some (.int (n:Int)))):Ep (LP (CsP K) 5) S (dC (aA (bH aF) (aA (tCB aFl (aA (tCB aMc (AR 2)) aF)) (aA (bH (aA (AC 0) (aA (AC 0) aF))) (aA (bH (AR 2)) (aA (bH (aA (tUn pK (AC 1)) aF)) aF)))))) σ H:=
 have o:∀{i:Int},i.natAbs<8->okM 0 0 (.int i):=λh=>okI (aOT h)
 uB dH (aV dH (tN (oI gY) ((fO (e:=0) cP (by decide)).le (by decide) (by decide))) (aV dH (aMn n6 v2) (aV dH (tN (fI (d_i v_c) (d_i v_c)) ((xD (o (by decide)) (o (by decide))).le (by decide) (by decide))) (aV dH (tN (oI (cR (d_i (fS v2)) gY)) ((fO (bK (o (by lia)) cP) (show 1<64 by decide)).le (by decide) (by decide))) (aV dH (tN (oI (cR (d_i aKt) gY)) ((fO (bK (o (by decide)) cP) (show 1<64 by decide)).le (by decide) (by decide))) kC)))))
def aPO:Ep (LP (CsP K) 7) S (dC (aA (bH (aA (tC (.bl true)) aF)) (aA (bH (aA (AC 0) (aA (tC (.bl true)) aF))) (aA (bH (aA (tC (.bl false)) (aA (AC 1) aF))) (aA (dC (aA (AC 0) aF)) (aA (AC 0) (aA (tC .non) (aA (bH (aA (tC (.str "0")) aF)) aF)))))))) σ H:=
 have o:∀{i:Int},i.natAbs<8->okM 0 0 (.int i):=λh=>okI (aOT h);have s:=aLd (K:=K) (S:=S) (H:=H) (σ:=σ) (x:="0") (by decide+kernel) (by decide+kernel)
 uB dH (aV dH (tN (oI (cR d_b gY)) ((fO (bK okB cP) (show 1<64 by decide)).le (by decide) (by decide))) (aV dH (tN (fI (d_i v_c) d_b) ((xD (o (by decide)) okB).le (by decide) (by decide))) (aV dH (tN (fI d_b (d_i v_c)) ((xD okB (o (by decide))).le (by decide) (by decide))) (aV dH (tN (aHN (cR (d_i v_c) gY)) ((aBe (bK (o (by decide)) cP)).le (by decide) (by decide))) (aV dH (aRz v_c (aOT (by decide))) (aV dH (tN d_n (okN.le (by decide) (by decide))) (aV dH (tN (oI (cR s.1 gY)) ((fO (bK (s.2.le (ar _) (ar _)) cP) (show 1<64 by decide)).le (by decide) (by decide))) kC)))))))
def aQO (K:aa):Sp:=λvs H Q _=>∃(p l:ww) (ns:List Int) (n:Nat) (t:ww) (ys:List V) (W:Cts) (D:Int),vs=[.ref p,.ref t,.int (n:Int)]/\Pen H p l ns/\3<=n/\n<=6/\H t=some (.lst ys)/\bQ K H ys (cG W)/\Ba n D W/\t≠p /\
 ∀F zs H',Pen H' p l ns->SameX p H H'->H F=none->H' F=some (.lst zs)->zs.length<=3000->(∀y∈zs,LP (EnP K n (D2 D)) 17 H' y)->Q (.ref F) H'
def aLJ (hz:0<z)(hd:z∣D)(D0:0<D)(Db:D.natAbs<2^410)(ht:t.natAbs<2^410):FoD (D2 D) (.tup ([(lo t (2*z)).1,(lo t (2*z)).2].map Dt.int)):=by
 have d2:0<D2 D:=lr D0 (by decide);have d2b:(D2 D).natAbs<2^1000:=av (iB Db (show((2:Int)*10^20).natAbs<2^70 by decide)) C6;exact aKd (by lia) (aJy hd) (av ht C6) d2 d2b
def aPF:qQ1 (aQO K) (fR K (aRj K) iE (aQu K) (qO K) (aLT K) (aGu K) (aRi K)) ["feed","some","many","found","at","odd","sides","side","part","half","other","one"]:=by
 intro vs H Q E h;obtain⟨p,l,ns,n,t,ys,W,D,rfl,hP,n3,n6,ht,rW,ba,tp,q⟩:=h;have b0:BLs [p] H:=λb hb=>by
  rw[br.mp hb];obtain⟨k,z,h,_⟩:=hP;exact⟨_,h⟩
 have mo:Mo (LP (EnP K n (D2 D)) 17):=jQ bL;have yl:ys.length=W.length:=by rw[rW.1];unfold cG;rw[af]
 have wl:=ba.len;have pW:PiE (D2 D) W:=ba.pi n6;have bp0:BP K W (hd [p] H) (.ref t):=⟨t,ys,rfl,by rw[cL (by simpa using tp)];exact ht,bA rW λb e h=>aKC h b0⟩;have lt0:LP (EnP K n (D2 D)) 15 (hd [p] H) (.ref t):=aBb bp0 pW wl;have lv:Ep (LP (EnP K n (D2 D)) 15) [p] (aC 1) (bC ["feed","some","many","found","at","odd","sides","side","part","half","other","one"] [.ref p,.ref t,.int (n:Int)]) H:=oG bL rfl lt0;have a0:Aa (LP (EnP K n (D2 D)) 17) [p] (aA (aCo K (aC 1)) (aA (tOp (aR K) (aC 1) (tSl (nD K) (aC 1) bN (dQ (AC 1)))) (aA (tOp (aR K) (aC 1) (dC (aA (tC .non) aF))) (aA (dC aF) aF)))) (bC ["feed","some","many","found","at","odd","sides","side","part","half","other","one"] [.ref p,.ref t,.int (n:Int)]) H 4:=
  aV mo (aLG (aMF bL lv)) (aV mo (aLG (vG bL lv (aNJ (j:=1) bL lv aPm aRL λxs=>aHp (by decide)))) (aV mo (aLG (vG bL lv (aFB bL aOY))) (aV mo (aLG (uB bL kC)) kC)))
 unfold fR;refine mE ?_;refine aPj mo a0 (Same.refl _) b0 (by decide) λF fs G s1 hF0 hF fl hfs=>?_;have nF:=hP.ne hF0;have B0:Tb (LP (EnP K n (D2 D)) 17) H G p l F ns 4 G:=⟨hP.x s1,s1.x,Same.refl _,fs,hF,by lia,hfs⟩;have hFp:F≠p:=nF.1;have hFl:l≠F:=gf nF.2;have tF:t≠F:=aJ ht hF0;have tS:t∉[F,p]:=by simp[tF,tp]
 have bpG:BP K W (hd [F,p] G) (.ref t):=⟨t,ys,rfl,by rw[cL tS];exact s1 _ _ ht,bA rW λb e h=>aKC (Pt.same s1 h) B0.bls⟩;clear lt0 lv a0 hfs fl bp0;refine⟨_,rfl,_,rfl,t,ys,rfl,.inl (.of (s1 _ _ ht)),?_⟩;refine⟨p,l,ns,ys.length+1,rfl,B0.pen,by lia,bj (show ys.length+1<=16 by lia) (by decide),λr H3 _ hP3 sx3=>?_⟩;have B3:=B0.draw mo hFp hP3 sx3;have bp3:=jR _ _ _ B3.sm bpG;refine aKG (bL (K:=K) (n:=n) (D:=D2 D)) aQF (Same.refl _) B3.bls (by decide) λU us H4 s4 hU ul hus=>?_;have B4:=(B3.same mo s4).here;have bp4:=jR _ _ _ (aI s4) bp3;have hU':hd [F,p] H4 U=some (.tup us):=by rw[cL (B4.bls.tup hU)];exact hU
 have us4:∀x∈us,EnP K n (D2 D) (hd [F,p] H4) x:=hus;clear B3 B0 bp3 bpG sx3 hP3;refine yX (K:=K) (a:=U) (xs:=us) (λi σ' H'=>i<=us.length/\(∃x5,σ'=[some (.ref p),some (.ref t),some (.int (n:Int)),some (.ref F),some (.int (r:Int)),x5,none,none,none,none,none,none])/\Tb (LP (EnP K n (D2 D)) 17) H H4 p l F ns (4+i) H') ⟨bh _,⟨_,rfl⟩,B4⟩ (λi σ5 H5 _ ⟨_,_,B⟩=>.of (aZ _ _ (B.sm _ _ hU'))) (λi x σ5 H5 hx ⟨_,⟨x5,es⟩,B⟩=>?_) λσ5 H5 ⟨_,⟨x5,es⟩,B⟩=>?_
 ·subst es;have hi:=(ai.mp hx).1;have hx5:=bL _ _ _ B.sm (us4 x (au hx));have lt5:LP (EnP K n (D2 D)) 15 (hd [F,p] H5) (.ref t):=aBb (jR _ _ _ B.sm bp4) pW wl;refine aCB mo B hFl (gf hFp) hF0 (by lia) rfl (aLG (aHB (i:=1) (y:=(r:Int)) (c:=0) bL rfl lt5 (sJ (i:=4) rfl) (by rw[Int.add_zero];exact sJ (i:=4) rfl) (by lia) (by decide) (aFB bL (aAo (i:=5) bL rfl hx5)))) λH9 B9=>⟨hi,⟨_,rfl⟩,B9⟩
 subst es;have B5:=(B.le (show 4+us.length<=9 by lia)).here;have bp5:=jR _ _ _ B.sm bp4;clear B B4 bp4 us4 hU' hus;refine mE ((vG (K:=K) (S:=[F,p]) dH (aNG n3 n6 (i:=2) rfl) (aQt n6 rfl)) H5 (Same.refl _) B5.bls _ λy H6 s6 hy=>?_);have B6:=B5.same mo s6;refine mE ((vG (K:=K) (S:=[F,p]) dH (oG (i:=6) dH rfl hy) aPO) H6 (Same.refl _) B6.bls _ λz6 H7 s7 hz6=>?_);have B7:=B6.same mo s7;have bp7:=jR _ _ _ B7.sm bp5;obtain⟨t7,ys7,e7,ht7,rW7⟩:=bp7;cases e7;have yl7:ys7.length=W.length:=by rw[rW7.1];unfold cG;rw[af]
 refine⟨_,rfl,_,rfl,t,ys7,rfl,.inl (.of (aZ _ _ ht7)),.inl ⟨_,rfl,λpr hpr=>.inr ⟨pr,0,_,rfl,aB,⟨by lia,by lia,by lia,by lia,by lia⟩,λb hb=>?_⟩⟩⟩;rw[aQW];have s8:=(aD hpr (.rng 0 (ys7.length:Int))).trans (aD hb (.lst ((bc ys7.length).map cB)));have B8:=B7.same mo s8;refine⟨p,l,ns,b,(bc ys7.length).map cB,rfl,B8.pen,aB,by rw[af,e8];lia,λx hx=>by
  obtain⟨i,_,rfl⟩:=cw.mp hx;exact .inl ⟨_,rfl⟩,λO ms H9 hP9 sx9 hO0 hO pm=>?_⟩
 have B9:=B8.draw mo hFp hP9 sx9;refine⟨_,rfl,.inl ⟨O,_,rfl,.of hO,λo2 ho2=>⟨o2,rfl,.inl ⟨⟨_,.of aB⟩,?_⟩⟩⟩⟩;have s10:=aD ho2 (.lst (eK ms none (some 5)));have B10:=B9.same mo s10;have n2:=B9.bls.new ho2;have h2:hd [F,p] (upd H9 o2 (.lst (eK ms none (some 5)))) o2=some (.lst (eK ms none (some 5))):=by rw[cL n2];exact aB
 have osl:(eK ms none (some 5)).length<=5:=aHp (by decide);have oS:∀x∈eK ms none (some 5),∃a:Nat,x=cB a/\a<W.length:=λx hx=>by
  obtain⟨a,ha,rfl⟩:=cw.mp (pm.mem_iff.mp (oE hx));exact⟨a,rfl,by rw[<- yl7];exact fc.mp ha⟩
 have x79:Same (hd [F,p] H7) (hd [F,p] (upd H9 o2 (.lst (eK ms none (some 5))))):=((aI s8).trans (aNs (by simp) sx9)).trans (aI s10);have bp10:BP K W (hd [F,p] (upd H9 o2 (.lst (eK ms none (some 5))))) (.ref t):=jR _ _ _ B10.sm bp5;have hz10:=jQ dH _ _ _ x79 hz6;clear bp5 hz6 x79 B9 B8 B7 B6 s8 s10 hO pm ht7 rW7 sx9 hP9;generalize eK ms none (some 5)=os at *;generalize upd H9 o2 (.lst os)=G1 at *;refine aX (K:=K) (a:=o2) (xs:=os) (λi σ' H'=>i<=os.length/\(∃x4 x7 x8 x9 x10 x11,σ'=[some (.ref p),some (.ref t),some (.int (n:Int)),some (.ref F),x4,x5,some z6,x7,x8,x9,x10,x11])/\Tb (LP (EnP K n (D2 D)) 17) H G1 p l F ns (9+120*i) H') ⟨bh _,⟨_,_,_,_,_,_,rfl⟩,B10.here⟩ (λi σ2 H2 _ ⟨_,_,B⟩=>.of (aZ _ _ (B.sm _ _ h2))) (λi x σ2 H2 hx ⟨_,⟨x4,x7,x8,x9,x10,x11,es⟩,B⟩=>?_) λσ2 H2 ⟨_,⟨x4,x7,x8,x9,x10,x11,es⟩,B⟩=>?_
 ·subst es;have hi:=(ai.mp hx).1;obtain⟨a,rfl,ha⟩:=oS x (au hx);have bp2:=jR _ _ _ B.sm bp10;obtain⟨t2,ys2,e2,ht2,rW2⟩:=id bp2;cases e2;have yl2:ys2.length=W.length:=by rw[rW2.1];unfold cG;rw[af]
  have ha2:a<ys2.length:=by lia
  obtain⟨e,b2,qa,fa,he,eb,hb2,hq,hf⟩:=sY rW2 (ah ha2);obtain⟨en1,en2,en3,en4⟩:=ba.ent e (au he);have⟨sl,sn⟩:=fG en1;obtain⟨ok1,fo1⟩:=pW e (au he);refine⟨_,rfl,_,rfl,ixL (j:=a) (v:=.ref b2) (.of (aZ _ _ ht2)) (by rw[ah ha2,eb]) ⟨b2,_,rfl,aZ.tup hb2,rfl,_,[_],rfl,_,[],rfl,rfl,?_⟩⟩;refine⟨_,rfl,ixT (j:=0) (aZ.tup hf) rfl ⟨_,rfl,ixT (j:=1) (aZ.tup hf) rfl ⟨.inl ⟨by decide,by decide⟩,e.2.1,2*e.2.2,rfl,by lia,?_,λhh H3 s3 hhh=>?_⟩⟩⟩
  ·have:=up8 (cJ en2 ba.d0 en3 ba.db) (show 410<=8000 by decide);exact up8 (iB (show(2:Int).natAbs<2^2 by decide) (cJ en2 ba.d0 en3 ba.db)) (by decide)
  have B3:=B.same mo s3;have cq3:CsP K (hd [F,p] H3) (.ref qa):=⟨uO e.1,aBo ((aI s3).tup hq),ok1⟩;have fh3:FoP K (D2 D) (hd [F,p] H3) (.ref hh):=aGd (dS (.of hhh) B3.bls) (aLJ en2 en3 ba.d0 ba.db en4);have bp3:=jR _ _ _ (aI s3) bp2;have lt3:LP (EnP K n (D2 D)) 15 (hd [F,p] H3) (.ref t):=aBb bp3 pW wl;refine aCB mo B3.here hFl (gf hFp) hF0 (by lia) rfl (aHB (i:=1) (y:=(a:Int)) (c:=1) bL rfl lt3 (sJ (i:=4) rfl) (aAK (i:=4) rfl) (by lia) (by decide) (aQi bL (aFB bL (aCr (i:=7) (j:=9) rfl rfl cq3 fh3)))) λH4 B4=>?_;have m4:=B4.sm;have B4:Tb (LP (EnP K n (D2 D)) 17) H G1 p l F ns (9+120*i+1) H4:=⟨B4.pen,B4.sx,B3.sm.trans m4,B4.fo⟩;have hq4:=((aI s3).trans m4).tup hq;have hf4:=((aI s3).trans m4).tup hf;have cq4:CsP K (hd [F,p] H4) (.ref qa):=dH _ _ _ m4 cq3;have ff4:FoP K (D2 D) (hd [F,p] H4) (.ref fa):=aGd hf4 fo1;have hz4:=jQ dH _ _ _ B4.sm hz10;have cFB:Ep (LP (FoP K (D2 D)) 25) [F,p] (aL (aQu K) [] E0 (AR 8)) ([some (.ref p),some (.ref t),some (.int (n:Int)),some (.ref F),some (cB a),x5,some z6,some (.ref qa),some (.ref fa),some (.ref hh),x10,x11]:St) H4:=λH5 s5 bl Q q=>⟨_,rfl,fa,e.2.1,e.2.2,D,[F,p],rfl,s5.tup (aZ.tup hf4),bl,en2,en3,ba.d0,ba.db,en4,λx H6 s6 hx=>q x H6 s6 hx⟩;refine mE ((aGL (K:=K) (ci:=[none,some 7]) (Φ:=EnP K n (D2 D)) (Χ:=CsP K) (w:=.ref qa) bL bZ dH rfl cq4 cFB (by decide) λS' H' x hb hx hw=>aCr (i:=1) (j:=0) rfl rfl hw hx) H4 (Same.refl _) B4.bls _ λy5 H5 s5 hy5=>?_);have B5:=B4.same mo s5;have cq5:=dH _ _ _ (aI s5) cq4;have ff5:=bZ _ _ _ (aI s5) ff4;have hz5:=jQ dH _ _ _ (aI s5) hz4;have hq5:=(aI s5).tup hq4;refine mE ((vG (K:=K) (S:=[F,p]) bL (oG (i:=10) bL rfl hy5) (aGL (K:=K) (ci:=[none,some 8]) (Φ:=EnP K n (D2 D)) (Χ:=FoP K (D2 D)) (w:=.ref fa) bL dH bZ rfl ff5 (vG dH (oG (i:=6) dH rfl hz5) (aFB dH (aQJ (i:=7) rfl hq5 (by lia) λx hx=>by have:=sn x hx;lia))) (by decide) λS' H' x hb hx hw=>aCr (i:=0) (j:=1) rfl rfl hx hw)) H5 (Same.refl _) B5.bls _ λy6 H6 s6 hy6=>?_);have B6:=B5.same mo s6;have cq6:=dH _ _ _ (aI s6) cq5;have ff6:=bZ _ _ _ (aI s6) ff5;have hq6:=(aI s6).tup hq5;have hf6:=((aI s5).trans (aI s6)).tup hf4;have dq:∀{H':Hp},SqT K (hd [F,p] H') qa (e.1.map cB)->Ep (DtP K (uO e.1)) [F,p] (aC 7) ([some (.ref p),some (.ref t),some (.int (n:Int)),some (.ref F),some (cB a),x5,some z6,some (.ref qa),some (.ref fa),some (.ref hh),some y6,x11]:St) H':=λh=>aMV rfl h;have df:∀{H':Hp},SqT K (hd [F,p] H') fa [.int e.2.1,.int e.2.2]->Ep (DtP K (.tup ([e.2.1,e.2.2].map Dt.int))) [F,p] (aC 8) ([some (.ref p),some (.ref t),some (.int (n:Int)),some (.ref F),some (cB a),x5,some z6,some (.ref qa),some (.ref fa),some (.ref hh),some y6,x11]:St) H':=λh=>aAo aNN rfl ⟨fa,_,rfl,h,ShL.ints [e.2.1,e.2.2]⟩;have of1:okM 130 5 (.tup ([e.2.1,e.2.2].map Dt.int)):=fo1.1;have oq1:okM 10 5 (uO e.1):=ok1.le (ar _) (by decide);have of2:okM 2 5 (.tup ([e.2.1,e.2.2].map Dt.int)):=(aNp (aMd en4 (by decide)) (aMd (cJ en2 ba.d0 en3 ba.db) (by decide))).le (ar _) (by decide);have l3:Ep (LP (EnP K n (D2 D)) 3) [F,p] (dC (aA (dC (aA (aC 7) (AR 8))) (aA (bH (AR 7)) (aA (bH (aA (aC 7) (aA (aC 8) (AR 8)))) aF)))) ([some (.ref p),some (.ref t),some (.int (n:Int)),some (.ref F),some (cB a),x5,some z6,some (.ref qa),some (.ref fa),some (.ref hh),some y6,x11]:St) H6:=
   uB bL (aV bL (yW (aHN (cR (dq hq6) (cR (df hf6) gY))) ((aBe (bK oq1 (bK of2 cP))).le (by decide) (by decide)) (zV λ_ _ e=>by cases e)) (aV bL (yW (oI (cR (dq hq6) gY)) ((fO (bK oq1 cP) (show 1<64 by decide)).le (by decide) (by decide)) (zV λ_ _ e=>by cases (fj (Dt.tup.inj e)).2)) (aV bL (yW (oI (cR (dq hq6) (cR (df hf6) (cR (df hf6) gY)))) ((fO (bK oq1 (bK of2 (bK of2 cP))) (show 3<64 by decide)).le (by decide) (by decide)) (zV λ_ _ e=>by cases (fj (fj (Dt.tup.inj e)).2).2)) kC)))
  refine mE ((vG (K:=K) (S:=[F,p]) bL (oG (i:=10) bL rfl hy6) l3) H6 (Same.refl _) B6.bls _ λy7 H7 s7 hy7=>?_);have B7:=B6.same mo s7;obtain⟨q7,ys7,rfl,hq7,hl7,hy7⟩:=hy7;refine⟨_,rfl,q7,rfl,.inl ⟨⟨_,.of (aZ _ _ hq7)⟩,?_⟩⟩;refine aX (K:=K) (a:=q7) (xs:=ys7) (λk σ' H'=>k<=ys7.length/\(∃x11,σ'=[some (.ref p),some (.ref t),some (.int (n:Int)),some (.ref F),some (cB a),x5,some z6,some (.ref qa),some (.ref fa),some (.ref hh),some (.ref q7),x11])/\Tb (LP (EnP K n (D2 D)) 17) H H7 p l F ns (9+120*i+1+k) H') ⟨bh _,⟨_,rfl⟩,B7.here⟩ (λk σ3 H3 _ ⟨_,_,B⟩=>.of (aZ _ _ (B.sm _ _ hq7))) (λk x σ3 H8 hx3 ⟨_,⟨x11,e3⟩,B8⟩=>?_) λσ3 H8 ⟨_,⟨x11,e3⟩,B8⟩=>?_
  ·subst e3;have hk:=(ai.mp hx3).1;have ax:=bL _ _ _ B8.sm (hy7 x (au hx3));have lt8:LP (EnP K n (D2 D)) 15 (hd [F,p] H8) (.ref t):=aBb (jR _ _ _ (B7.sm.trans B8.sm) bp10) pW wl;exact aCB mo B8 hFl (gf hFp) hF0 (by lia) rfl (aLG (aHB (i:=1) (y:=(a:Int)) (c:=1) bL rfl lt8 (sJ (i:=4) rfl) (aAK (i:=4) rfl) (by lia) (by decide) (aFB bL (aAo (i:=11) bL rfl ax)))) λH9 B9=>⟨hk,⟨_,rfl⟩,B9⟩
  ·subst e3;have lt8:LP (EnP K n (D2 D)) 15 (hd [F,p] H8) (.ref t):=aBb (jR _ _ _ (B7.sm.trans B8.sm) bp10) pW wl;refine aCB mo B8 hFl (gf hFp) hF0 (by lia) rfl (aLG (aPK (i:=1) (y:=(a:Int)) (c:=1) bL rfl lt8 (sJ (i:=4) rfl) (aAK (i:=4) rfl) (by lia) (by decide))) λH9 B9=>?_;have lt9:LP (EnP K n (D2 D)) 15 (hd [F,p] H9) (.ref t):=aBb (jR _ _ _ (B7.sm.trans B9.sm) bp10) pW wl;refine aCB mo B9 hFl (gf hFp) hF0 (by lia) rfl (λH10 s10 bl Q q=>⟨_,rfl,_,rfl,[F,p],.ref t,(a:Int),n,D2 D,rfl,by lia,bl,jQ bL _ _ _ (aI s10) lt9,λx H11 s11 hx=>q x H11 s11 hx⟩) λH10 B10=>⟨hi,⟨_,_,_,_,_,_,rfl⟩,?_⟩;have B11:Tb (LP (EnP K n (D2 D)) 17) H G1 p l F ns (9+120*i+1+ys7.length+1+1) H10:=⟨B10.pen,B10.sx,B7.sm.trans B10.sm,B10.fo⟩;exact B11.le (by lia)
 ·subst es;have bp2:=jR _ _ _ B.sm bp10;obtain⟨t2,ys2,e2,ht2,rW2⟩:=id bp2;cases e2;refine⟨_,rfl,_,rfl,_,rfl,_,rfl,p,l,ns,n,t,ys2,W,D,rfl,B.pen,n3,n6,aZ _ _ ht2,bA rW2 λb e=>Pt.same aZ,ba,tp,λF2 zs2 H8 hP8 sx8 hF20 hF2 l2 h2=>?_⟩;obtain⟨zs,z1,z2,z3⟩:=B.fo;have x28:Same (hd [F,p] H2) (hd [F,p] H8):=aNs (by simp) sx8;have hF8:=sx8 _ _ hFp z1;refine .inl ⟨F,F2,zs,zs2,rfl,rfl,hF8,hF2,bo (show _<=2000 by lia) (by decide),λX hX=>?_⟩;have sX:=aD hX (.lst (zs++zs2));have hX0:H X=none:=by
   cases c:H X with
   |none=>rfl
   |some o=>
    by_cases c2:X=p
    ·obtain⟨k,z,hh,_⟩:=hP8;rw[c2,hh] at hX;cases hX
    ·have:=(B.sx.trans sx8) _ _ c2 c;rw[hX] at this;cases this
  refine q X _ _ (hP8.x sX) ((B.sx.trans sx8).trans sX.x) hX0 aB (by rw[aq];lia) λy hy=>?_;rcases cg.mp hy with hy|hy
  ·exact mo _ _ _ ((x28.trans aZ).trans sX) (z3 y hy)
  ·exact mo _ _ _ sX (h2 y hy)
def aNu (sx:SameX p H H')(hA:H A=none):SameX p H (upd H' A o):=λb u hb e=>by
 rw[aM (aJ e hA)];exact sx b u hb e
def aBd (h:Sh K H (xI T) v)(hp:H p=some (.lst ys))(sx:SameX p H H'):Sh K H' (xI T) v:=by
 obtain⟨a,rs,rfl,ha,hl,g⟩:=h.tab;exact⟨a,rs,rfl,fL ha hp sx,ShL.of_rows hl λi row e=>by
  obtain⟨b,e1,e2⟩:=g i row e;exact⟨b,e1,fL e2 hp sx⟩⟩
def aBJ (ls:List Int)(z:Int)(i:Nat):Cts:=(bc i).map λk=>([k],lo (ls.getD k 0) z)
def aFx:aBJ ls z (i+1)=aBJ ls z i++[([i],lo (ls.getD i 0) z)]:=by
 unfold aBJ;rw[sk,c4];rfl
def kT (r:bQ K H ys (cG W))(hA:H A=some (.lst ys))(hb:SqT K H b [.ref q,.ref f])(hq:SqT K H q (s.map cB))(hf:SqT K H f [.int t,.int z]):bQ K (upd H A (.lst (ys++[.ref b]))) (ys++[.ref b]) (cG (W++[(s,(t,z))])):=by
 have e:cG (W++[(s,(t,z))])=cG W++[(s.map Int.ofNat,(t,z))]:=by unfold cG;rw[c4];rfl
 rw[e];exact bA (yH r (b:=b) (e:=(s.map Int.ofNat,(t,z))) ⟨q,f,hb,by rw[<- cC];exact hq,hf⟩) λb e=>Pt.x hA (SameX.put _)
def aRc (K:aa):Sp:=λvs H Q _=>∃(p l:ww) (ns:List Int) (v:V) (T:List (List Int)) (n:Nat),vs=[.ref p,v]/\Pen H p l ns/\Sh K H (xI T) v/\Quad T n/\3<=n/\n<=6/\Bs T n /\
 ∀(R t w:ww) (ys:List V) (W:Cts) (D:Int) (a:Int×Int) (H':Hp),Pen H' p l ns->SameX p H H'->SqT K H' R [.ref t,.ref w]->H' t=some (.lst ys)->bQ K H' ys (cG W)->Ba n D W->Fr K H' w a.1 a.2->0<a.2->a.2∣D->a.1.natAbs<2^500->t≠p->Q (.ref R) H'
def aKR (n3:3<=n)(n6:n<=6):[0,1]∈(bP n).filter λs=>decide (1<s.length):=by
 refine gr.mpr ⟨aDN n3 n6 (by simp) (λx hx=>?_) (by decide) (by show 2<n;lia),by decide⟩;rcases b8.mp hx with rfl|hx
 ·lia
 ·rw[br.mp hx];lia
def aLz (n3:3<=n)(n6:n<=6)(hs:s∈bP n):∃i j,i<j/\j<n/\prt s i j=true:=by
 have h:=hs;have key:∀n,3<=n->n<=6->((bP n).all λs=>(cA n).any λe=>decide (e.1<e.2)&&decide (e.2<n)&&prt s e.1 e.2)=true:=n36 (by decide+kernel) (by decide+kernel) (by decide+kernel) (by decide+kernel);obtain⟨e,_,he⟩:=List.any_eq_true.mp (dk.mp (key n n3 n6) s hs);simp only[cz,decide_eq_true_eq] at he;exact⟨e.1,e.2,he.1.1,he.1.2,he.2⟩
def aCD {ls:List Int}{i:Nat}(h:i<ls.length):(ls.map V.int)[i]?=some (.int (ls.getD i 0)):=by
 rw[bp,ak,ah h];rfl
def aIb {ls:List Int}{i:Nat}(h:i<ls.length):ls.getD i 0∈ls:=by
 rw[ak,ah h];exact f7 h
def aQG:qQ1 (aRc K) (jW K iE (qO K) (aMi K) (fJ K) (wM K) (aGu K)) ["feed","table","many","by","lows","i","low","some","sides","side","left","j","parts"]:=by
 intro vs H Q E h;obtain⟨p,l,ns,v,T,n,rfl,hP,hT,qT,n3,n6,bT,q⟩:=h;obtain⟨ta,rs,rfl,ha,hrl,_⟩:=id hT.tab;have hrl:rs.length=n:=hrl.trans qT.len;obtain⟨kN,zN,hN,_⟩:=id hP;refine⟨_,rfl,ta,rs,rfl,.inr ha,?_⟩;rw[hrl];refine⟨show 5<=cm by decide,λt0 ht0=>⟨_,rfl,p,l,ns,5,rfl,hP.x (aD ht0 _),by decide,by decide,λr2 H2 hr2 hP2 sx2=>?_⟩⟩;have et0:H2 t0=some (.lst [.int 2,.int 2,.int 3,.int 7,.int 97]):=sx2 _ _ (hP.ne ht0).1 aB;have sx02:SameX p H H2:=(aD ht0 _).x.trans sx2;have ctop:∃z:Int,[V.int 2,.int 2,.int 3,.int 7,.int 97][r2]?=some (.int z)/\2<=z/\z<=97:=by
  match r2,hr2 with
  |0,_=>exact⟨2,rfl,by decide,by decide⟩
  |1,_=>exact⟨2,rfl,by decide,by decide⟩
  |2,_=>exact⟨3,rfl,by decide,by decide⟩
  |3,_=>exact⟨7,rfl,by decide,by decide⟩
  |4,_=>exact⟨97,rfl,by decide,by decide⟩
 obtain⟨z,ez,z2,z97⟩:=ctop;refine ixL (j:=r2) (.of et0) ez ?_;refine⟨C7,λL hL=>?_⟩;have nL:=hP2.ne hL;refine⟨_,rfl,(n:Int),rfl,by lia,by lia,?_⟩;rw[cv];refine bR (lo:=0) (n:=n) (λi σ' H'=>i<=n/\(∃x5 x6,σ'=[some (.ref p),some (.ref ta),some (.int (n:Int)),some (.int z),some (.ref L),x5,x6,none,none,none,none,none,none])/\Pen H' p l ns/\SameX p H2 H'/\∃ls:List Int,H' L=some (.lst (ls.map V.int))/\ls.length=i/\∀x∈ls,x.natAbs<2^21) ⟨bh _,⟨_,_,rfl⟩,hP2.upd nL.1 nL.2,(aD hL _).x,[],aB,rfl,λx hx=>by cases hx⟩ (λi σ3 H3 hi ⟨_,⟨x5,x6,es⟩,hP3,sx3,ls,hL3,ll,lb⟩=>?_) λσ3 H3 ⟨_,⟨x5,x6,es⟩,hP3,sx3,ls,hL3,ll,lb⟩=>?_
 ·subst es;rw[jd];have hT3:Sh K H3 (xI T) (.ref ta):=aBd hT hN (sx02.trans sx3);refine⟨_,rfl,(n:Int),rfl,by lia,by lia,λA hA=>?_⟩;rw[cv];refine bR (lo:=0) (n:=n) (λj σ' H'=>j<=n/\Same H3 H'/\(∃x0,σ'=[x0,some (.int (i:Int)),some (.ref ta)])/\∃ms:List Int,H' A=some (.lst (ms.map V.int))/\ms.length<=j/\((∃k,k<j/\k≠i)->ms≠[])/\∀x∈ms,x.natAbs<2^20) ⟨bh _,aD hA _,⟨_,rfl⟩,[],aB,ar _,λ⟨k,hk,_⟩=>absurd hk (i5 _),λx hx=>by cases hx⟩ (λj σ4 H4 hj ⟨_,s4,⟨x0,es⟩,ms,hA4,ml,mn,mb⟩=>?_) λσ4 H4 ⟨_,s4,⟨x0,es⟩,ms,hA4,ml,mn,mb⟩=>?_
  ·subst es;rw[jd];refine⟨_,rfl,_,rfl,.int _,.int _,bh _,rfl,rfl,_,rfl,?_⟩;rw[gP];refine tH (λc=>?_) λc=>?_
   ·have wb:=bT i j hi hj;refine tQ (t:=2) (si:=1) (sj:=0) (i:=i) (j:=j) rfl rfl rfl (hT3.same s4) qT hi hj ⟨_,hA4,bj (show _<=100 by rw[af];lia) (by decide),hj,bO hA s4,⟨_,rfl⟩,ms++[at2 T i j],by rw[aB,c4];rfl,by rw[aq,gg];lia,λ_=>by simp,λx hx=>?_⟩;rcases cg.mp hx with hx|hx
    ·exact mb x hx
    ·rw[br.mp hx];lia
   ·have c:¬(!decide ((j:Int)=(i:Int)))=true:=c;have c:j=i:=by
     by_cases e:(j:Int)=(i:Int)
     ·lia
     ·rw[Au e] at c;exact absurd rfl c
    exact⟨hj,s4,⟨_,rfl⟩,ms,hA4,by lia,λ⟨k,hk,hne⟩=>mn ⟨k,by lia,hne⟩,mb⟩
  ·subst es;have ne:ms≠[]:=mn (by
    by_cases c:i=0
    ·exact⟨1,by lia,by lia⟩
    ·exact⟨0,by lia,by lia⟩)
   refine .inl ⟨A,ms,rfl,.inl (.of hA4),ne,λm hm _=>?_⟩;have mB:=mb m hm;have hP4:=hP3.x s4;refine⟨_,rfl,.inl ⟨rfl,_,.of (s4 _ _ hL3)⟩,_,rfl,_,rfl,p,l,ns,3,rfl,hP4,by decide,by decide,λr3 H5 hr3 hP5 sx5=>?_⟩;have hL5:=sx5 _ _ nL.1 (s4 _ _ hL3);refine⟨_,_,rfl,rfl,L,_,_,rfl,rfl,hL5,bj (show _<=100 by rw[af];lia) (by decide),hi,⟨_,_,rfl⟩,hP5.upd nL.1 nL.2,aNu ((sx3.trans s4.x).trans sx5) hL,ls++[m-(r3:Int)],by rw[aB,c4];rfl,by rw[aq,gg,ll],λx hx=>?_⟩;rcases cg.mp hx with hx|hx
   ·exact lb x hx
   ·rw[br.mp hx];lia
 subst es;have lbi:∀i,i<n->(ls.getD i 0).natAbs<2^21:=λi hi=>lb _ (aIb (by lia));have sx03:=sx02.trans sx3;have z0:0<z:=by lia
 have z7:z.natAbs<2^7:=by lia
 refine⟨_,rfl,(n:Int),rfl,by lia,by lia,λA hA=>?_⟩;have nA:=hP3.ne hA;rw[cv];refine bR (lo:=0) (n:=n) (λi σ' H'=>i<=n/\Same H3 H'/\(∃x0,σ'=[x0,some (.ref L),some (.int z)])/\∃ys,H' A=some (.lst ys)/\bQ K H' ys (cG (aBJ ls z i))) ⟨bh _,aD hA _,⟨_,rfl⟩,[],aB,aAA⟩ (λi σ4 H4 hi ⟨_,s4,⟨x0,es⟩,ys,hA4,r4⟩=>?_) λσ4 H4 ⟨_,s4,⟨x0,es⟩,ys,hA4,r4⟩=>?_
 ·subst es;rw[jd];refine⟨_,rfl,C8,λc hc=>?_⟩;have sc:=aD hc (.tup [V.int (i:Int)]);refine⟨_,rfl,_,rfl,ixL (j:=i) (.of (sc _ _ (s4 _ _ hL3))) (aCD (by lia)) ⟨_,rfl,_,z,rfl,z0,up8 z7 (by decide),λf H5 s5 hf=>⟨C9,λb hb=>?_⟩⟩⟩;have sb:=aD hb (.tup [V.ref c,.ref f]);have s45:=(sc.trans s5).trans sb;have yl:ys.length=i:=by rw[r4.1];unfold cG aBJ;rw[af,af,e8]
  refine⟨ys,s45 _ _ hA4,bj (show _<=100 by lia) (by decide),hi,bO hA (s4.trans s45),⟨_,rfl⟩,_,aB,?_⟩;rw[aFx];exact kT (bA r4 λb e=>Pt.same s45) (s45 _ _ hA4) (.of aB) (s:=[i]) ((s5.trans sb).tup (.of aB)) (sb.tup (.of hf))
 have yl:ys.length=n:=by rw[r4.1];unfold cG aBJ;rw[af,af,e8]
 have hP4:=hP3.x s4;have hL4:=s4 _ _ hL3;have sx04:SameX p H H4:=sx03.trans s4.x;clear es;refine⟨_,rfl,n,rfl,n3,n6,λC cs H5 s5 hC0 hC rC=>⟨C,rfl,.inl ⟨⟨_,.of hC⟩,λB hB=>?_⟩⟩⟩;have cl:cs.length<=64:=by
  rw[rC.1,cO];unfold bP;rw[dj,ip,dG];have:2^n<=2^6:=az (by decide) n6;lia
 have csl:cs.length=(bP n).length:=by rw[rC.1,cO]
 refine aX (K:=K) (a:=C) (xs:=cs) (λi σ' H'=>i<=cs.length/\Same H5 H'/\(∃x0,σ'=[x0])/\∃zs,H' B=some (.lst zs)/\Rows K H' zs (nN (((bP n).take i).filter λs=>decide (1<s.length)))) ⟨bh _,aD hB _,⟨_,rfl⟩,[],aB,Rows.nil⟩ (λi σ6 H6 _ ⟨_,s6,_⟩=>.of (s6 _ _ hC)) (λi x σ6 H6 hx ⟨_,s6,⟨x0,es⟩,zs,hB6,r6⟩=>?_) λσ6 H6 ⟨_,s6,_,zs,hB6,r6⟩=>?_
 ·subst es;have hi:=(ai.mp hx).1;obtain⟨s,b,hs,rfl,hb⟩:=gO (rC.same s6) hx;refine⟨_,rfl,b,_,rfl,.inr hb,_,_,rfl,rfl,_,rfl,?_⟩;rw[af];have e1:((bP n).take (i+1)).filter (λs=>decide (1<s.length))=((bP n).take i).filter (λs=>decide (1<s.length))++if decide (1<s.length)=true then[s] else[]:=by
   rw[gq,hs,je];congr 1;have:=aOR (λs:List Nat=>decide (1<s.length)) id s;rw[A9] at this;exact this
  have zl:zs.length<=i:=by
   rw[r6.1,cO];refine bo (dy _ _) ?_;rw[dj];lia
  refine tH (λc=>?_) λc=>?_
  ·have c:decide ((1:Int)<(s.length:Int))=true:=c;have c:=C0 c;rw[At (show 1<s.length by lia),C5 rfl] at e1;refine⟨_,rfl,zs,hB6,bj (show zs.length<=100 by lia) (by decide),hi,bO hB s6,⟨_,rfl⟩,_,aB,?_⟩;rw[e1];have:nN (((bP n).take i).filter (λs=>decide (1<s.length))++[s])=nN (((bP n).take i).filter (λs=>decide (1<s.length)))++[s.map Int.ofNat]:=by unfold nN;rw[c4];rfl
   rw[this];exact Rows.put (Rows.snoc r6 (b:=b) (by rw[<- cC];exact hb)) hB6
  ·have c:¬decide ((1:Int)<(s.length:Int))=true:=c;have c:¬1<s.length:=λh=>c (At (by lia));rw[Au c,C4 (by decide),ia] at e1;refine⟨hi,s6,⟨_,rfl⟩,zs,hB6,?_⟩;rw[e1];exact r6
 rw[csl,gn] at r6;have zpos:0<zs.length:=by
  rw[r6.1,cO];exact Ab (aKR n3 n6)
 have zl:zs.length<=64:=by
  rw[r6.1,cO];exact bo (dy _ _) (by lia)
 have s46:=s5.trans s6;have hP6:=hP4.x s46;refine⟨_,rfl,_,rfl,_,rfl,B,zs,rfl,.inl (.of hB6),p,l,ns,zs.length,rfl,hP6,zpos,bj (show _<=64 by lia) (by decide),λr7 H7 hr7 hP7 sx7=>?_⟩;have nB:=(hP4.x s5).ne hB;have hB7:=sx7 _ _ nB.1 hB6;obtain⟨k6,z6,hN6,_⟩:=id hP6;have hr7':r7<zs.length:=hr7;obtain⟨s,sb,hs,esb,hsb⟩:=gO r6 (ah hr7');have hsb7:=fL hsb hN6 sx7;obtain⟨hsn,hs1⟩:=gr.mp (au hs);have hs1:1<s.length:=C0 hs1;refine ixL (j:=r7) (v:=.ref sb) (.of hB7) (by rw[ah hr7',esb]) ?_;have hL7:=sx7 _ _ nL.1 (s46 _ _ hL4);have hA7:=sx7 _ _ nA.1 (s46 _ _ hA4);have r7A:bQ K H7 ys (cG (aBJ ls z n)):=bA r4 λb e h=>Pt.x hN6 sx7 (Pt.same s46 h);have sx47:SameX p H4 H7:=s46.x.trans sx7;have sx07:SameX p H H7:=sx04.trans sx47;have hT7:Sh K H7 (xI T) (.ref ta):=aBd hT hN sx07;refine⟨C7,λG hG=>?_⟩;have nG:=hP7.ne hG;have sg:=aD hG (.lst []);refine⟨_,rfl,n,rfl,by lia,λF us M H8 s8 hF0 hF rF gM gA zM=>⟨F,rfl,.inl ⟨⟨_,.of hF⟩,?_⟩⟩⟩;have s78:=sg.trans s8;have hG8:H8 G=some (.lst []):=s8 _ _ aB;have GF:G≠F:=λe=>by rw[<- e,aB] at hF0;cases hF0
 have hsb8:=s78.tup hsb7;have hT8:=hT7.same s78;have hL8:=s78 _ _ hL7;have LG:L≠G:=λe=>by rw[<- e,hL7] at hG;cases hG
 have mlen:us.length=M.length:=by rw[rF.1,gN]
 refine aX (K:=K) (a:=F) (xs:=us) (λi σ' H'=>i<=us.length/\SameX G H8 H'/\(∃x5 x11,σ'=[some (.ref p),some (.ref ta),some (.int (n:Int)),some (.int z),some (.ref L),x5,x6,some (.ref A),some (.ref B),some (.ref sb),some (.ref G),x11,none])/\∃ms:List Int,H' G=some (.lst (ms.map V.int))/\ms.length<=i/\((∃k e,k<i/\M[k]?=some e/\prt s e.1 e.2=true)->ms≠[])/\∀x∈ms,x.natAbs<2^30) ⟨bh _,SameX.refl _ _,⟨_,_,rfl⟩,[],hG8,ar _,λ⟨k,e,hk,_⟩=>absurd hk (i5 _),λx hx=>by cases hx⟩ (λi σ9 H9 _ ⟨_,sx9,_⟩=>.of (sx9 _ _ (gf GF) hF)) (λi x σ9 H9 hx ⟨_,sx9,⟨x5,x11,es⟩,ms,hG9,ml,mn,mb⟩=>?_) λσ9 H9 ⟨_,sx9,⟨x5,x11,es⟩,ms,hG9,ml,mn,mb⟩=>?_
 ·subst es;have hi:=(ai.mp hx).1;obtain⟨e,b,he,rfl,hb⟩:=sN rF hx;obtain⟨g1,g2⟩:=gM e (au he);have hb9:=fL hb hG8 sx9;refine⟨b,_,rfl,hb9,rfl,_,_,rfl,_,_,rfl,rfl,?_⟩;refine⟨_,rfl,_,rfl,_,rfl,sb,s,e.1,e.2,rfl,fL hsb8 hG8 sx9,_,rfl,tH (λc=>?_) λc=>?_⟩
  ·have hT9:=aBd hT8 hG8 sx9;have hL9:=sx9 _ _ LG hL8;have w:=bT e.1 e.2 (by lia) g2;have l1:=lbi e.1 (by lia);have l2:=lbi e.2 g2;have zw:(z*at2 T e.1 e.2).natAbs<2^27:=iB (a:=7) (b:=20) z7 (by lia);refine⟨_,rfl,.inl ⟨rfl,_,.of hG9⟩,_,rfl,tQ (t:=1) (si:=5) (sj:=11) (i:=e.1) (j:=e.2) rfl rfl rfl hT9 qT (by lia) g2 ⟨.inl (.inl ⟨by lia,by lia⟩),_,rfl,_,rfl,ixL (j:=e.1) (.of hL9) (aCD (by lia)) ⟨_,_,rfl,rfl,_,rfl,_,rfl,ixL (j:=e.2) (.of hL9) (aCD (by lia)) ⟨_,_,rfl,rfl,G,_,_,rfl,rfl,hG9,bj (show _<=100 by rw[af];lia) (by decide),hi,sx9.trans (SameX.put _),⟨_,_,rfl⟩,ms++[z*at2 T e.1 e.2-ls.getD e.1 0-ls.getD e.2 0],by rw[aB,c4];rfl,by rw[aq,gg];lia,λ_=>by simp,λx hx=>?_⟩⟩⟩⟩;rcases cg.mp hx with hx|hx
   ·exact mb x hx
   ·rw[br.mp hx];lia
  ·refine⟨hi,sx9,⟨_,_,rfl⟩,ms,hG9,by lia,λ⟨k,e',hk,he',hp'⟩=>mn ⟨k,e',?_,he',hp'⟩,mb⟩;by_cases ck:k<i
   ·exact ck
   ·obtain rfl:k=i:=by lia
    rw[he] at he';cases he';exact absurd hp' c
 subst es;have ne:ms≠[]:=mn (by
  obtain⟨i,j,hij,hj,hp'⟩:=aLz n3 n6 hsn;obtain⟨k,hk⟩:=gi.mp (gA i j hij hj);exact⟨k,(i,j),by rw[mlen];exact(ai.mp hk).1,hk,hp'⟩)
 have AG:A≠G:=λe=>by rw[<- e,hA7] at hG;cases hG
 have hA9:=sx9 _ _ AG (s78 _ _ hA7);have hP9:Pen H9 p l ns:=by
  obtain⟨k8,z8,h1,h2,h3⟩:=hP7.x s78;exact⟨k8,z8,sx9 _ _ (gf nG.1) h1,sx9 _ _ (gf nG.2) h2,h3⟩
 have r9A:bQ K H9 ys (cG (aBJ ls z n)):=bA r7A λb e h=>Pt.x hG8 sx9 (Pt.same s78 h);have hsb9:=fL hsb8 hG8 sx9;have sx09:SameX p H H9:=λb u hb e=>sx9 _ _ (aJ (sx07 _ _ hb e) hG) (s78 _ _ (sx07 _ _ hb e));refine⟨_,rfl,.inl ⟨rfl,_,.of hA9⟩,_,rfl,_,rfl,.inl ⟨G,ms,rfl,.inl (.of hG9),ne,λm hm _=>⟨_,rfl,m,z,rfl,z0,up8 z7 (by decide),λf H10 s10 hf=>⟨C9,λb hb=>?_⟩⟩⟩⟩;have mB:=mb m hm;have sb':=aD hb (.tup [V.ref sb,.ref f]);have s11:=s10.trans sb';have hA11:=s11 _ _ hA9;refine⟨A,ys,_,rfl,rfl,hA11,bj (show _<=100 by lia) (by decide),?_⟩;have r12:bQ K (upd (upd H10 b (.tup [V.ref sb,.ref f])) A (.lst (ys++[.ref b]))) (ys++[.ref b]) (cG (aBJ ls z n++[(s,((lo m z).1,(lo m z).2))])):=kT (bA r9A λb e=>Pt.same s11) hA11 (.of aB) (s11.tup hsb9) (sb'.tup (.of hf));have hA12:(upd (upd H10 b (.tup [V.ref sb,.ref f])) A (.lst (ys++[.ref b]))) A=some (.lst (ys++[.ref b])):=aB;have hP12:=(hP9.x s11).upd (o:=.lst (ys++[.ref b])) nA.1 nA.2;have sx12:SameX p H (upd (upd H10 b (.tup [V.ref sb,.ref f])) A (.lst (ys++[.ref b]))):=λc u hc e=>by
  rw[aM (aJ (sx03 _ _ hc e) hA)];exact s11 _ _ (sx09 _ _ hc e)
 have gW:∀e∈aBJ ls z n++[(s,((lo m z).1,(lo m z).2))],e.1∈bP n/\0<e.2.2/\e.2.2∣z/\e.2.1.natAbs<2^30:=λe he=>by
  rcases cg.mp he with he|he
  ·obtain⟨k,hk,rfl⟩:=cw.mp he;have hk:=fc.mp hk;exact⟨C0 (dk.mp (aNB n n3 n6) k (fc.mpr hk)),iW z0,pN z0,av (eD z0 (lbi k hk)) (by decide)⟩
  ·rw[br.mp he];exact⟨hsn,iW z0,pN z0,eD z0 mB⟩
 have ndW:((aBJ ls z n++[(s,((lo m z).1,(lo m z).2))]).map (·.1)).Nodup:=by
  refine jA ?_ λh=>?_
  ·unfold aBJ;rw[fg];exact yg _ (λa b h e=>h (fj e).1) List.nodup_range
  ·unfold aBJ at h;rw[fg] at h;obtain⟨k,_,e⟩:=cw.mp h;rw[<- e] at hs1;exact absurd hs1 (show ¬1<1 by decide)
 have lW:(aBJ ls z n++[(s,((lo m z).1,(lo m z).2))]).length<=7:=by
  unfold aBJ;rw[aq,af,e8,gg];lia
 clear r9A hsb9 sx09 hG9 mn mb hA9 hP9 sx9 rF gM gA hG8 hT8 hL8 hsb8 s78 hF s8 hF0 sg hG r7A hT7 hA7 hL7 hsb7 hB7 r6 rC hC s46 hP6;generalize aBJ ls z n++[(s,((lo m z).1,(lo m z).2))]=W1 at *;generalize ys++[V.ref b]=y1 at *;generalize upd (upd H10 b (.tup [V.ref sb,.ref f])) A (.lst y1)=K1 at *;have y1l:y1.length=W1.length:=by rw[r12.1];unfold cG;rw[af]
 refine⟨_,rfl,A,rfl,.inl ⟨⟨_,.of hA12⟩,λB2 hB2=>?_⟩⟩;refine aX (K:=K) (a:=A) (xs:=y1) (λi σ' H'=>i<=y1.length/\Same K1 H'/\(∃x0,σ'=[x0])/\∃ws,H' B2=some (.lst ws)/\bQ K H' ws (cG ((W1.take i).filter λe=>!decide ([e.2.1,e.2.2]=[(0:Int),1])))) ⟨bh _,aD hB2 _,⟨_,rfl⟩,[],aB,aAA⟩ (λi σ6 H6 _ ⟨_,s6,_⟩=>.of (s6 _ _ hA12)) (λi x σ6 H6 hx ⟨_,s6,⟨x0,es⟩,ws,hB6,r6⟩=>?_) λσ6 H6 ⟨_,s6,_,ws,hB6,r6⟩=>?_
 ·subst es;have hi:=(ai.mp hx).1;obtain⟨e,b,c,f,he,rfl,hb,hc,hf⟩:=sY (K:=K) (H:=H6) (bA r12 λb e=>Pt.same s6) hx;refine⟨_,rfl,ixT (j:=1) hb rfl ⟨C9,λu hu=>?_⟩⟩;have mu:=aD hu (.tup [V.int 0,.int 1]);refine⟨.tup ([e.2.1,e.2.2].map Dt.int),.tup ([(0:Int),1].map Dt.int),eE _,⟨f,_,rfl,mu.tup hf,ShL.ints [e.2.1,e.2.2]⟩,⟨u,_,rfl,.of aB,ShL.ints [0,1]⟩,_,rfl,?_⟩;rw[kJ];have e1:(W1.take (i+1)).filter (λe=>!decide ([e.2.1,e.2.2]=[(0:Int),1]))=(W1.take i).filter (λe=>!decide ([e.2.1,e.2.2]=[(0:Int),1]))++if(!decide ([e.2.1,e.2.2]=[(0:Int),1]))=true then[e] else[]:=by
   rw[gq,he,je];congr 1;have:=aOR (λe:List Nat×(Int×Int)=>!decide ([e.2.1,e.2.2]=[(0:Int),1])) id e;rw[A9] at this;exact this
  have wsl:ws.length<=i:=by
   rw[r6.1];unfold cG;rw[af];refine bo (dy _ _) ?_;rw[dj];lia
  refine tH (λc=>?_) λc=>?_
  ·have c:(!decide ([e.2.1,e.2.2]=[(0:Int),1]))=true:=c;rw[C5 c] at e1;refine⟨_,rfl,ws,mu _ _ hB6,bj (show ws.length<=100 by lia) (by decide),hi,bO hB2 (s6.trans mu),⟨_,rfl⟩,_,aB,?_⟩;rw[e1];exact kT (s:=e.1) (t:=e.2.1) (z:=e.2.2) (bA r6 λb e=>Pt.same mu) (mu _ _ hB6) (mu.tup hb) (mu.tup hc) (mu.tup hf)
  ·have c:¬(!decide ([e.2.1,e.2.2]=[(0:Int),1]))=true:=c;rw[C4 c,ia] at e1;refine⟨hi,s6.trans mu,⟨_,rfl⟩,ws,mu _ _ hB6,?_⟩;rw[e1];exact bA r6 λb e=>Pt.same mu
 rw[y1l,gn] at r6;have fsub:=List.filter_sublist (p:=λe:List Nat×(Int×Int)=>!decide ([e.2.1,e.2.2]=[(0:Int),1])) (l:=W1);have nd2:((W1.filter λe=>!decide ([e.2.1,e.2.2]=[(0:Int),1])).map (·.1)).Nodup:=List.Pairwise.sublist (List.Sublist.map _ fsub) ndW;have lW2:(W1.filter λe=>!decide ([e.2.1,e.2.2]=[(0:Int),1])).length<=7:=bo (dy _ _) lW;have gW2:∀e∈W1.filter λe=>!decide ([e.2.1,e.2.2]=[(0:Int),1]),e.1∈bP n/\0<e.2.2/\e.2.2∣z/\e.2.1.natAbs<2^30:=λe he=>gW e (gr.mp he).1;clear fsub gW lW ndW y1l r12;generalize W1.filter (λe=>!decide ([e.2.1,e.2.2]=[(0:Int),1]))=W2 at *;refine⟨B2,ws,cG W2,rfl,.inl (.of hB6),r6,?_,by unfold cG;rw[af];lia,λus W' pW' _ pu rU l2 hl2=>?_⟩
 ·have e:(cG W2).map (·.1)=nN (W2.map (·.1)):=by
   unfold cG nN;rw[fg,fg];rfl
  rw[e];unfold nN;exact yg _ (λa b hne e=>hne (iZ e)) nd2
 obtain⟨W3,p3,rfl⟩:∃W3:Cts,W3.Perm W2/\W'=cG W3:=tY pW' W2 rfl;have sl2:=aD hl2 (.lst us);have nl2:=(hP12.x s6).ne hl2;have rU:=bA rU λb e=>Pt.same sl2;have s14:=s6.trans sl2;have hl14:(upd H6 l2 (.lst us)) l2=some (.lst us):=aB;generalize upd H6 l2 (.lst us)=H14 at *;have ul:us.length=W3.length:=by rw[rU.1];unfold cG;rw[af]
 have l3:W3.length<=7:=by rw[p3.length_eq];exact lW2
 refine⟨_,rfl,l2,rfl,.inl ⟨⟨_,.of hl14⟩,λP hPn=>aIl (j:=1) aJc hl14 rU (by lia) hPn λσ8 us2 H8 s8 hB9 r9=>?_⟩⟩;rw[<- aAf] at r9;refine⟨_,rfl,_,rfl,_,rfl,.inl ⟨P,P,us2,us2,rfl,rfl,hB9,hB9,?_,λX hX=>?_⟩⟩
 ·rw[r9.1];unfold prI;rw[af,af];exact bo (show _<=100 by lia) (by decide)
 have mX:=aD hX (.lst (us2++us2));have gW3:∀e∈W3,e.1∈bP n/\0<e.2.2/\e.2.2∣z/\e.2.1.natAbs<2^30:=λe he=>gW2 e (p3.mem_iff.mp he);have inP:∀x∈W3.map (·.2)++W3.map (·.2),∃e∈W3,x=e.2:=λx hx=>by
  rcases cg.mp hx with hx|hx
  ·obtain⟨e,he,rfl⟩:=cw.mp hx;exact⟨e,he,rfl⟩
  ·obtain⟨e,he,rfl⟩:=cw.mp hx;exact⟨e,he,rfl⟩
 have lP:(W3.map (·.2)++W3.map (·.2)).length<=100:=by rw[aq,af];lia
 refine⟨X,us2++us2,W3.map (·.2)++W3.map (·.2),z,rfl,aB,by rw[aBW];exact(mJ r9 r9).same mX,λx hx=>?_,lP,z0,av z7 C6,λw H16 s16 hw=>⟨C9,λR hR=>?_⟩⟩
 ·obtain⟨e,he,rfl⟩:=inP x hx;obtain⟨_,g2,g3,g4⟩:=gW3 e he;exact⟨g2,g3,av g4 C6⟩
 have sR:=aD hR (.tup [V.ref l2,.ref w]);have s17:=((s8.trans mX).trans s16).trans sR;have sbn:(eM z (W3.map (·.2)++W3.map (·.2))).natAbs<2^(7+(30+7)):=jI z0 z7 (λx hx=>by
  obtain⟨e,he,rfl⟩:=inP x hx;obtain⟨_,g2,_,g4⟩:=gW3 e he;exact⟨g2,g4⟩) lP
 refine q R l2 w us W3 z (lo (eM z (W3.map (·.2)++W3.map (·.2))) z) _ (hP12.x (s14.trans s17)) (sx12.trans (s14.trans s17).x) (.of aB) (s17 _ _ hl14) (bA rU λb e=>Pt.same s17) ⟨by lia,λe he=>?_,(p3.map (·.1)).nodup_iff.mpr nd2,z0,av z7 C6⟩ (.of (sR _ _ hw)) (iW z0) (pN z0) (av (eD z0 sbn) C6) nl2.1;obtain⟨g1,g2,g3,g4⟩:=gW3 e he;exact⟨g1,g2,g3,av g4 C6⟩
def aLy (n3:3<=n)(n6:n<=6)(b:Bs T n)(ok:OkT T n h)(pW:W.Perm (aHA T n h))(sW:((cG W).map (·.1)).Pairwise (λa b=>lexL b a=false)):Ba n (dT T n h) W where
 len:=by rw[pW.length_eq];exact(aHl n3 n6 b ok).1
 ent:=λe he=>by
  have he:=pW.mem_iff.mp he;obtain⟨h1,h2,_⟩:=(aHl n3 n6 b ok).2 e he;refine⟨(aKB n3 n6 ok e he).1,h1,h2,?_⟩;obtain⟨i,_,rfl⟩:=cw.mp he;have sg:=aHb (j:=h i) n3 n6;have:=iB (show(stA n (h i)).2.natAbs<2^1 by lia) (aDq n3 n6 b h i (NN n));exact av (eD ok.d0 this) C6
 nd:=by
  have:=aKF n3 n6 ok pW sW;unfold nN at this;refine(ph.mp this).imp λ{a b} h e=>?_;rw[e,aGZ] at h;cases h
 d0:=ok.d0
 db:=av (aAs n3 n6 b h) C6
def ThP (K:aa)(n:Nat)(D:Int):Hp->V->Prop:=λG y=>∃(b f:ww) (x:V) (t z:Int),y=.ref b/\SqT K G b [x,.ref f]/\LP (EnP K n D) 17 G x/\Fr K G f t z
def aDY:Mo (ThP K n D):=λG G' y s ⟨b,f,x,t,z,e,h1,h2,h3⟩=>⟨b,f,x,t,z,e,s.tup h1,jQ bL _ _ _ s h2,s.tup h3⟩
def Jb (K:aa)(n:Nat)(p:ww):Hp->V->Prop:=λG x=>∃(b t w:ww) (ys:List V) (W:Cts) (D:Int) (a:Int×Int),x=.ref b/\SqT K G b [.ref t,.ref w]/\G t=some (.lst ys)/\bQ K G ys (cG W)/\Ba n D W/\Fr K G w a.1 a.2/\0<a.2/\a.2∣D/\a.1.natAbs<2^500/\t≠p
def Jb.x {K:aa}{n:Nat}{p:ww}{G G':Hp}{x:V}{zs:List V}(h:Jb K n p G x)(hp:G p=some (.lst zs))(s:SameX p G G'):Jb K n p G' x:=by
 obtain⟨b,t,w,ys,W,D,a,e,h1,h2,h3,h4,h5,h6,h7,h8,h9⟩:=h;exact⟨b,t,w,ys,W,D,a,e,fL h1 hp s,s _ _ h9 h2,bA h3 λb e=>Pt.x hp s,h4,fL h5 hp s,h6,h7,h8,h9⟩
def Mz (K:aa):Hp->V->Prop:=λG x=>∃(b:ww) (t z:Int),x=.ref b/\Fr K G b t z/\0<z/\z∣10^9/\t.natAbs<4
def aJg:Mo (Mz K):=λ_ _ _ s ⟨b,t,z,e,h,r⟩=>⟨b,t,z,e,s.tup h,r⟩
def FrX (K:aa):Hp->V->Prop:=λG x=>∃(b:ww) (t z:Int),x=.ref b/\Fr K G b t z
def aJD:Mo (FrX K):=λ_ _ _ s ⟨b,t,z,e,h⟩=>⟨b,t,z,e,s.tup h⟩
def aGH:hd [] H=H:=funext λb=>cL (by simp)
def aIY (mo:Mo Φ)(mo2:Mo Ψ)(mo3:Mo Χ)(hc:ci.map (aMa σ)=[none,some w])(hw:Χ (hd S H) w)(h:Ep (LP Ψ k) S t σ H)(hk:k<=4000)(he:∀(S':List ww) (H':Hp) (x:V),BLs S' H'->Ψ (hd S' H') x->Χ (hd S' H') w->Ep Φ S' te [some x,some w] H')(s:Same H H1)(hb:BLs S H1)(q:∀acc L H2,Same H1 H2->H1 acc=none->H2 acc=some (.lst L)->L.length<=k->(∀y∈L,Φ (hd (acc::S) H2) y)->Q (.ref acc) H2):bJ ci (dU K t) (aE 0) [] (λacc=>bG te acc) σ H1 Q:=
 h H1 s hb _ λx H2 s2 hx=>by
  obtain⟨a,xs,rfl,ha,hl,hx⟩:=hx;have b2:=hb.same s2;refine⟨a,rfl,.inl ⟨⟨xs,.of (aZ _ _ ha)⟩,λacc hacc=>?_⟩⟩;rw[hc];have hw2:=mo3 _ _ _ (aI (s.trans s2)) hw;refine lA (vars:=[0]) (K:=K) (a:=a) (xs:=xs) (λi L H'=>L.length=i/\∀y∈L,Φ (hd (acc::S) H') y) (by decide) (by show 0<2;decide) ⟨rfl,λx hm=>by cases hm⟩ hacc (λi L H' sm _=>.of (sm _ _ (aZ _ _ ha))) (λi x σ1 H3 L Dn hxi l1 ag1 s0 sm1 ha1 ⟨r1,r2⟩ hD=>?_) λσ1 H3 L sm1 ha1 ⟨r1,r2⟩=>?_
  ·have hi:=(ai.mp hxi).1;have e1:σ1=[some x,some w]:=by
    have a1:σ1[1]?=some (some w):=(ag1 1 (by decide)).trans rfl
    match σ1,l1,s0,a1 with
    |[a,b],_,s0,a1=>cases s0;cases a1;rfl
   subst e1;have b3:BLs (acc::S) H3:=(b2.same sm1).cons ha1;have sx:Same (hd S H2) (hd (acc::S) H3):=(aMy hacc).trans (aI sm1);refine he (acc::S) H3 x b3 (mo2 _ _ _ sx (hx x (au hxi))) (mo3 _ _ _ sx hw2) H3 (Same.refl _) b3 _ λy H4 s4 hy=>?_;have ha4:=s4 _ _ ha1;refine⟨L,ha4,bj (show L.length<=4000 by lia) (by decide),?_⟩;refine hD _ _ _ l1 ag1 (bO hacc (sm1.trans s4)) aB ⟨by rw[aq,r1];rfl,λx hm=>?_⟩;rw[vI (by simp)];rcases cg.mp hm with hm|hm
   ·exact mo _ _ _ (aI s4) (r2 x hm)
   ·rw[br.mp hm];exact hy
  ·exact q acc L _ (s2.trans sm1) (s2.free hacc) ha1 (by rw[r1];exact hl) r2
def aJb (mo:Mo Φ)(h:Aa Φ S ts σ H k)(s:Same H H1)(hb:BLs S H1)(hk:k<=20)(q:∀p xs H2,Same H1 H2->H1 p=none->H2 p=some (.lst xs)->xs.length=k->(∀x∈xs,Φ (hd S H2) x)->dP (Itl K p) g tb {D with nx:=rest D} σ H2):aH (iJ (dU K (dC ts)) g tb) rest D σ H1:=
 aPj (Q:=λx H1=>∃a,x=.ref a/\(((∃xs,SqL K H1 a xs)/\dP (Itl K a) g tb {D with nx:=rest D} σ H1)\/((∃xs,SqT K H1 a xs)/\dP (Itt K a) g tb {D with nx:=rest D} σ H1))) mo h s hb hk λp xs H2 s2 hp0 hp hl hx=>⟨p,rfl,.inl ⟨⟨xs,.of hp⟩,q p xs H2 s2 hp0 hp hl λx hm=>mo _ _ _ xY (hx x hm)⟩⟩
def aPk (va:Vl (.int t) ta σ)(vz:Vl (.int z) tz σ)(z0:0<z)(zd:z∣10^9)(tb:t.natAbs<4):Ep (Mz K) S (bH (aA ta (aA tz aF))) σ H:=aEG (fI (K:=K) (d_i va) (d_i vz)) λ_ _ hx=>by
 obtain⟨b,e,hb⟩:=aOt (t:=t) (z:=z) hx;exact⟨b,t,z,e,hb,z0,zd,tb⟩
def aRJ:Vl (.int (10^9)) (tOp aEy (AC 10) (AC 9)) σ:=λ_ _ q=>⟨10,9,rfl,rfl,⟨by decide,by decide,by decide⟩,q⟩
def aQg:Aa (Mz K) S (aA (bH (aA (AC 1) (aA (AC 1) aF))) (aA (bH (aA (tUn pK (AC 1)) (aA (AC 1) aF))) (aA (bH (aA (AC 1) (aA (tOp aEy (AC 10) (AC 9)) aF))) aF))) σ H 3:=
 aV aJg (aPk v_c v_c (by decide) ⟨10^9,by decide⟩ (by decide)) (aV aJg (aPk aKt v_c (by decide) ⟨10^9,by decide⟩ (by decide)) (aV aJg (aPk v_c aRJ (by decide) (Int.dvd_refl _) (by decide)) kC))
def aIg (hv:σ[i]?=some (some x))(hw:σ[j]?=some (some y))(hx:LP (EnP K n D) 17 (hd S H) x)(hy:FrX K (hd S H) y):Ep (ThP K n D) S (bH (aA (aC i) (aA (aC j) aF))) σ H:=λH1 s hb Q q=>⟨_,hv,_,hw,C9,λp hp=>by
 have sp:=aD hp (.tup [x,y]);obtain⟨f,t,z,rfl,hf⟩:=aJD _ _ _ (aI (s.trans sp)) hy;exact q _ _ sp ⟨p,f,x,t,z,rfl,dS (.of aB) (hb.same sp),jQ bL _ _ _ (aI (s.trans sp)) hx,hf⟩⟩
def aMM (h:LP (EnP K n D) 17 G x):∃l ys ds,x=.ref l/\G l=some (.lst ys)/\ShL K G ds ys/\Gd n D ds:=aPh (by decide) h
def aIi (K:aa):Sp:=λvs H Q _=>∃(a:ww) (ns:List Int),vs=[.ref a]/\SqL K H a (ns.map V.int)/\ns.length<=63/\∀H',Q (.bl true) H'
def aMW:qQ1 (aIi K) (aMD K (aQO K) (aRc K) (aRq K) (aJr K) (aJS K) (wM K) (aMk K) (aMw K C1 C2 C3)) ["script","feed","table","told","some","worth","bends","things","other","thing","number","seen","found","one"]:=by
 intro vs H Q E h;obtain⟨a,ns0,rfl,hS0,h63,q⟩:=h;refine⟨_,rfl,a,ns0,rfl,hS0,λp l ns H0 s0 hP0=>?_⟩;refine⟨_,rfl,p,l,ns,3,3,rfl,by decide,by decide,hP0,λT n v H1 n3 n6 qT bT sT hS1 hP1 sx1=>?_⟩;have n6:n<=6:=n6;refine⟨_,rfl,v,T,n,rfl,hS1,qT,by lia,by lia,.inr ⟨sT,.inr (.inr ⟨n3,n6,bT,λh t wp fl cl ys zs W' H2 s2 ok top ht hwp nfl hfl rQ ncl nff hcl pW' sW' rP=>?_⟩)⟩⟩;obtain⟨W,pW,rfl⟩:=aIs pW';have ba1:=aLy n3 n6 bT ok pW sW';obtain⟨ta,rs,rfl,hta1,hrl,_⟩:=id hS1.tab;have hrl:rs.length=n:=hrl.trans qT.len;have hP2:=hP1.x s2;have hS2:=hS1.same s2;refine⟨_,rfl,ixT (j:=2) (.of ht) rfl ⟨_,rfl,ixT (j:=0) (.of ht) rfl ⟨C9,λr1 hr1=>?_⟩⟩⟩;have sr1:=aD hr1 (.tup [V.ref cl,.ref wp]);have hP3:=hP2.x sr1;obtain⟨k3,z3,hN3,_⟩:=id hP3;have j1:Jb K n p (upd H2 r1 (.tup [V.ref cl,.ref wp])) (.ref r1):=⟨r1,cl,wp,zs,W,dT T n h,lo (RT T n h (mN n) (NN n)) (dT T n h),rfl,.of aB,sr1 _ _ hcl,bA rP λb e=>Pt.same sr1,ba1,sr1.tup (.of hwp),iW ok.d0,pN ok.d0,av (eD ok.d0 (aDq n3 n6 bT h (mN n) (NN n))) C6,(hP1.ne ncl).1⟩;refine⟨_,rfl,_,rfl,p,l,ns,.ref ta,T,n,rfl,hP3,hS2.same sr1,qT,n3,n6,bT,λR t2 w2 ys2 W2 D2' a2 H4 hP4 sx4 hR ht2 r2 ba2 hw2 pos2 dvd2 bnd2 t2p=>⟨C9,λL hL=>⟨L,rfl,.inl ⟨⟨_,.of aB⟩,?_⟩⟩⟩⟩;have sL:=aD hL (.lst [V.ref r1,.ref R]);have jj:∀x∈[V.ref r1,.ref R],Jb K n p (upd H4 L (.lst [V.ref r1,.ref R])) x:=λx hx=>by
  rcases b8.mp hx with rfl|hx
  ·obtain⟨k4,z4,hN4,_⟩:=id hP4;exact(j1.x hN3 sx4).x hN4 sL.x
  ·rw[br.mp hx];obtain⟨k4,z4,hN4,_⟩:=id hP4;exact Jb.x (p:=p) ⟨R,t2,w2,ys2,W2,D2',a2,rfl,hR,ht2,r2,ba2,hw2,pos2,dvd2,bnd2,t2p⟩ hN4 sL.x
 have hP5:=hP4.x sL;have hS5:=(aBd (hS2.same sr1) hN3 sx4).same sL;have hL5:(upd H4 L (.lst [V.ref r1,.ref R])) L=some (.lst [V.ref r1,.ref R]):=aB;have Lp:L≠p:=(hP4.ne hL).1;clear j1 hS2 hN3 hR ht2 r2 ba2 hw2 sx4;generalize upd H4 L (.lst [V.ref r1,.ref R])=G at *;generalize [V.ref r1,V.ref R]=js at *;obtain⟨kG,zG,hNG,_⟩:=id hP5;refine aX (K:=K) (a:=L) (xs:=js) (λi σ' H'=>i<=js.length/\(∃x4 x5 x6 x7 x8 x9 x10 x11 x12 x13,σ'=[some (.ref a),some (.ref p),some (.ref ta),some (.ref t),x4,x5,x6,x7,x8,x9,x10,x11,x12,x13])/\Pen H' p l ns/\SameX p G H') ⟨bh _,⟨_,_,_,_,_,_,_,_,_,_,rfl⟩,hP5,SameX.refl _ _⟩ (λi σ6 H6 _ ⟨_,_,_,sx⟩=>.of (sx _ _ Lp hL5)) (λi x σ6 H6 hx ⟨_,⟨x4,x5,x6,x7,x8,x9,x10,x11,x12,x13,es⟩,hP6,sx6⟩=>?_) λσ6 H6 ⟨_,⟨x4,x5,x6,x7,x8,x9,x10,x11,x12,x13,es⟩,_⟩=>?_;rotate_left
 ·subst es;exact q H6
 subst es;have hi:=(ai.mp hx).1;obtain⟨b,t1,w,ys1,W1,D1,aw,rfl,hb,ht1,rW1,ba,hw,aw0,awd,awb,tp⟩:=(jj x (au hx)).x hNG sx6;have hS6:=aBd hS5 hNG sx6;obtain⟨ta',rs6,e6,hta6,hrl6,_⟩:=id hS6.tab;cases e6;have hrl6:rs6.length=n:=hrl6.trans qT.len;refine⟨b,_,rfl,hb,rfl,_,_,rfl,_,_,rfl,rfl,?_⟩;refine⟨_,rfl,C8,λl1 hl1=>⟨_,rfl,_,rfl,_,rfl,ta,rs6,rfl,.inr ((aD hl1 _).tup hta6),?_⟩⟩;rw[hrl6];have s7:=aD hl1 (.lst [V.ref t1]);refine⟨p,l,ns,n,t1,ys1,W1,D1,rfl,hP6.x s7,n3,n6,s7 _ _ ht1,bA rW1 λb e=>Pt.same s7,ba,tp,λF zs2 H8 hP8 sx8 hF0 hF zl hz=>?_⟩;obtain⟨k7,z7,hN7,_⟩:=id (hP6.x s7);have nl1:=hP6.ne hl1;refine .inl ⟨l1,F,[.ref t1],zs2,rfl,rfl,sx8 _ _ nl1.1 aB,hF,bo (show _<=4000 by rw[gg];lia) (by decide),λB hB=>?_⟩;have sB:=aD hB (.lst ([V.ref t1]++zs2));have sx68:SameX p H6 H8:=s7.x.trans sx8;have hS9:=(aBd (hS6.same s7) hN7 sx8).same sB;have ht9:=sB _ _ (sx8 _ _ tp (s7 _ _ ht1));have hw9:Fr K (upd H8 B (.lst ([V.ref t1]++zs2))) w aw.1 aw.2:=sB.tup (fL (s7.tup hw) hN7 sx8);have rW9:bQ K (upd H8 B (.lst ([V.ref t1]++zs2))) ys1 (cG W1):=bA rW1 λb e h=>Pt.same sB (Pt.x hN7 sx8 (Pt.same s7 h));have hP9:=hP8.x sB;have sx69:SameX p H6 (upd H8 B (.lst ([V.ref t1]++zs2))):=sx68.trans sB.x;have lt9:LP (EnP K n (D2 D1)) 17 (upd H8 B (.lst ([V.ref t1]++zs2))) (.ref t1):=aLM (aBb (k:=15) ⟨t1,ys1,rfl,ht9,rW9⟩ (ba.pi n6) ba.len) (by decide);have lB:∀x∈[V.ref t1]++zs2,LP (EnP K n (D2 D1)) 17 (upd H8 B (.lst ([V.ref t1]++zs2))) x:=λx hx=>by
  rcases cg.mp hx with hx|hx
  ·rw[br.mp hx];exact lt9
  ·exact jQ bL _ _ _ sB (hz x hx)
 have lBl:([V.ref t1]++zs2).length<=3001:=by rw[aq,gg];lia
 have hB9:(upd H8 B (.lst ([V.ref t1]++zs2))) B=some (.lst ([V.ref t1]++zs2)):=aB;clear hS6 hta6 hb ht1 rW1 hw hz hF hN7 sx68 sx8 hP8;generalize [V.ref t1]++zs2=bs at *;generalize upd H8 B (.lst bs)=H9 at *;have d2:=ba.d2;refine mE (aIY (K:=K) (S:=[]) (ci:=[none,some 5]) (Φ:=ThP K n (D2 D1)) (Ψ:=LP (EnP K n (D2 D1)) 17) (Χ:=FrX K) (w:=.ref w) (k:=3001) aDY (jQ bL) aJD rfl (by rw[aGH];exact⟨w,_,_,rfl,hw9⟩) (oG (i:=6) (jQ bL) rfl (by rw[aGH];exact⟨B,bs,rfl,hB9,lBl,lB⟩)) (by decide) (λS' H' x hb hx hw=>aIg (i:=0) (j:=1) rfl rfl hx hw) (Same.refl _) (λb hb=>by cases hb) λX L3 H10 s10 hX0 hX10 lL hLL=>?_);have nX:=hP9.ne hX0;have tX:t1≠X:=aJ ht9 hX0;have bX:Same H9 (hd [X] H10):=λb u e=>by
  rw[cL (by simpa using aJ e hX0)];exact s10 _ _ e
 refine aJb aJg (aQg (K:=K) (S:=[]) (H:=H10)) (Same.refl _) (λb hb=>by cases hb) (by decide) λO os G1 mO hO0 hO11 ol oM=>?_;rw[aGH] at oM;have hX11:=mO _ _ hX10;have hLL11:∀y∈L3,ThP K n (D2 D1) (hd [X] G1) y:=λy hy=>aDY _ _ _ (aI mO) (hLL y hy);have bX11:=bX.trans (aI (S:=[X]) mO);have OX:O≠X:=λe=>by rw[e,hX10] at hO0;cases hO0
 have s11:=s10.trans mO;clear hLL bX lB hB9 lBl mO hX10 s10;refine aX (K:=K) (a:=O) (xs:=os) (λi σ' H'=>i<=os.length/\(∃x8,σ'=[some (.ref a),some (.ref p),some (.ref ta),some (.ref t),some (.ref t1),some (.ref w),some (.ref B),some (.ref X),x8,x9,x10,x11,x12,x13])/\SameX X G1 H'/\∃L',H' X=some (.lst L')/\L'.length<=3001+i/\∀y∈L',ThP K n (D2 D1) (hd [X] H') y) ⟨bh _,⟨_,rfl⟩,SameX.refl _ _,L3,hX11,lL,hLL11⟩ (λi σ2 H12 _ ⟨_,_,sx,_⟩=>.of (sx _ _ OX hO11)) (λi x σ2 H12 hx ⟨_,⟨x8,es⟩,sx12,L',hX12,lL',hT'⟩=>?_) λσ2 H12 ⟨_,⟨x8,es⟩,sx12,L',hX12,lL',hT'⟩=>?_
 ·subst es;have hi2:=(ai.mp hx).1;obtain⟨o,to,zo,rfl,ho,zo0,zod,tob⟩:=oM x (au hx);have ho12:=fL ho hX11 sx12;have hw12:=fL (s11.tup hw9) hX11 sx12;refine⟨_,rfl,.inl ⟨rfl,_,.of hX12⟩,_,rfl,_,rfl,_,rfl,C9,λg hg=>?_⟩;have sg:=aD hg (.lst [V.ref w,.ref o]);have db:(D1*10^9).natAbs<2^440:=iB (a:=410) (b:=30) ba.db (by decide);refine⟨g,[.ref w,.ref o],[aw,(to,zo)],D1*10^9,rfl,aB,Rows.snoc (Rows.snoc Rows.nil (r:=[aw.1,aw.2]) (sg.tup hw12)) (r:=[to,zo]) (sg.tup ho12),λx hx=>?_,show 2<=100 by decide,lr ba.d0 (by decide),av db C6,λf H13 s13 hf=>⟨C9,λb hb=>?_⟩⟩
  ·rcases b8.mp hx with rfl|hx
   ·exact⟨aw0,ze awd,av awb C6⟩
   ·rw[br.mp hx];exact⟨zo0,Int.dvd_mul_of_dvd_right zod,vK tob (by decide)⟩
  have sb:=aD hb (.tup [V.ref t1,.ref f]);have s14:=(sg.trans s13).trans sb;refine⟨X,L',_,rfl,rfl,s14 _ _ hX12,bj (show L'.length<=4000 by lia) (by decide),hi2,⟨_,rfl⟩,(sx12.trans s14.x).trans (SameX.put _),_,aB,by rw[aq,gg];lia,λy hy=>?_⟩;rw[vI (by simp)];have bl:BLs [X] (upd H13 b (.tup [V.ref t1,.ref f])):=λc hc=>by
   rw[br.mp hc];exact⟨_,s14 _ _ hX12⟩
  rcases cg.mp hy with hy|hy
  ·exact aDY _ _ _ (aI s14) (hT' y hy)
  ·rw[br.mp hy];exact⟨b,f,.ref t1,_,_,rfl,dS (.of aB) bl,jQ bL _ _ _ ((bX11.trans (aNs (by simp) sx12)).trans (aI s14)) lt9,dS (sb.tup (.of hf)) bl⟩
 subst es;have hta9:Sh K H9 (xI T) (.ref ta):=hS9;have hS12:Sh K H12 (xI T) (.ref ta):=aBd (hS9.same s11) hX11 sx12;have ht12:H12 t1=some (.lst ys1):=sx12 _ _ tX (s11 _ _ ht9);have hw12:Fr K H12 w aw.1 aw.2:=fL (s11.tup hw9) hX11 sx12;have rW12:bQ K H12 ys1 (cG W1):=bA rW9 λb e h=>Pt.x hX11 sx12 (Pt.same s11 h);have hP12:Pen H12 p l ns:=by
  obtain⟨k8,z8,h1,h2,h3⟩:=hP9.x s11;exact⟨k8,z8,sx12 _ _ (gf nX.1) h1,sx12 _ _ (gf nX.2) h2,h3⟩
 have sxG:SameX p G H12:=λb u hb e=>by
  have e9:=(sx6.trans sx69) _ _ hb e;exact sx12 _ _ (aJ e9 hX0) (s11 _ _ e9)
 have L4000:L'.length<=4000:=by lia
 clear hta9 hS9 hLL11 oM hO11 bX11 OX hX11 sx12 s11 ht9 hw9 rW9 hP9 lt9 hO0 ol;refine⟨_,rfl,X,rfl,.inl ⟨⟨_,.of hX12⟩,?_⟩⟩;refine aX (K:=K) (a:=X) (xs:=L') (λi σ' H'=>i<=L'.length/\(∃x9 x10 x11 x12,σ'=[some (.ref a),some (.ref p),some (.ref ta),some (.ref t),some (.ref t1),some (.ref w),some (.ref B),some (.ref X),x8,x9,x10,x11,x12,x13])/\Same H12 H') ⟨bh _,⟨_,_,_,_,rfl⟩,Same.refl _⟩ (λi σ2 H13 _ ⟨_,_,s⟩=>.of (s _ _ hX12)) (λi x σ2 H13 hx ⟨_,⟨x9,x10,x11,x12,es⟩,s13⟩=>?_) λσ2 H13 ⟨_,⟨x9,x10,x11,x12,es⟩,s13⟩=>?_
 ·subst es;have hi2:=(ai.mp hx).1;obtain⟨b,f,y,tt,zz,rfl,hb,hy,hf⟩:=aDY _ _ _ (aZ.trans s13) (hT' x (au hx));refine⟨b,_,rfl,hb,rfl,_,_,rfl,_,_,rfl,rfl,?_⟩;obtain⟨ly,yy,ds,rfl,hly,hsh,gd⟩:=aMM hy;have sh:∀{G:Hp},Same H13 G->Sh K G (.lst ds) (.ref ly):=λs=>⟨ly,yy,rfl,.of (s _ _ hly),hsh.same s⟩;refine⟨_,rfl,.lst ds,_,rfl,sh (Same.refl _),gd.okR,?_⟩;refine⟨_,rfl,_,rfl,_,rfl,.ref ta,ly,f,T,n,(tt,zz),yy,ds,D2 D1,rfl,hS12.same s13,qT,n3,n6,sT,bT,hf,hly,hsh,gd.li,d2.1,d2.2,λH14 b1 s14 hb1=>?_⟩;refine⟨_,rfl,.bl b1,.bl b1,"bool",rfl,by decide,rfl,_,rfl,bB rfl ⟨_,rfl,.lst ds,_,rfl,sh s14,gd.okR,_,rfl,.str _,.str _,bh _,rfl,rfl,_,rfl,bB (by simp[eqD]) ?_⟩⟩;have s134:=s13.trans s14;refine⟨_,rfl,_,rfl,_,rfl,_,rfl,.ref ta,ly,f,T,n,(tt,zz),yy,ds,D2 D1,rfl,hS12.same s134,qT,n3,n6,bT,s14.tup hf,s14 _ _ hly,hsh.same s14,gd.li,d2.1,d2.2,λH15 b2 s15 hb2=>?_⟩;have eb:b1=b2:=AF.mpr (hb1.trans hb2.symm);subst eb;exact⟨.bl _,.bl _,bh _,rfl,rfl,_,rfl,bB (by rw[aGv];simp) ⟨hi2,⟨_,_,_,_,rfl⟩,s134.trans s15⟩⟩
 subst es;have hS13:=hS12.same s13;have hP13:=hP12.x s13;have sx13:SameX p G H13:=sxG.trans s13.x;obtain⟨ta',rs7,e7,hta7,hrl7,_⟩:=id hS13.tab;cases e7;have hrl7:rs7.length=n:=hrl7.trans qT.len;refine⟨_,rfl,_,rfl,ta,rs7,rfl,.inr hta7,_,rfl,ta,rs7,rfl,.inr hta7,?_⟩;rw[hrl7];refine⟨p,l,ns,n,0,rfl,by lia,by lia,hP13,λT2 n2 v2 H14 g1 g2 qT2 bT2 sT2 hS2 hP14 sx14=>?_⟩;have en:n2=n:=by lia
 subst en;obtain⟨k13,z13,hN13,_⟩:=id hP13;have hS14:=aBd hS13 hN13 sx14;have ht14:=sx14 _ _ tp (s13 _ _ ht12);have hw14:Fr K H14 w aw.1 aw.2:=fL (s13.tup hw12) hN13 sx14;have rW14:bQ K H14 ys1 (cG W1):=bA rW12 λb e h=>Pt.x hN13 sx14 (Pt.same s13 h);obtain⟨ly,yy,ds,ely,hly,hsh,gd⟩:=aMM (K:=K) (n:=n2) (D:=D2 D1) (G:=H14) (x:=.ref t1) (aLM (aBb (k:=15) ⟨t1,ys1,rfl,ht14,rW14⟩ (ba.pi n6) ba.len) (by decide));cases ely;refine⟨_,rfl,_,rfl,_,rfl,Ch,λU hU=>⟨U,rfl,.inr ⟨⟨_,.of aB⟩,?_⟩⟩⟩;have sU:=aD hU (.tup [V.ref ta,v2,.ref ta]);have hU15:SqT K (upd H14 U (.tup [V.ref ta,v2,.ref ta])) U [V.ref ta,v2,.ref ta]:=.of aB;have tabs:∀x∈[V.ref ta,v2,.ref ta],∃T',Sh K (upd H14 U (.tup [V.ref ta,v2,.ref ta])) (xI T') x/\Quad T' n2/\Bs T' n2/\Sy T' n2:=λx hx=>by
  rcases b8.mp hx with rfl|hx
  ·exact⟨T,hS14.same sU,qT,bT,sT⟩
  ·rcases b8.mp hx with rfl|hx
   ·exact⟨T2,hS2.same sU,qT2,bT2,sT2⟩
   ·rw[br.mp hx];exact⟨T,hS14.same sU,qT,bT,sT⟩
 have hly:=sU _ _ hly;have hsh:=hsh.same sU;have hw15:=sU.tup hw14;have hP15:=hP14.x sU;have sx15:SameX p G (upd H14 U (.tup [V.ref ta,v2,.ref ta])):=(sx13.trans sx14).trans sU.x;clear ht14 hw14 rW14 hS14 hS2 sU;generalize upd H14 U (.tup [V.ref ta,v2,.ref ta])=H15 at *;generalize [V.ref ta,v2,V.ref ta]=vt at *;refine yX (K:=K) (a:=U) (xs:=vt) (λi σ' H'=>i<=vt.length/\(∃x12 x13,σ'=[some (.ref a),some (.ref p),some (.ref ta),some (.ref t),some (.ref t1),some (.ref w),some (.ref B),some (.ref X),some v2,x9,x10,x11,x12,x13])/\Same H15 H') ⟨bh _,⟨_,_,rfl⟩,Same.refl _⟩ (λi σ2 H16 _ ⟨_,_,s⟩=>s.tup hU15) (λi x σ2 H16 hx ⟨_,⟨x12,x13,es⟩,s16⟩=>?_) λσ2 H16 ⟨_,⟨x12,x13,es⟩,s16⟩=>?_
 ·subst es;have hi2:=(ai.mp hx).1;obtain⟨T',hT',qT',bT',sT'⟩:=tabs x (au hx);refine⟨_,rfl,_,rfl,_,rfl,x,t1,w,T',n2,aw,yy,ds,D2 D1,rfl,hT'.same s16,qT',n3,n6,sT',bT',s16.tup hw15,s16 _ _ hly,hsh.same s16,gd.li,d2.1,d2.2,λH17 b1 s17 hb1=>?_⟩;have s67:=s16.trans s17;refine⟨_,rfl,.bl b1,.bl b1,"bool",rfl,by decide,rfl,_,rfl,bB rfl ⟨_,rfl,_,rfl,_,rfl,_,rfl,x,t1,w,T',n2,aw,yy,ds,D2 D1,rfl,hT'.same s67,qT',n3,n6,bT',s67.tup hw15,s67 _ _ hly,hsh.same s67,gd.li,d2.1,d2.2,λH18 b2 s18 hb2=>?_⟩⟩;have eb:b1=b2:=AF.mpr (hb1.trans hb2.symm);subst eb;exact⟨.bl _,.bl _,bh _,rfl,rfl,_,rfl,bB (by rw[aGv];simp) ⟨hi2,⟨_,_,rfl⟩,s67.trans s18⟩⟩
 ·subst es;exact⟨hi,⟨_,_,_,_,_,_,_,_,_,_,rfl⟩,hP15.x s16,sx15.trans s16.x⟩
def all_mk (X:K.In h)(G:h.Ns dt mg)(hfa:mg "law"=some (.ref fa))(h0:FnIn K "is_whole" "is_whole" (top 6))(h1:FnIn K "are_wholes" "are_wholes" (top 7))(h2:FnIn K "lowest" "lowest" (top 9))(h3:FnIn K "common_measure" "common_measure" (top 10))(h4:FnIn K "is_fraction" "is_fraction" (top 11))(h5:FnIn K "times" "times" (top 12))(h6:FnIn K "is_less" "is_less" (top 13))(h7:FnIn K "common_bottom" "common_bottom" (top 14))(h8:FnIn K "tops_over" "tops_over" (top 15))(h9:FnIn K "total" "total" (top 16))(h10:FnIn K "is_even" "is_even" (top 18))(h11:FnIn K "refuse_unfit" "refuse_unfit" (top 23))(h12:FnIn K "all_pairs" "all_pairs" (top 24))(h13:FnIn K "all_sets" "all_sets" (top 25))(h14:FnIn K "does_part" "does_part" (top 26))(h15:FnIn K "shares" "shares" (top 27))(h16:FnIn K "price_steps" "price_steps" (top 28))(h17:FnIn K "first_rows" "first_rows" (top 29))(h18:FnIn K "climb" "climb" (top 30))(h19:FnIn K "rising_column" "rising_column" (top 31))(h20:FnIn K "tightest_row" "tightest_row" (top 32))(h21:FnIn K "is_tighter" "is_tighter" (top 33))(h22:FnIn K "turn" "turn" (top 34))(h23:FnIn K "told_cuts" "told_cuts" (top 35))(h24:FnIn K "do_rise" "do_rise" (top 36))(h25:FnIn K "are_cuts" "are_cuts" (top 37))(h26:FnIn K "is_cut" "is_cut" (top 38))(h27:FnIn K "between" "between" (top 39))(h28:FnIn K "_law_cmixed" "_law_cmixed" (top 41))(h29:FnIn K "_law_copen" "_law_copen" (top 42))(h30:FnIn K "_law_cdraw" "_law_cdraw" (top 43))(h31:FnIn K "_law_cwhole" "_law_cwhole" (top 44))(h32:FnIn K "_law_cpairs" "_law_cpairs" (top 45))(h33:FnIn K "_law_cshort" "_law_cshort" (top 46))(h34:FnIn K "_law_ceven" "_law_ceven" (top 47))(h35:FnIn K "_law_clow" "_law_clow" (top 48))(h36:FnIn K "_law_cplus" "_law_cplus" (top 49))(h37:FnIn K "_law_cis_fraction" "_law_cis_fraction" (top 50))(h38:FnIn K "_law_corder" "_law_corder" (top 51))(h39:FnIn K "_law_csets" "_law_csets" (top 52))(h40:FnIn K "_law_cover" "_law_cover" (top 53))(h41:FnIn K "_law_cis_side" "_law_cis_side" (top 54))(h42:FnIn K "_law_care_cuts" "_law_care_cuts" (top 55))(h43:FnIn K "_law_cfraction_bends" "_law_cfraction_bends" (top 56))(h44:FnIn K "_law_cbeside" "_law_cbeside" (top 57))(h45:FnIn K "_law_cswapped" "_law_cswapped" (top 58))(h46:FnIn K "_law_c_drawn" "_law_c_drawn" (top 59))(h47:FnIn K "_law_c_put_in" "_law_c_put_in" (top 60))(h48:FnIn K "_law_c_bends" "_law_c_bends" (top 61))(h49:FnIn K "law" "law" (top 62))(Z:ZIn K)(g_LEAST_PLACES:ft K dt "LEAST_PLACES"=some (some (.int 3 tk_LEAST_PLACES)))(g_MOST_PLACES:ft K dt "MOST_PLACES"=some (some (.int 6 tk_MOST_PLACES)))(ac_NotEven:ft K dt "NotEven"=some (some (.ref C_NotEven)))(ac_TWO:ft K dt "TWO"=some (some (.ref C_TWO)))(ac_TooFew:ft K dt "TooFew"=some (some (.ref C_TooFew)))(ac_TooMany:ft K dt "TooMany"=some (some (.ref C_TooMany)))(XC_NotEven:kr K C_NotEven aJZ "ValueError.__new__"=true)(XC_TooFew:kr K C_TooFew aJZ "ValueError.__new__"=true)(XC_TooMany:kr K C_TooMany aJZ "ValueError.__new__"=true)(z_any:ft K dt "any"=some none)(lT2:K.lookup C_TWO=some ⟨.type "tuple",none,.seq #[.int 2 tS,.int 1 tT] nS,slS⟩):
  ∃fd:FuncData,(∀(s:wv) (v:wn),By s fd ⟨[v],[]⟩ [("script",v)])/\∀base:jp,K.In base->base.Ns dt mg->FnOk P w K mg base CX0 6 fa fd ["script"] (aIi K):=by
 have B:=Z.blt X G;have G_LEAST_PLACES:=mq X G g_LEAST_PLACES;have G_MOST_PLACES:=mq X G g_MOST_PLACES;have GC_NotEven:=mq X G ac_NotEven;have GC_TWO:=mq X G ac_TWO;have GC_TooFew:=mq X G ac_TooFew;have GC_TooMany:=mq X G ac_TooMany;have GA:=PySem.W.mg_none_of X G z_any;have hT2:∀H:Hp,Fr K H C_TWO 2 1:=λH=>.inr ⟨_,_,_,lT2,rfl,rfl,rfl,by show 2<=cm;decide,.cons ⟨_,rfl⟩ (.cons ⟨_,rfl⟩ .nil)⟩;refine' h49.law X G hfa (λb=>?_) (aMW);have aEM:=h0.dN P w b X G (aCM B) (K38.L.rd_whole);have eO:=h3.dN P w b X G (nQ B) (aPo);have aHs:=h6.dN P w b X G (aEl) (aPl);have aCW:=h8.dN P w b X G (aAU) (aPe);have aHt:=h10.dN P w b X G (aEe B) (aLe);have vO:=h12.dN P w b X G (aBw B) (aPf);have xO:=h13.dN P w b X G (aCb B) (aPP);have vP:=h14.dN P w b X G (aAZ) (aOq);have vQ:=h19.dN P w b X G (qQ B) (aPq);have aBD:=h21.dN P w b X G (yB) (aPY);have aOG:=h22.dN P w b X G (aLL B) (aQx);have aHu:=h24.dN P w b X G (aEv B) (aQd);have aAg:=h28.dN P w b X G (wC) (aMj);have aBE:=h29.dN P w b X G (zB B) (aLA);have mZ:=h31.dN P w b X G (wE B) (K38.L.rd_whole);have hJ:=h32.dN P w b X G (wF B) (aHJ);have aAh:=h33.dN P w b X G (wO B) (aFn);have fK:=h35.dN P w b X G (aBy B) (aLc);have jD:=h39.dN P w b X G (xZ B) (aMo);have pX:=h40.dN P w b X G (aAe) (aOq);have wP:=h44.dN P w b X G (uU B) (aPN);have vR:=h45.dN P w b X G (pZ) (aPw);have pY:=h1.dN P w b X G (xW B aEM) (K38.L.rd_wholes);have rY:=h2.dN P w b X G (aGI eO) (aNV);have vS:=h7.dN P w b X G (qG eO) (aPp);have jE:=h11.dX P w b X G (tG B G_LEAST_PLACES G_MOST_PLACES GC_NotEven GC_TooFew GC_TooMany XC_NotEven XC_TooFew XC_TooMany aHt) (aPy);have aAi:=h16.dN P w b X G (wG B xO) (aPW);have aBF:=h17.dN P w b X G (yG vP) (aQI);have wQ:=h20.dN P w b X G (vA B aBD) (aQw);have fP:=h30.dN P w b X G (aAd B aAg) (aLl);have fQ:=h36.dN P w b X G (zE fK) (aQE);have kY:=h37.dN P w b X G (jP B fK mZ) (aPx);have vT:=h41.dN P w b X G (qV B mZ) (aQe);have aAj:=h4.dN P w b X G (vX B eO pY) (aNR);have aLY:=h5.dN P w b X G (aIW rY) (aNr);have aHv:=h9.dN P w b X G (aHV B rY vS aCW) (aME);have aLZ:=h18.dN P w b X G (aIm vQ wQ aOG) (aQk);have aCX:=h23.dN P w b X G (aAO B rY) (aPn);have aBG:=h34.dN P w b X G (zA B fP hJ aAh) (aIu);have nC:=h38.dN P w b X G (wK B fP) (aMG);have qY:=h42.dN P w b X G (nZ B hJ kY vT pX fQ) (aQB);have iK:=h43.dN P w b X G (gV B fK fQ) (aQa);have wR:=h46.dN P w b X G (sZ B fP hJ fK pX fQ jD) (aQG);have aHw:=h15.dX P w b X G (aFm B rY vO aLZ aBF aAi aCX jE) (aNO);have aJo:=h26.dN P w b X G (aET B pY xO aAj) (aND);have aHx:=h27.dN P w b X G (aEF vP aHv) (aQo);have vU:=h47.dN P w b X G (qR B jD wP nC) (aPr);have aCY:=h25.dX P w b X G (aCE B vO jE GC_TWO GA aHx aHu aJo aHs aLY aHv) (aMu hT2);have wS:=h48.dN P w b X G (uQ B fP fK jD nC vU iK vR) (aPF);exact aOw B fQ wS wR qY aBG aBE aCY aHw
def walk {l: PySem.W.OpenLaw}{q: zn}{loose: List u8}{XP: (u8->Option wn)->jp->Prop}{YP: xj->jp->Prop}{d: DefRec}{K: Params->aa}(hn:l.most=some 63)(hdf:d.params.defaults=[])(hY:∀(w:xj) (h:jp),YP w h->(K w.params).In h)(F:∀(w:xj) (mg:u8->Option wn) (fa:ww) (h:jp),(K w.params).In h->h.Ns dt mg->mg d.name=some (.ref fa) ->
   ∃fd:FuncData,(∀(s:wv) (u:wn),By s fd ⟨[u],[]⟩ [("script",u)])/\∀base:jp,(K w.params).In base->base.Ns dt mg->FnOk l.prog w (K w.params) mg base CX0 6 fa fd ["script"] (aIi (K w.params))):
  PySem.W.WalkO q loose XP YP l.row.toRowW d [] (λf vs=>PySem.call f vs):=
 L2.aKN (n:=63) (k:=6) (x:="script") (CX:=λ_=>CX0) (sp:=λw=>aIi (K w.params)) hn (by decide) hdf ⟨rfl,by decide,by decide,rfl⟩ hY F (λ_ _ a ns hl _ hS=>⟨a,ns,rfl,hS,hl,λ_=>rfl⟩) λ_ _ _ _ _ z=>z
end K38
open PySem PySem.W PyProof.Rows
namespace PySem.W.Fast
def tw12369910320612520495:=0
def tw12981399883921397177:=0
def tw18052726663329672221:=0
def tw7381260893794477172:=0
def tw10731070143388407120:=0
def tw5292661689649054237:=0
def tw1527494912858532275:=0
def tw1807925123133365159:=0
def tw15852588523704183820:=0
def tw15358498599590543394:=0
def tw11198702557908510089:=0
def tw14386770537043882617:=0
def tw13157079658452354739:=0
def tw7944410861666280717:=0
def tw6339349742008131085:=0
def tw1898714772646142882:=0
def tw7825626221596050108:=0
def tw10167640840822294380:=0
def tw10182521190806438320:=0
def tw8007263362263549337:=0
def tw6091375353592922020:=0
def tw11980659970317749220:=0
def tw3225933818851594984:=0
def tw18082263730415820017:=0
def tw3868742383091795346:=0
def tw16152465468215154345:=0
def tw1316868375497747484:=0
def tw7391149355416751193:=0
def tw16536894175931011477:=0
def tw15790940360006691181:=0
def tw6607422267452575073:=0
def tw14570254163435255257:=0
def tw13191208574632489930:=0
def tw15081119687978256235:=0
def tw18026212650588292111:=0
def tw6715851186765760915:=0
def tw13709653686234864712:=0
def tw12669771859770101301:=0
def tw14792808857340579594:=0
def tw3428789534319769267:=0
def tw5287776021958303342:=0
def tw2802747201516501761:=0
def tw8148228113907629571:=0
def tw10932954994593634575:=0
def tw5752195976584895750:=0
def tw17690994945056164932:=0
def tw1790784665596882764:=0
def tw11911673125646032144:=0
def tw5440252054938522878:=0
def tw12148899402661933197:=0
def tw12452206032361770030:=0
def tw1600244926780453132:=0
def tw16668544504414666010:=0
def tw15552624827717377418:=0
def tw17048774702997030307:=0
def tw13496132682040141533:=0
def tw14441958260581772179:=0
def tw1344129706507620582:=0
def tw14254212384320950647:=0
def tw14529115317978418313:=0
def tw10859577803273640149:=0
def tw2706852724690734981:=0
def tw5790854182417264144:=0
def tw9437688025103588864:=0
def tw3018873656896996932:=0
def tw12884398704928641382:=0
def tw10884415692918525585:=0
def tw11067689685840083626:=0
def tw4081510345278032240:=0
def tw12844831355944915397:=0
def tw12314963688286287476:=0
def tw1817626677550681331:=0
def tw7470890873295147024:=0
def tw13744337283536603853:=0
def tw6443433476298885850:=0
def tw14012142086356505322:=0
def tw3548809505993392801:=0
def tw10157329030210357343:=0
def tw15884111048376596101:=0
def tw9630308980973287274:=0
def tw4184543617671455850:=0
def tw3049694898325805843:=0
def tw4303886834004791762:=0
def tw3291780126018302273:=0
def tw7758036001596649519:=0
def tw6996363665629176981:=0
def tw17475813681587837454:=0
def tw7165812872190227648:=0
def tw13490866017381797711:=0
def tw13325468027386465113:=0
def tw15430821414013546696:=0
def tw18093098283948794769:=0
def tw11006348202961643782:=0
def tw10711019536259604855:=0
def tw14315775912930921835:=0
def tw14652931560819126822:=0
def tw4512690273693330602:=0
def tw17344675431291634110:=0
def tw3939763755468721976:=0
def tw13261344467119158754:=0
def tw1358101562945581900:=0
def tw17771320737117830750:=0
def tw3934280386981031692:=0
def tw7374584516048670674:=0
def tw5686392642122660843:=0
def tw5874044437876512905:=0
def tw2206856365175186074:=0
def tw13560918699530809193:=0
def tw16992076532646860989:=0
def tw9008622275385255552:=0
def tw10317286585299093041:=0
def tw5583431805700064552:=0
def tw5213511655257589874:=0
def tw6897901364542310647:=0
def tw16901017428641898822:=0
def tw2527735642573795685:=0
def tw18333818352434462212:=0
def tw5110407750781443311:=0
def tw6225896908527159490:=0
def tw15509228079782210555:=0
def tw6940690719404781979:=0
def tw6456332490505579483:=0
def tw6305017720380015316:=0
def tw6144755163700067370:=0
def tw11313406009075561525:=0
def tw4607849525476997865:=0
def tw13356356184364134264:=0
def tw660336212952724470:=0
def tw5646293371309063365:=0
def tw860225226308224205:=0
def tw10598268535493294976:=0
def tw9313427470504954334:=0
def tw12551373813214726689:=0
def tw18409777898028354533:=0
def tw9443794361391723911:=0
def tw18167203592411878439:=0
def tw2497912555513962825:=0
def tw17052627916197022348:=0
def tw16972511256484984079:=0
def tw6910908456770282000:=0
def tw14929558297828293946:=0
def tw17179377401410163704:=0
def tw14287986340980014570:=0
def tw1814517698044840296:=0
def tw16607830484276884325:=0
def tw11413695526170409869:=0
def tw16147227370588341079:=0
def tw4439632650875858166:=0
def tw709092941954499028:=0
def tw1951326789519926401:=0
def tw12992186134304602215:=0
def tw12043936022558119851:=0
def tw4266985441945421299:=0
def tw14890604891623267500:=0
def tw8642672489453029072:=0
def tw9242816493420039056:=0
def tw18022111122513319099:=0
def tw10768131187750984390:=0
def tw8102128612532386757:=0
def tw1927239839536024790:=0
def tw8738997481573706396:=0
def tw2608366515598071351:=0
def tw17463654563007687765:=0
def tw3878994800779718012:=0
def tw640612533433258357:=0
def tw16187381811959066705:=0
def tw7434380407401206143:=0
def tw4387364444396124853:=0
def tw17437876652823016412:=0
def tw1530710197986629462:=0
def tw7953123826769154191:=0
def tw2790995253611431300:=0
def tw14282073884293990143:=0
def tw5144808705535108047:=0
def tw721741671664726462:=0
def tw15218905994946731258:=0
end PySem.W.Fast
set_option maxRecDepth 100000 in
set_option maxHeartbeats 0 in
theorem PySem.Challenge.cw_homeround_k38_cut_prices_looked_at_holds : PySem.Challenge.rw_homeround_k38_cut_prices_looked_at.Holds := by
  w_on; o_law; k_head; (case hw => w_witness2)
  k_fill
  refine K38.walk (l := PySem.Challenge.rw_homeround_k38_cut_prices_looked_at) rfl rfl (λw h Y => PySem.W.kIn_of Y) ?F
  case F =>
    intro w mg fa h KX G hmg
    refine' K38.all_mk KX G hmg ?h0 ?h1 ?h2 ?h3 ?h4 ?h5 ?h6 ?h7 ?h8 ?h9 ?h10 ?h11 ?h12 ?h13 ?h14 ?h15 ?h16 ?h17 ?h18 ?h19 ?h20 ?h21 ?h22 ?h23 ?h24 ?h25 ?h26 ?h27 ?h28 ?h29 ?h30 ?h31 ?h32 ?h33 ?h34 ?h35 ?h36 ?h37 ?h38 ?h39 ?h40 ?h41 ?h42 ?h43 ?h44 ?h45 ?h46 ?h47 ?h48 ?h49 ?Z ?g_LEAST_PLACES ?g_MOST_PLACES ?ac_NotEven ?ac_TWO ?ac_TooFew ?ac_TooMany ?XC_NotEven ?XC_TooFew ?XC_TooMany ?z_any ?lT2
    case h0 | h1 | h2 | h3 | h4 | h5 | h6 | h7 | h8 | h9 | h10 | h11 | h12 | h13 | h14 | h15 | h16 | h17 | h18 | h19 | h20 | h21 | h22 | h23 | h24 | h25 | h26 | h27 | h28 | h29 | h30 | h31 | h32 | h33 | h34 | h35 | h36 | h37 | h38 | h39 | h40 | h41 | h42 | h43 | h44 | h45 | h46 | h47 | h48 | h49 => refine' L2.FnIn.mk ?a ?l ?c ?k; (case a => k_is); (case l => k_is); (case c => k_is); (case k => k_is)
    case Z => constructor <;> k_is
    case g_LEAST_PLACES | g_MOST_PLACES | ac_NotEven | ac_TWO | ac_TooFew | ac_TooMany | z_any => k_is
    case XC_NotEven | XC_TooFew | XC_TooMany | lT2 => first | k_is | kernel_rfl
