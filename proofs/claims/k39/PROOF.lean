import PyProof.Rows.All
import Wide.All
import OpenK.AllK
import Wide.FinOn
import Lean
import PyProof.EqAt
import PyProof.EqKinds
import PyProof.TupleCall
import PyProof.Rows.SetFrom
import PyProof.ExcAttrAll.ValueError
import KE.KDictList
import KE.KRevIter
import KE.KPairComp
import PyProof.EqAt
import KE.KSortTup
import PyProof.DictValues
import PyProof.DictWalks
import KE.KDictList
import KE.KItemsList
import KE.KIsAll
import KE.KIntText
import KE.KRevSl
import PyProof.StrCalls2
import PyProof.CallStr
import PyProof.StrLawsTight
import PyProof.StrLawsChain
import KE.KLam
import KE.KMinKey
import KE.KNestM
import PyProof.ExcInit
import PySem.Challenge.RW_homeround_k39_best_prices
set_option Elab.async false
set_option linter.all false
set_option maxRecDepth 100000
set_option maxHeartbeats 4000000
noncomputable section
open PySem.W renaming Frag->aa,nsIn->fq,excIn->kq,fnOf->ku,kas_sort->lx,mg_of->ng,keepIn->qi,kas_place->qm,cellsFrom_some->sf,kas_rev->ug,Frag->vy,kas_desc->wo,kas_descPart->wq,codeIn->w4,methodObj->xh,kas_asc->yg,hideAll_get->Av,kas_count->AZ,kas_tail3->BC,kas_bin->BD
open List renaming length_map->ae,getElem?_eq_getElem->ah,getElem?_eq_some_iff->ai,getD_eq_getElem?_getD->aj,range->ao,mem_of_getElem?->ar,length_append->au,size_toArray->av,getElem?_map->aw,mem_cons_of_mem->ay,mem_range->az,map_append->bj,mem_cons->bq,length_range->br,mem_map->b6,map_cons->cf,mem_singleton->cq,mem_cons_self->cv,getElem?_append_right->cw,getElem?_append_left->c6,length_set->c8,length_take->c9,length_cons->da,mem_append_right->df,mem_append->di,map_map->dw,replicate->dy,sum_cons->dz,take_add_one->e8,all_eq_true->e9,take_length->fc,mem_append_left->fe,mem_filter->fg,getElem?_set_ne->fk,getElem_mem->fv,mem_iff_getElem?->f6,length_filter_le->f9,nodup_cons->gg,length_drop->gp,append_assoc->gq,map_congr_left->gw,filter_cons_of_pos->il,filter_cons_of_neg->ip,append_nil->iq,lookup_cons->iw,take_append_of_le_length->iz,toArray->jg,nodup_range->ji,getElem?_drop->jl,take_of_length_le->jo,drop_append_of_le_length->ju,getElem?_range->jx,getElem?_toArray->jy,not_mem_nil->j7,perm_ext_iff_of_nodup->j8,getElem?_set_self->j9,flatMap_cons->ka,getElem?_take_of_lt->ke,filter_append->kl,nodup_iff_pairwise_ne->k8,getElem_map->lg,length_replicate->lq,rel_of_pairwise_cons->l9,length_erase_of_mem->mr,pairwise_map->mw,getElem?_replicate->mx,replicate_succ->my,length_eq_zero_iff->mz,getElem_of_mem->nc,ext_getElem->nq,eq_nil_of_length_eq_zero->nr,mem_flatMap->nt,getElem_range->n5,map_nil->og,length_singleton->oh,find?_cons->oo,range_succ->ot,take_append_drop->pe,sum_append->qb,mem_of_mem_drop->qh,forIn_nil->qk,pairwise_iff_getElem->qo,getElem_inj->qq,any_eq_true->qr,filter_sublist->qw,filter_eq_self->qx,mem_filterMap->rj,length_nil->rn,forIn_cons->rq,range_succ_eq_map->so,pairwise_lt_range->sr,flatten_cons->tf,nodup_append->tw,nodup_nil->tx,getElem?_eq_none->uc,countP_cons->uh,filter_cons->uj,perm_cons_erase->uo,mem_of_mem_take->uu,all_cons->uv,any_cons->uw,map_take->uz,filterMap_cons->u6,nil_append->vd,length_pos_iff->vg,mem_map_of_mem->vp,idxOf_lt_length_of_mem->vv,length_eraseIdx_of_lt->v9,exists_cons_of_ne_nil->wa,pairwise_cons->wj,zip_cons_cons->wm,countP_append->wt,ext_getElem?->xt,getElem?_set->xu,map_drop->yd,length_pos_of_mem->yv,drop_of_length_le->yw,of_mem_zip->yz,countP_mono_left->zy,map_id'->Ag,mem_erase_of_ne->An,pairwise_append->Ao,countP_pos_iff->AI,countP_eq_zero->AJ,all_map->Bn,sum_nil->Bv,length->Bw
open PySem renaming wpAny_bind->af,wpAny_pure->aq,sizeLine->bx,mainGlobals->dr,starEach->ft,bootBuiltins->fz,wpAny_call_entry->gf,wpAny_callSpecial?_slot->gh,wpAny_holding->gj,wpAny_newObj_type->gn,mem_of_lookup->gv,wpAny_truthy_bool->ia,wpAny_field->ib,wpAny_setField_rec->ie,Spec->ig,wpAny_mono->i9,compareOp->jd,wpAny_seqItems->jh,codeAny_builtin->jq,wpAny_setState_of->jz,IsTupleKey->j6,cellsFrom->km,foldedSetIterable->kx,codeAny_mono->lh,sizeLine_eq->ly,rawInt->me,binaryOp->mf,intKind->mh,wpAny_passesOwn->mn,wpAny_askSetting->nk,argBest->oq,sysModules->qc,wpAny_newList->qd,plainId_quiet->qe,wpAny_letGo->qt,wpAny_standAt->rh,wpAny_attempt->sa,assignEach->su,sliceBounds->sv,wpAny_pyIter_list->tm,ofAClassStatement->tu,wpAny_setField->t6,wpAny_typeOf->t8,wpAny_isInstance->ue,wpAny_forIn_list->uf,wpAny_updateSeq_pair->um,wpAny_rule->u5,pyNext->u9,letOwnedTupleGo->vb,wpAny_of_eq->vf,wpAny_setEntries_of->vt,backTo->wc,wpAny_Call_Name_kw->wg,wpAny_pyIter_tuple->wk,codeAny->wz,firstArgMember->w8,wpAny_newTuple->w9,wpAny_tryCatch->xb,wpAny_comprehension_free->xj,IsPair->xn,wpAny_pyNext_tuple_item->ya,behindInMarks->yb,getItem->yc,wpAny_onRaise->ye,noFill_tuple_add->yn,wpAny_pyNext_tuple_end->yq,wpAny_pyIter_tupleiter->yr,holding->yx,wpAny_execs_nil->yy,wpAny_specialOf->ze,codeAny_of_tree->zg,pushCells_keeps->zh,wpAny_updateSeq->zx,builtinLookup_eq_fast->Ab,wpAny_eqIsQuiet_tuple->Ad,newFunctionEnv->Aq,wpAny_runValue->Ar,isSubtype_stop->As,isSubtype_type->Au,standAt->Aw,subscripted->Ay,richCompare->AD,hashByValue->AH,tupleKind->AL,swapsWith->AM,assignInOrder->AN,bindArgs->AO,seq_tuple_add->AQ,seqItems?->AX,builtinsNs->A9,BindsTo->Ba,call_meets->Bc,callerA->Bd,valueAt->Be,relabel->Bf,checkCount->Bg,assign->Bi,pyIter->Bj,concat_meets->Bk,seqIndex_neg->Bm,seqIndex_of->Bx,pushCells->By,IsEnum->BB,Result->BH
open PySem.Heap renaming get?_push_of_some->ak,get?_push_size->bp,lt_size->bu,size_push->gm,SameBut->jb,get?_update_self->je,get?_update_other->ky,get?_update_ne->qu,size_update->yo,get?_push_cases->Aj,ExtBut->AB
open Nat renaming le_refl->bc,zero_le->bg,lt_of_le_of_lt->bh,lt_of_lt_of_le->cg,le_trans->de,ne_of_lt->dt,pow_le_pow_right->ff,lt_succ_of_lt->i5,le_of_lt->i7,le_add_right->jt,lt_irrefl->kn,ne_of_gt->kr,lt_succ_self->k9,not_lt_zero->ou,min_eq_left->ph,le_succ->tj,lt_trichotomy->tq,sub_self->t9,mul_le_mul_right->ur,mul_lt_mul_of_pos_right->vz,gcd_comm->wu,le_of_succ_le->xi,lt_succ_iff_lt_or_eq->xr,add_comm->zd,add_mul->Az,lt_or_ge->Bq,le_total->Br,one_mul->Bz,pow_add->BF
open Option.some renaming inj->bo
open Int renaming mul_comm->b8,mul_assoc->cm,toNat_natCast->dh,mul_left_comm->dm,mul_add->fh,mul_zero->fj,mul_le_mul_of_nonneg_right->gk,le_refl->ij,mul_nonneg->i6,mul_one->jc,le_of_lt->jf,mul_le_mul_of_nonneg_left->jv,neg_mul->jw,mul_ediv_cancel_left->j3,mul_sub->j5,zero_add->kd,one_mul->nj,add_mul->pw,mul_pos->qa,le_of_mul_le_mul_left->qp,zero_mul->rg,add_zero->ub,mul_ediv_cancel'->uq,natCast_add->vw,le_antisymm->vx,natAbs_mul->xc,eq_of_mul_eq_mul_left->xf,dvd_mul_right->xw,le_of_dvd->ym,emod_nonneg->zv,natAbs_dvd_natAbs->Af,mul_neg->AK,dvd_trans->A8,ediv_one->Bl,add_comm->Bt,le_trans->Bu,one_dvd->BG
open Classical renaming byContradiction->b9
open Bool renaming false_ne_true->cy,and_eq_true->dn,false_eq_true->gc,not_eq_true->gx,or_eq_true->o9,and_eq_true_iff->uk,false_and->wx,not_true->yj,false_or->AS,and_true->AU,true_and->A6
open PySem.SetTable renaming below->c7,leap->gu,runEnd->js,bits->nh,turns->nu,sizeAbove->n9,probe->t7,toList_insertAt->xq,has->Ac
open Array renaming getD_eq_getD_getElem?->dk,getElem?_eq_getElem->fi,length_toList->fm,getElem?_eq_none->jn,perm_iff_toList_perm->k7,getElem?_toList->ua,toList_inj->ui,replicate->vq,getElem_mem->xo,getElem_toList->Am
open PySem.Builtin.SmallTypes renaming nextOf->fw,ownedTupleIsFree->gi,ownedTupleHandOut->jr
open Ne renaming symm->gy
open PyProof.Rows renaming slot_tuple_getitem->ic,seqObj->jj,callWith_type1->j4,listUpdate_at->u3,entry_list_sort->vh,assignInOrder_cons->wd,slot_list_sort->w5,args_list_sort->w6,AllBare->xy,subscriptTail_builtinR->yt,envOfC->y9,listItems_at->zj,get?_update_seq->zk,plain_sorted->zm,entry_sorted->zo,args_sorted1->zp,entry_tuple_getitem->Ax,kind_sorted->AA,mirror_size->AE,tuples'->AF,seqEpoch_at->AG,subscriptTail->AR,sortedAll->AV,sortedAll_old->AW,failedOf->A5,sortedHeap->Bh,sortedAll_at->Bo
open PySem.Obj renaming mapSeq->i4,data_mapFields->n4,isFreed_of_fields->o6,cls_mapFields->xm,mapFields->yi
open Option renaming isSome_iff_exists->ja,map_eq_some_iff->jm,map_some->ve
open PySem.Around renaming under_plainId->jk
open PySem.Heap.SameBut renaming update->kc
open PySem.AutoSeq1 renaming wpAny_loadPart'->kg
open PySem.F renaming slot_tuple_iterator_next->k4,plain_min_loop->la,plainAttrs_list->ni,slot_enumerate_next->o8,called_set->pf,args_tuple_add_2->qy,slot_list_append->q9,type_list_append->rf,entry_tuple_add->rk,slot_tuple_add->sk,args_tuple_iterator_next_1->u4,entry_tuple_iterator_next->vk,slot_zip_next->vm,args_enumerate_next_1->yf,entry_min_loop->yp,entry_enumerate_next->yu,excBase_ValueError->Ak
open PySem.Str renaming ofString->lr
open PySem.Builtin.Slice renaming slicePlaces->l7,sliceAdjust->qj,sliceApplied->v7
open PySem.Calls renaming call_function_entry->l8,Name_function_global->v5,evalArgs_plain->Ai
open False renaming elim->mj
open PySem.Builtin.Tuple renaming tupleExact->mq,tupleItemsOf->v8
open PySem.SetTable.layClean renaming free->nv
open PySem.Builtin.List renaming listExtendWith->oz,listTooLong->qz,listLengthHint->vo,listUpdate->yh
open PySem.PassesOwn renaming never->pg
open PySem.SetTable.below renaming go->qf
open PySem.PyData renaming hasDict->ql,hasDictAll->xk,depthAll->zq
open PySem.Builtin.Int renaming intBits->qv
open Array.Perm renaming refl->sd
open PyProof.Rows.F renaming plain_set_update_loop->se,entry_set_update_loop->yk
open PySem.Builtin renaming sorted->ud
open LawfulBEq renaming eq_of_beq->vc
open PySem.Builtin.Builtins renaming bindParams->vn
open PySem.Value renaming isInt_shape->xg
open PySem.SetTable.probe renaming go->xp
open PySem.Paired renaming length->xx
open List.Perm renaming append_left->zu
open List.cons renaming injEq->Ae,inj->A7
open List.Pairwise renaming of_cons->Ah
open ToString renaming toString->AY
open PySem.pickOrder renaming go->Bp
open PySem.Shared renaming heap->BA
namespace L2
open PySem PySem.Spec PyProof.Rows
abbrev Key:= Sum Int Str
def aCu:Key->Value->Bool
 | .inl k,v=>Value.isInt k v
 | .inr x,v=>Value.isStrOf x v
def aPh (w:World):Key->Int
 | .inl k=>hashInt k
 | .inr x=>hashStr w x
theorem bL:∀{k:Key}{v:Value},aCu k v=true->(∃i t,k=Sum.inl i/\v=Value.int i t)\/(∃x t,k=Sum.inr x/\v=Value.str x t)
 | .inl i,v,h=>by
  obtain⟨t,e⟩:=xg (k:=i) (v:=v) h
  exact .inl ⟨i,t,rfl,e⟩
 | .inr x,v,h=>by
  obtain⟨t,e⟩:=Value.isStrOf_shape (x:=x) (v:=v) h
  exact .inr ⟨x,t,rfl,e⟩
theorem aDl (i:Int)(t:Tok):aCu (.inl i) (.int i t)=true:=by simp[aCu,Value.isInt]
theorem aDe (x:Str)(t:Tok):aCu (.inr x) (.str x t)=true:=by simp[aCu,Value.isStrOf]
theorem aLV (a b:Int):decide ((Sum.inl a:Key)=Sum.inl b)=(a == b):=by
 by_cases e:a=b
 ·subst e;simp
 ·have h:¬ (Sum.inl a:Key)=Sum.inl b:=λq=>e (Sum.inl.inj q)
  rw[decide_eq_false h]
  exact(beq_eq_false_iff_ne.mpr e).symm
theorem aMv (a b:Str):decide ((Sum.inr a:Key)=Sum.inr b)=decide (a=b):=by
 by_cases e:a=b
 ·subst e;simp
 ·have h:¬ (Sum.inr a:Key)=Sum.inr b:=λq=>e (Sum.inr.inj q)
  rw[decide_eq_false h,decide_eq_false e]
theorem aLn (a:Int)(b:Str):decide ((Sum.inl a:Key)=Sum.inr b)=false:=decide_eq_false (λq=>nomatch q)
theorem aMf (a:Str)(b:Int):decide ((Sum.inr a:Key)=Sum.inl b)=false:=decide_eq_false (λq=>nomatch q)
def cG (prog:Program)(w:World):PySem.KeyKind prog w Key where
 is:=aCu
 hash:=aPh w
 inj:=λv a b ha hb=>by
  rcases bL ha with⟨i,t,rfl,rfl⟩ | ⟨x,t,rfl,rfl⟩
  ·rcases bL hb with⟨j,u,rfl,e⟩ | ⟨y,u,rfl,e⟩
   ·injection e with e1 _;rw[e1]
   ·exact nomatch e
  ·rcases bL hb with⟨j,u,rfl,e⟩ | ⟨y,u,rfl,e⟩
   ·exact nomatch e
   ·injection e with e1 _;rw[e1]
 byValue:=λk v h=>by
  rcases bL h with⟨i,t,rfl,rfl⟩ | ⟨x,t,rfl,rfl⟩ <;> rfl
 pyHash:=λhv h=>by
  rcases bL hv with⟨i,t,rfl,rfl⟩ | ⟨x,t,rfl,rfl⟩
  ·exact wpAny_pyHash_int h
  ·exact wpAny_pyHash_str h
 eqBool:=λhu hv h=>by
  rcases bL hu with⟨i,t,rfl,rfl⟩ | ⟨x,t,rfl,rfl⟩
  ·rcases bL hv with⟨j,u,rfl,rfl⟩ | ⟨y,u,rfl,rfl⟩
   ·rw[aLV] at h;exact wpAny_eqBool_int h
   ·rw[aLn] at h;exact SeqAt.EqAt.int_str i t y u _ _ _ _ h
  ·rcases bL hv with⟨j,u,rfl,rfl⟩ | ⟨y,u,rfl,rfl⟩
   ·rw[aMf] at h;exact SeqAt.EqAt.str_int x t j u _ _ _ _ h
   ·rw[aMv] at h;exact wpAny_eqBool_str h
 «strs»:=λk x t v h=>by
  rcases bL h with⟨i,u,rfl,e⟩ | ⟨y,u,rfl,e⟩
  ·exact nomatch e
  ·injection e with e1 _
   subst e1
   cases v <;> rfl
theorem aAo (prog:Program)(w:World)(i:Int)(t:Tok): (cG prog w).is (.inl i) (.int i t)=true:=aDl i t
theorem aAM (prog:Program)(w:World)(x:Str)(t:Tok): (cG prog w).is (.inr x) (.str x t)=true:=aDe x t
inductive V where
 |non | bl (b:Bool) | int (i:Int) | str (x:Str) | byt (b:Array UInt8) | flt (b:UInt64) | ref (a:Addr) | ty (n:String)
 deriving DecidableEq
def RelV:V->Value->Prop
 | .non,u=>u=Value.none
 | .bl b,u=>u=Value.bool b
 | .int i,u=>∃t,u=Value.int i t
 | .str x,u=>∃t,u=Value.str x t
 | .byt b,u=>∃t,u=Value.bytes b t
 | .flt b,u=>∃t,u=Value.float b t
 | .ref a,u=>u=Value.ref a
 | .ty n,u=>u=Value.type n
abbrev Vals:List V->List Value->Prop:=Paired RelV
theorem Vals.length (r:Vals xs us):xs.length=us.length:=xx r
theorem Vals.get:∀{xs:List V}{us:List Value}{i:Nat}{x:V},Vals xs us->xs[i]?=some x->∃u,us[i]?=some u/\RelV x u
 |_,_,_,_, .nil,e=>by simp at e
 |_,_,0,_, .cons r _,e=>by simp at e;subst e;exact⟨_,rfl,r⟩
 |_,_,i+1,x, .cons _ t,e=>by
  obtain⟨u,h1,h2⟩:=Vals.get (i:=i) (x:=x) t (by simpa using e)
  exact⟨u,by simpa using h1,h2⟩
theorem Vals.set (r:RelV x u):∀{xs:List V}{us:List Value} (i:Nat),Vals xs us->Vals (xs.set i x) (us.set i u)
 |_,_,_, .nil => .nil
 |_,_,0, .cons _ t => .cons r t
 |_,_,i+1, .cons q t => .cons q (Vals.set r i t)
theorem Vals.append:∀{xs ys:List V}{us ws:List Value},Vals xs us->Vals ys ws->Vals (xs++ys) (us++ws)
 |_,_,_,_, .nil,s=>s
 |_,_,_,_, .cons r t,s => .cons r (Vals.append t s)
theorem Vals.take:∀{xs:List V}{us:List Value} (n:Nat),Vals xs us->Vals (xs.take n) (us.take n)
 |_,_,0,_ => .nil
 |_,_,_+1, .nil => .nil
 |_,_,n+1, .cons r t => .cons r (Vals.take n t)
theorem Vals.drop:∀{xs:List V}{us:List Value} (n:Nat),Vals xs us->Vals (xs.drop n) (us.drop n)
 |_,_,0,r=>r
 |_,_,_+1, .nil => .nil
 |_,_,n+1, .cons _ t=>Vals.drop n t
def RelO:Option V->Option Value->Prop
 |some v,some u=>RelV v u
 |none,none=>True
 |_,_=>False
def KV:List (κ×V)->List (κ×Value)->Prop:=Paired λ(p:κ×V) (q:κ×Value)=>p.1=q.1/\RelV p.2 q.2
def kV:Key->V
 | .inl i => .int i
 | .inr x => .str x
inductive HO where
 |lst (xs:List V)
 |tup (xs:List V)
 |dK (kvs:List (Key×V)) | dT (kvs:List (List Key×V))
 |set (S:Int->Bool) (n:Nat)
 |ins (C dx:Addr) (fs:List (Str×V))
 |own (x:Addr)
 |xd (fs:List (Str×V))
 |met (f x:Addr)
 |rng (lo hi:Int)
 |frz (o:Obj) (u:HO)
 |tbl (ps:Array Value)
 |ext (φ:Heap->Prop)
abbrev Hp:= Addr->Option HO
def upd (H:Hp)(a:Addr)(o:HO):Hp:=λb=>if b=a then some o else H b
theorem aA:upd H a o a=some o:=by unfold upd;rw[if_pos rfl]
theorem aK (h:b≠a):upd H a o b=H b:=by unfold upd;rw[if_neg h]
theorem ne_of {H: Hp}{a b: Addr}{o u: HO}(h:H a=some o)(h':H b=some u)(d:o≠u):a≠b:=by
 intro e;subst e;rw[h] at h';exact d (bo h')
theorem aJ {H: Hp}{a b: Addr}{o: HO}(h:H a=some o)(h':H b=none):a≠b:=by
 intro e;subst e;rw[h] at h';cases h'
def TupN (h:Heap)(a:Addr)(items:Array Value):Prop:=∃o,h.get? a=some o/\o.cls = .type "tuple"/\(∃n,o.data = .seq items n)/\o.dict=none
theorem TupN.tup (p:TupN h a items):IsTup h a items:=let⟨o,e,c,n,_⟩:=p;⟨o,e,c,n⟩
theorem TupN.new (h:Heap)(items:Array Value):TupN (h.push { cls := .type "tuple",data := .seq items }) h.objs.size items:=⟨_,bp _ rfl,rfl,⟨_,rfl⟩,rfl⟩
section
variable (P:Program)(w:World)
def ObjOk (H:Hp)(h:Heap)(a:Addr):HO->Prop
 | .lst xs=>xs.length<=bx/\∃(its:List Value) (n:Nat),Vals xs its/\h.get? a=some { cls := .type "list",data := .seq its.toArray n }
 | .tup xs=>xs.length<=bx/\∃its:List Value,Vals xs its/\TupN h a its.toArray
 | .dK kvs=>kvs.length<=bx/\(a == qc)=false/\∃vs,KV kvs vs/\h.DictOf (cG P w) a vs
 | .dT kvs=>kvs.length<=bx/\(a == qc)=false/\∃xs:List (List Key×Addr×Value),
   Paired (λ(p:List Key×V) (q:List Key×Addr×Value)=>p.1=q.1/\H q.2.1=some (.tup (p.1.map kV))/\RelV p.2 q.2.2) kvs xs /\
   ∃o es ep,h.get? a=some o/\o.ExactDict/\o.data = .dict es ep/\es.toList=xs.map (entryOfKey (AL (cG P w)))/\(xs.map (·.1)).Nodup
 | .set S n=>h.SetOf (mh P w) a S n
 | .ins C dx fs=>H dx=some (.own a)/\fs.length<=1000/\dx≠a/\h.get? a=some (PySem.W.instObj C dx) /\
   ∃mA,h.Ns1 dx mA/\(∀f,RelO (fs.lookup f) (mA f))/\PySem.Within mA (fs.map (·.1))
 | .own _=>∃o,h.get? a=some o
 | .xd fs=>∃mA,h.Ns1 a mA/\∀f,RelO (fs.lookup f) (mA f)
 | .rng lo hi=>∃t u v,h.get? a=some { cls := .type "range",data := .fields #[.int lo t, .int hi u, .int 1 v] }
 | .frz o u=>h.get? a=some o/\ObjOk H h a u
 | .tbl ps=>h.get? a=some { cls := .none,data := .fields ps }
 | .met f x=>h.get? a=some (xh (.ref f) (.ref x))
 | .ext φ=>φ h/\(∃o,h.get? a=some o)/\∀h1 h2:Heap,φ h1->(∀o,h1.get? a=some o->h2.get? a=some o)->φ h2
def HOk (H:Hp)(h:Heap):Prop:=∀a o,H a=some o->ObjOk P w H h a o
end
theorem ObjOk.lt (x:ObjOk P w H h a o):a<h.objs.size:=by
 cases o with
 |lst xs=>obtain⟨_,_,_,_,e⟩:=x;exact bu e
 |tup xs=>obtain⟨_,_,_,p⟩:=x;exact p.tup.lt
 |dK kvs=>obtain⟨_,_,_,_,o,_,_,e,_⟩:=x;exact bu e
 |dT kvs=>obtain⟨_,_,_,_,o,_,_,e,_⟩:=x;exact bu e
 |set S n=>obtain⟨o,_,_,_,e,_⟩:=x;exact bu e
 |ins C dx fs=>obtain⟨_,_,_,e,_⟩:=x;exact bu e
 |own y=>obtain⟨_,e⟩:=x;exact bu e
 |xd fs=>obtain⟨_,⟨_,_,_,e,_⟩,_⟩:=x;exact bu e
 |rng lo hi=>obtain⟨_,_,_,e⟩:=x;exact bu e
 |frz ob u=>obtain⟨e,_⟩:=x;exact bu e
 |tbl ps=>exact bu (show h.get? a=some _ from x)
 |met f y=>exact bu (show h.get? a=some _ from x)
 |ext φ=>obtain⟨_,⟨_,e⟩,_⟩:=x;exact bu e
theorem Paired.mapP:∀{l₁:List α}{l₂:List β},Paired F l₁ l₂->(∀a b,F a b->G a b)->Paired G l₁ l₂
 |_,_, .nil,_ => .nil
 |_,_, .cons r t,f => .cons (f _ _ r) (Paired.mapP t f)
theorem ObjOk.stay (x:ObjOk P w H h a o)(k:∀b u,(b=a\/H b=some (.own a))->h.get? b=some u->h'.get? b=some u)(ho:∀b,H b=some (.own a)->H' b=some (.own a))(ht:∀b xs,H b=some (.tup xs)->H' b=some (.tup xs)):ObjOk P w H' h' a o:=by
 induction o with
 |lst xs=>obtain⟨z,its,n,r,e⟩:=x;exact⟨z,its,n,r,k _ _ (.inl rfl) e⟩
 |tup xs=>obtain⟨z,its,r,ob,e,c⟩:=x;exact⟨z,its,r,ob,k _ _ (.inl rfl) e,c⟩
 |dK kvs=>obtain⟨z,y,vs,r,ob,es,ep,e,c⟩:=x;exact⟨z,y,vs,r,ob,es,ep,k _ _ (.inl rfl) e,c⟩
 |dT kvs=>
  obtain⟨z,y,xs,r,ob,es,ep,e,c⟩:=x
  exact⟨z,y,xs,Paired.mapP r λp q z=>⟨z.1,ht _ _ z.2.1,z.2.2⟩,ob,es,ep,k _ _ (.inl rfl) e,c⟩
 |set S n=>obtain⟨ob,es,ep,t,e,c⟩:=x;exact⟨ob,es,ep,t,k _ _ (.inl rfl) e,c⟩
 |ins C dx fs=>
  obtain⟨d,z,ne,e,mA,⟨od,es,ep,e2,c⟩,r⟩:=x
  exact⟨ho _ d,z,ne,k _ _ (.inl rfl) e,mA,⟨od,es,ep,k _ _ (.inr d) e2,c⟩,r⟩
 |own y=>obtain⟨ob,e⟩:=x;exact⟨ob,k _ _ (.inl rfl) e⟩
 |xd fs=>obtain⟨mA,⟨od,es,ep,e,c⟩,r⟩:=x;exact⟨mA,⟨od,es,ep,k _ _ (.inl rfl) e,c⟩,r⟩
 |rng lo hi=>obtain⟨t,u,v,e⟩:=x;exact⟨t,u,v,k _ _ (.inl rfl) e⟩
 |frz ob u ih=>obtain⟨e,q⟩:=x;exact⟨k _ _ (.inl rfl) e,ih q⟩
 |tbl ps=>
  have e:h.get? a=some { cls := .none,data := .fields ps }:=x
  show h'.get? a=some { cls := .none,data := .fields ps }
  exact k a _ (.inl rfl) e
 |met f y=>
  have e:h.get? a=some (xh (.ref f) (.ref y)):=x
  show h'.get? a=some (xh (.ref f) (.ref y))
  exact k a _ (.inl rfl) e
 |ext φ=>obtain⟨p,⟨o,e⟩,st⟩:=x;exact⟨st _ _ p λo q=>k _ _ (.inl rfl) q,⟨o,k _ _ (.inl rfl) e⟩,st⟩
theorem HOk.lt (x:HOk P w H h)(e:H a=some o):a<h.objs.size:=(x a o e).lt
theorem HOk.fresh {H: Hp}{h: Heap}{a: Addr}(x:HOk P w H h)(e:h.objs.size<=a):H a=none:=by
 cases q:H a with
 |none=>rfl
 |some u=>exact absurd (cg (x.lt q) e) (kn _)
theorem HOk.kept (x:HOk P w H h)(k:∀b u,h.get? b=some u->h'.get? b=some u):HOk P w H h':=λa o e=>
 (x a o e).stay (λb u _ q=>k b u q) (λ_ q=>q) λ_ _ q=>q
theorem HOk.laid {H: Hp}{h h': Heap}{a: Addr}{o: HO}(x:HOk P w H h)(k:∀b u,h.get? b=some u->h'.get? b=some u)(hp:h.objs.size<=a)(new:ObjOk P w (upd H a o) h' a o):HOk P w (upd H a o) h':=λb u e=>by
 have hn:=x.fresh hp
 by_cases hb:b=a
 ·subst hb;rw[aA] at e;cases e;exact new
 ·rw[aK hb] at e
  exact(x b u e).stay (λc v _ q=>k c v q) (λc q=>by rw[aK (aJ q hn)];exact q) λc xs q=>by rw[aK (aJ q hn)];exact q
def Rd (H:Hp)(a:Addr)(u:HO):Prop:=H a=some u\/∃o,H a=some (.frz o u)
theorem Rd.ok (r:Rd H a u)(x:HOk P w H h):ObjOk P w H h a u:=by
 rcases r with r | ⟨o,r⟩
 ·exact x a u r
 ·obtain⟨_,q⟩:=x a _ r
  exact q
def Mut:Option HO->Prop
 |some (.lst _)=>True
 |some (.dK _)=>True
 |some (.dT _)=>True
 |some (.set _ _)=>True
 |some (.ins _ _ _)=>True
 |some (.ext _)=>True
 |_=>False
theorem HOk.write (ok:HOk P w H h)(mu:Mut (H x))(he:e=x\/H e=some (.own x))(k:∀b u,b≠e->h.get? b=some u->h'.get? b=some u)(heo:∃u,h'.get? e=some u)(new:ObjOk P w (upd H x o') h' x o'):HOk P w (upd H x o') h':=λb u q=>by
 have nown:∀c y,H c=some (.own y)->c≠x:=λc y r z=>by subst z;rw[r] at mu;exact mu
 have ntup:∀c xs,H c=some (.tup xs)->c≠x:=λc xs r z=>by subst z;rw[r] at mu;exact mu
 by_cases hb:b=x
 ·subst hb;rw[aA] at q;cases q;exact new
 ·rw[aK hb] at q
  by_cases hbe:b=e
  ·have q':H b=some (.own x):=by
    rcases he with z | z
    ·exact absurd (hbe.trans z) hb
    ·rw[hbe];exact z
   rw[q] at q';cases q'
   obtain⟨v,hv⟩:=heo
   exact⟨v,by rw[hbe];exact hv⟩
  ·refine(ok b u q).stay (λc v hc r=>k c v ?_ r) (λc r=>by rw[aK (nown c b r)];exact r) λc xs r=>by rw[aK (ntup c xs r)];exact r
   rcases hc with rfl | hc
   ·exact hbe
   ·rintro rfl
    rcases he with z | z
    ·exact nown c b hc z
    ·rw[hc] at z;cases z;exact hb rfl
structure Un (fs ex:List Addr)(H H':Hp)(h h':Heap):Prop where
 keep:∀b o,h.get? b=some o->H b=none->b∉fs->b∉ex->h'.get? b=some o
 slot:∀b o,h.get? b=some o->H b=none->b∈fs->b∉ex->∃sl,h'.get? b=some { o with slots:=sl }
 free:∀b o,h.get? b=some o->H b=none->b∉ex->H' b=none
 there:∀b o,h.get? b=some o->b∉ex->∃o',h'.get? b=some o'
 tups:∀b xs,H b=some (.tup xs)->H' b=some (.tup xs)
 frzs:∀b o u,H b=some (.frz o u)->H' b=some (.frz o u)
 tbls:∀b ps,H b=some (.tbl ps)->∃more,H' b=some (.tbl (ps++more))
theorem Un.any (u:Un fs ex H H1 h h1)(q:h.get? b=some ob)(n:H b=none)(hx:b∉ex):∃sl,h1.get? b=some { ob with slots:=sl }:=by
 by_cases hb:b∈fs
 ·exact u.slot b ob q n hb hx
 ·exact⟨ob.slots,u.keep b ob q n hb hx⟩
theorem Un.kept (k:∀b u,h.get? b=some u->h'.get? b=some u):Un fs ex H H h h':=
 ⟨λb ob q _ _ _=>k b ob q,λb ob q _ _ _=>⟨ob.slots,k b ob q⟩,λ_ _ _ n _=>n,λb ob q _=>⟨ob,k b ob q⟩,λ_ _ q=>q,λ_ _ _ q=>q,λ_ ps q=>⟨#[],by rw[q];simp⟩⟩
theorem Un.refl:Un fs ex H H h h:=Un.kept λ_ _ q=>q
theorem Un.laid {fs ex: List Addr}{H: Hp}{h h': Heap}{a: Addr}{o: HO}(k:∀b u,h.get? b=some u->h'.get? b=some u)(hp:h.objs.size<=a)(hn:H a=none):Un fs ex H (upd H a o) h h' where
 keep:=λb u q _ _ _=>k b u q
 slot:=λb u q _ _ _=>⟨u.slots,k b u q⟩
 free:=λb u q n _=>by rw[aK (dt (cg (bu q) hp))];exact n
 there:=λb u q _=>⟨u,k b u q⟩
 tups:=λb xs q=>by rw[aK (aJ q hn)];exact q
 frzs:=λb u xs q=>by rw[aK (aJ q hn)];exact q
 tbls:=λb ps q=>⟨#[],by rw[aK (aJ q hn),q];simp⟩
theorem Un.write (mu:Mut (H x))(he:e=x\/H e=some (.own x))(k:∀b u,b≠e->h.get? b=some u->h'.get? b=some u)(heo:∃u,h'.get? e=some u):Un fs ex H (upd H x o) h h':=by
 have hx:∀b,H b=none->b≠x:=λb n z=>by subst z;rw[n] at mu;exact mu
 have hb:∀b,H b=none->b≠e:=λb n z=>by
  subst z
  rcases he with r | r
  ·exact hx b n r
  ·rw[n] at r;cases r
 have hm:∀b u,H b=some u->¬ Mut (some u)->b≠x:=λb u q nm z=>by subst z;rw[q] at mu;exact nm mu
 refine⟨λb u q n _ _=>k b u (hb b n) q,λb u q n _ _=>⟨u.slots,k b u (hb b n) q⟩,λb u q n _=>by rw[aK (hx b n)];exact n,λb u q _=>?_,
  λb xs q=>by rw[aK (hm b _ q λz=>z)];exact q,λb u xs q=>by rw[aK (hm b _ q λz=>z)];exact q,λb ps q=>⟨#[],by rw[aK (hm b _ q λz=>z),q];simp⟩⟩
 by_cases hbe:b=e
 ·subst hbe;exact heo
 ·exact⟨u,k b u hbe q⟩
def trk (h:Heap)(H:Hp):List Addr:=(ao h.objs.size).filter λa=>(H a).isSome
def aHe (h:Heap)(H:Hp):Heap:=PySem.W.hideAll h (trk h H)
theorem aED (h:Heap)(H:Hp): (aHe h H).objs.size=h.objs.size:=PySem.W.hideAll_size _ _
theorem aGs (e:h.get? b=some o)(n:H b=none): (aHe h H).get? b=some o:=
 Av _ e λhm=>by
  have q:(H b).isSome=true:=(fg.mp hm).2
  rw[n] at q;simp at q
theorem aKh (e:(aHe h H).get? b=some o):h.get? b=some o/\H b=none:=by
 have e':h.get? b=some o:=PySem.W.of_hideAll (trk h H) e
 refine⟨e',?_⟩
 cases q:H b with
 |none=>rfl
 |some x=>
  have hm:b∈trk h H:=fg.mpr ⟨az.mpr (bu e'),by simp[q]⟩
  have z:(aHe h H).get? b=none:=PySem.W.hideAll_none (trk h H) hm
  rw[z] at e;cases e
structure Mod (K:aa)(mg:Str->Option Value)(base:Heap):Prop where
 kin:K.In base
 glob:base.Ns dr mg
 blt:∃mb,base.Ns A9 mb/\∀x:Str,x≠"__name__"->mb x=fz x
 nolimit:base.NoLimit
structure Cx where
 prog:Program
 w:World
 K:aa
 mg:Str->Option Value
 base:Heap
 A:Around
 N:List Str
 s₀:Shared
 H₀:Hp
 env:Env
 outer:List Env
 stack:List Env
 ex:List Addr
 fn:Str->Bool
 calm:Bool
 pn:List (Addr×Obj)
 xe:Value->Shared->Prop
def frs (l:List Env):List Addr:=l.filterMap (·.frame)
abbrev Cx.fs (X:Cx):List Addr:=frs X.outer
def Vis (sc:Scope)(x:Str):Prop:=sc.names.lookup x=some .local\/sc.names.lookup x=some .cell\/sc.names.lookup x=some .free
def Loc (sc:Scope)(x:Str):Prop:=sc.names.lookup x=some .local\/sc.names.lookup x=some .cell
def aPq (env:Env)(h:Heap)(m:Str->Option Value)(x:Str)(u:Value):Prop:=
 (env.kindOf x=some .local/\m x=some u)\/((env.kindOf x=some .cell\/env.kindOf x=some .free)/\∃c,env.cells.lookup x=some c/\h.IsCell c (some u))
structure Cx.Ok (X:Cx):Prop where
 mod:Mod X.K X.mg X.base
 kind:X.env.scope.kind = .function
 glob:X.env.globals=dr
 blt:X.env.builtins=A9
 above:X.s₀.heap.objs.size<=X.env.locals
 inj:∀x y c,X.env.cells.lookup x=some c->X.env.cells.lookup y=some c->x=y
 has:∀x,(X.env.kindOf x=some .cell\/X.env.kindOf x=some .free)->∃c,X.env.cells.lookup x=some c
 cab:∀x c,X.fn x=true->X.env.cells.lookup x=some c->X.s₀.heap.objs.size<=c
 hd:X.calm=true->X.A.handled=none
 frames:X.A.frames=some X.stack
 stk:X.stack=X.outer\/(X.stack=X.env :: X.outer/\X.env.frame=some X.env.locals)
 exf:∀b∈X.ex,b≠X.env.locals/\∀x c,X.env.cells.lookup x=some c->c≠b
 bs:∀b o,X.base.get? b=some o->X.s₀.heap.get? b=some o/\X.H₀ b=none
 bsz:X.base.objs.size<=X.s₀.heap.objs.size
 noex:∀b o,X.base.get? b=some o->b∉X.ex
 exfs:∀b∈X.ex,b∉X.fs
 funs:X.s₀.heap.FunFrames X.base X.outer
 frf:∀b∈X.fs,X.H₀ b=none
structure Inv (X:Cx)(pins:List (Addr×Obj))(σ:List (Option V))(H:Hp)(s:Shared):Prop where
 ok:X.Ok
 os:s.os=X.s₀.os
 bare:xy s.gens
 base:Un X.fs X.ex X.H₀ H X.s₀.heap s.heap
 loc:∃m,s.heap.Ns X.env.locals m/\∀(i:Nat) (x:Str) (v:V),X.N[i]?=some x->σ[i]?=some (some v)->Vis X.env.scope x->∃u,RelV v u/\aPq X.env s.heap m x u
 cell:∀x c,X.env.cells.lookup x=some c->∃v,s.heap.IsCell c v
 free:H X.env.locals=none
 freeC:∀x c,X.env.cells.lookup x=some c->H c=none
 pin:∀p∈X.pn++pins,s.heap.get? p.1=some p.2/\H p.1=none/\p.1≠X.env.locals/\p.1∉X.fs/\∀v,p.2.data ≠ .cell v
 hok:HOk X.prog X.w H s.heap
 len:σ.length=X.N.length
theorem Cx.Ok.nofr {X: Cx}(ok:X.Ok){b: Addr}{o: Obj}(e:X.base.get? b=some o):b∉X.fs:=λhb=>by
 have:=(ok.funs.mem hb).1
 rw[e] at this;cases this
theorem Inv.bs (I:Inv X pins σ H s):∀b o,X.base.get? b=some o->s.heap.get? b=some o/\H b=none:=λb o e=>
 ⟨I.base.keep b o (I.ok.bs b o e).1 (I.ok.bs b o e).2 (I.ok.nofr e) (I.ok.noex b o e),I.base.free b o (I.ok.bs b o e).1 (I.ok.bs b o e).2 (I.ok.noex b o e)⟩
theorem Inv.bk (I:Inv X pins σ H s):∀b o,X.base.get? b=some o->s.heap.get? b=some o:=λb o e=>(I.bs b o e).1
theorem Inv.mod (I:Inv X pins σ H s):Mod X.K X.mg X.base:=I.ok.mod
theorem Inv.kIn (I:Inv X pins σ H s):X.K.In s.heap:=I.ok.mod.kin.keeps I.bk
theorem Inv.lt (I:Inv X pins σ H s):X.env.locals<s.heap.objs.size:=let⟨_,hn,_⟩:=I.loc;hn.lt
theorem Inv.sz (I:Inv X pins σ H s):X.s₀.heap.objs.size<=s.heap.objs.size:=de I.ok.above (i7 I.lt)
theorem Inv.nofs {pins: List (Addr×Obj)}{σ: List (Option V)}{H: Hp}{s: Shared}(I:Inv X pins σ H s){a: Addr}(h:s.heap.objs.size<=a):a∉X.fs:=λhb=>by
 obtain⟨_,o,ho,_⟩:=I.ok.funs.mem hb
 exact absurd (cg (bu ho) (de I.sz h)) (kn _)
theorem Inv.cne (I:Inv X pins σ H s):∀x c,X.env.cells.lookup x=some c->c≠X.env.locals:=λx c e z=>by
 obtain⟨v,o,ho,hd⟩:=I.cell x c e
 obtain⟨m,⟨o',es,ep,ho',hd',_⟩,_⟩:=I.loc
 rw[z,ho'] at ho;cases ho;rw[hd'] at hd;cases hd
theorem Inv.funs (I:Inv X pins σ H s):s.heap.FunFrames X.base X.outer:=by
 have all:∀(l:List Env),(∀b∈frs l,b∈X.fs)->X.s₀.heap.FunFrames X.base l->s.heap.FunFrames X.base l:=by
  intro l
  induction l with
  |nil=>intro _ _;trivial
  |cons env r ih=>
   intro hs hl
   obtain⟨hk,⟨L,o,hf,hn,ho,hd⟩,hr⟩:=hl
   have hL:L∈X.fs:=hs L (by unfold frs;rw[u6,hf];exact cv)
   obtain⟨sl,e⟩:=I.base.slot L o ho (I.ok.frf L hL) hL λz=>I.ok.exfs L z hL
   exact⟨hk,⟨L,_,hf,hn,e,hd⟩,ih (λb hb=>hs b (by unfold frs;rw[u6,hf];exact ay _ hb)) hr⟩
 exact all X.outer (λ_ hb=>hb) I.ok.funs
theorem Inv.stack (I:Inv X pins σ H s):s.heap.FunFrames X.base X.stack:=by
 rcases I.ok.stk with e | ⟨e,hf⟩
 ·rw[e];exact I.funs
 ·rw[e]
  obtain⟨m,hn,_⟩:=I.loc
  refine .cons (by rw[I.ok.kind];decide) hf hn ?_ I.funs
  exact Heap.get?_none_of_le (de I.ok.bsz I.ok.above)
theorem Inv.stkSub (I:Inv X pins σ H s):∀b∈frs X.stack,b∈X.env.locals :: X.fs:=λb hb=>by
 rcases I.ok.stk with e | ⟨e,hf⟩
 ·rw[e] at hb;exact ay _ hb
 ·rw[e] at hb
  unfold frs at hb
  rw[u6,hf] at hb
  exact hb
theorem Inv.stkFree (I:Inv X pins σ H s):∀b∈frs X.stack,H b=none:=λb hb=>by
 rcases bq.mp (I.stkSub b hb) with e | hb
 ·rw[e];exact I.free
 ·obtain⟨_,o,ho,_⟩:=I.ok.funs.mem hb
  exact I.base.free b o ho (I.ok.frf b hb) λz=>I.ok.exfs b z hb
theorem Inv.step {pins: List (Addr×Obj)}{σ: List (Option V)}{H H': Hp}{s: Shared}{h': Heap}{g': Array GenState}{t': Nat}{d': Drawn}{ch: List Addr}(I:Inv X pins σ H s)(hch:∀b∈ch,(b∈X.ex\/X.s₀.heap.objs.size<=b)/\b≠X.env.locals/\(∀x c,X.env.cells.lookup x=some c->c≠b)/\∀p∈X.pn++pins,p.1≠b)(keep:∀b o,b≠X.env.locals->b∉X.fs->b∉ch->s.heap.get? b=some o->H b=none->h'.get? b=some o)(slot:∀b o,b≠X.env.locals->b∈X.fs->b∉ch->s.heap.get? b=some o->H b=none->∃sl,h'.get? b=some { o with slots:=sl })(free:∀b o,b∉ch->s.heap.get? b=some o->H b=none->H' b=none)(there:∀b o,b∉ch->s.heap.get? b=some o->∃o',h'.get? b=some o')(tups:∀b xs,H b=some (.tup xs)->H' b=some (.tup xs))(frzs:∀b o u,H b=some (.frz o u)->H' b=some (.frz o u))(tbls:∀b ps,H b=some (.tbl ps)->∃more,H' b=some (.tbl (ps++more)))(ns:∀m,s.heap.Ns X.env.locals m->h'.Ns X.env.locals m)(hok:HOk X.prog X.w H' h')(hg:xy g'):
  Inv X pins σ H' { s with heap:=h',gens:=g',drawn:=d',toks:=t' }:=by
 have neL:∀b o,X.s₀.heap.get? b=some o->b≠X.env.locals:=λb o e=>dt (cg (bu e) I.ok.above)
 have neC:∀b o,X.s₀.heap.get? b=some o->b∉X.ex->b∉ch:=λb o e hx hb=>by
  rcases(hch b hb).1 with z | z
  ·exact hx z
  ·exact absurd (cg (bu e) z) (kn _)
 have cellK:∀x c,X.env.cells.lookup x=some c->∀v,s.heap.IsCell c v->h'.IsCell c v:=λx c e v ⟨o,ho,hd⟩=>by
  have nch:c∉ch:=λz=>(hch c z).2.2.1 x c e rfl
  by_cases hc:c∈X.fs
  ·obtain⟨sl,q⟩:=slot c o (I.cne x c e) hc nch ho (I.freeC x c e)
   exact⟨_,q,hd⟩
  ·exact⟨o,keep c o (I.cne x c e) hc nch ho (I.freeC x c e),hd⟩
 refine⟨I.ok,I.os,hg,⟨λb o e n hb hx=>?_,λb o e n hb hx=>?_,λb o e n hx=>?_,λb o e hx=>?_,λb xs e=>tups b xs (I.base.tups b xs e),λb o xs e=>frzs b o xs (I.base.frzs b o xs e),λb ps e=>?_⟩,?_,λx c e=>?_,?_,λx c e=>?_,λp hp=>?_,hok,I.len⟩
 ·exact keep b o (neL b o e) hb (neC b o e hx) (I.base.keep b o e n hb hx) (I.base.free b o e n hx)
 ·obtain⟨sl,e1⟩:=I.base.slot b o e n hb hx
  obtain⟨sl',e2⟩:=slot b _ (neL b o e) hb (neC b o e hx) e1 (I.base.free b o e n hx)
  exact⟨sl',e2⟩
 ·obtain⟨o',e1⟩:=I.base.there b o e hx
  exact free b o' (neC b o e hx) e1 (I.base.free b o e n hx)
 ·obtain⟨o',e1⟩:=I.base.there b o e hx
  exact there b o' (neC b o e hx) e1
 ·obtain⟨m1,e1⟩:=I.base.tbls b ps e
  obtain⟨m2,e2⟩:=tbls b _ e1
  exact⟨m1++m2,by rw[e2,Array.append_assoc]⟩
 ·obtain⟨m,hn,hl⟩:=I.loc
  refine⟨m,ns m hn,λi x v e1 e2 e3=>?_⟩
  obtain⟨u,r,l⟩:=hl i x v e1 e2 e3
  refine⟨u,r,?_⟩
  rcases l with l | ⟨k,c,e,z⟩
  ·exact .inl l
  ·exact .inr ⟨k,c,e,cellK x c e _ z⟩
 ·obtain⟨v,z⟩:=I.cell x c e
  exact⟨v,cellK x c e v z⟩
 ·obtain⟨m,⟨o,_,_,ho,_⟩,_⟩:=I.loc
  exact free _ o (λz=>(hch _ z).2.1 rfl) ho I.free
 ·obtain⟨v,o,ho,hd⟩:=I.cell x c e
  exact free c o (λz=>(hch c z).2.2.1 x c e rfl) ho (I.freeC x c e)
 ·obtain⟨e,n,ne,nf,d⟩:=I.pin p hp
  have nch:p.1∉ch:=λz=>(hch p.1 z).2.2.2 p hp rfl
  exact⟨keep p.1 p.2 ne nf nch e n,free p.1 p.2 nch e n,ne,nf,d⟩
theorem Inv.un (I:Inv X pins σ H s)(u:Un X.fs [] H H' s.heap h')(hok:HOk X.prog X.w H' h'):Inv X pins σ H' { s with heap:=h',toks:=t' }:=by
 obtain⟨m,⟨o,es,ep,ho,r⟩,_⟩:=id I.loc
 obtain⟨sl,hL⟩:=u.any ho I.free (by simp)
 exact I.step (g':=s.gens) (d':=s.drawn) (ch:=[]) (λ_ z=>nomatch z) (λb o _ hb _ e n=>u.keep b o e n hb (by simp)) (λb o _ hb _ e n=>u.slot b o e n hb (by simp)) (λb o _ e n=>u.free b o e n (by simp)) (λb o _ e=>u.there b o e (by simp)) u.tups u.frzs u.tbls (λm' hm=>by
  obtain⟨o',es',ep',ho',r'⟩:=hm
  rw[ho] at ho';cases ho'
  exact⟨_,es',ep',hL,r'⟩) hok I.bare
theorem Inv.call (I:Inv X pins σ H s)(u:Un (frs X.stack) ch H H' s.heap h')(hok:HOk X.prog X.w H' h')(hg:xy g')(hch:∀b∈ch,(b∈X.ex\/X.s₀.heap.objs.size<=b)/\b≠X.env.locals/\(∀x c,X.env.cells.lookup x=some c->c≠b)/\∀p∈X.pn++pins,p.1≠b):
  Inv X pins σ H' { s with heap:=h',gens:=g',drawn:=d',toks:=t' }:=by
 obtain⟨m,⟨o,es,ep,ho,r⟩,_⟩:=id I.loc
 obtain⟨sl,hL⟩:=u.any ho I.free λz=>(hch _ z).2.1 rfl
 exact I.step (ch:=ch) hch (λb o hL hb hc e n=>u.keep b o e n (λz=>(bq.mp (I.stkSub b z)).elim hL hb) hc) (λb o _ _ hc e n=>u.any e n hc) (λb o hc e n=>u.free b o e n hc) (λb o hc e=>u.there b o e hc) u.tups u.frzs u.tbls (λm' hm=>by
  obtain⟨o',es',ep',ho',r'⟩:=hm
  rw[ho] at ho';cases ho'
  exact⟨_,es',ep',hL,r'⟩) hok hg
theorem Inv.turned (I:Inv X pins σ H s)(k:∀b o,b≠it->s.heap.get? b=some o->h'.get? b=some o)(hn:H it=none)(hL:it≠X.env.locals)(h1:it∈X.ex\/X.s₀.heap.objs.size<=it)(h2:∀x c,X.env.cells.lookup x=some c->c≠it)(h3:∀p∈X.pn++pins,p.1≠it):Inv X pins σ H { s with heap:=h',toks:=t' }:=by
 have nit:∀b u,H b=some u->b≠it:=λb u e z=>by rw[z,hn] at e;cases e
 refine I.step (g':=s.gens) (d':=s.drawn) (ch:=[it]) (λb hb=>?_) (λb o _ _ hc e _=>k b o (λz=>hc (by simp[z])) e) (λb o _ _ hc e _=>⟨o.slots,k b o (λz=>hc (by simp[z])) e⟩) (λ_ _ _ _ n=>n)
  (λb o hc e=>⟨o,k b o (λz=>hc (by simp[z])) e⟩) (λ_ _ e=>e) (λ_ _ _ e=>e) (λb ps e=>⟨#[],by rw[e];simp⟩) (λm hm=>?_) (λb u e=>?_) I.bare
 ·have e:b=it:=by simpa using hb
  subst e
  exact⟨h1,hL,h2,h3⟩
 ·obtain⟨o,es,ep,ho,r⟩:=hm
  exact⟨o,es,ep,k _ o (gy hL) ho,r⟩
 ·refine(I.hok b u e).stay (λc v hc q=>k c v ?_ q) (λ_ q=>q) λ_ _ q=>q
  rcases hc with z | z
  ·rw[z];exact nit b u e
  ·exact nit c _ z
theorem Inv.tok (I:Inv X pins σ H s)(t:Nat):Inv X pins σ H { s with toks:=t }:=I.un (h':=s.heap) (t':=t) Un.refl I.hok
theorem Inv.kept (I:Inv X pins σ H s)(k:∀b u,s.heap.get? b=some u->h'.get? b=some u):Inv X pins σ H { s with heap:=h',toks:=t' }:=I.un (Un.kept k) (I.hok.kept k)
theorem Inv.laid {pins: List (Addr×Obj)}{σ: List (Option V)}{H: Hp}{s: Shared}{h': Heap}{a: Addr}{o: HO}{t': Nat}(I:Inv X pins σ H s)(k:∀b u,s.heap.get? b=some u->h'.get? b=some u)(hp:s.heap.objs.size<=a)(new:ObjOk X.prog X.w (upd H a o) h' a o):
  Inv X pins σ (upd H a o) { s with heap:=h',toks:=t' }:=I.un (Un.laid k hp (I.hok.fresh hp)) (I.hok.laid k hp new)
theorem Inv.write (I:Inv X pins σ H s)(mu:Mut (H x))(he:e=x\/H e=some (.own x))(k:∀b u,b≠e->s.heap.get? b=some u->h'.get? b=some u)(heo:∃u,h'.get? e=some u)(new:ObjOk X.prog X.w (upd H x o) h' x o):Inv X pins σ (upd H x o) { s with heap:=h',toks:=t' }:=I.un (Un.write mu he k heo) (I.hok.write mu he k heo new)
theorem Inv.pins_of (I:Inv X pins σ H s)(h:∀p∈pins',s.heap.get? p.1=some p.2/\H p.1=none/\p.1≠X.env.locals/\p.1∉X.fs/\∀v,p.2.data ≠ .cell v):Inv X pins' σ H s:=
 ⟨I.ok,I.os,I.bare,I.base,I.loc,I.cell,I.free,I.freeC,λp hp=>(di.mp hp).elim (λz=>I.pin p (fe _ z)) (h p),I.hok,I.len⟩
theorem aBG {N: List Str}(hN:N.Nodup){i j: Nat}{x: Str}(a:N[i]?=some x)(b:N[j]?=some x):i=j:=by
 obtain⟨h1,e1⟩:=ai.mp a
 obtain⟨h2,e2⟩:=ai.mp b
 exact(qq hN).mp (e1.trans e2.symm)
theorem yN (I:Inv X pins σ H s)(hN:X.N.Nodup)(hi:X.N[i]?=some x)(hx:Loc X.env.scope x)(r:RelV v u)(h:∀s',Inv X pins (σ.set i (some v)) H s'->(∃a,jb a s.heap s'.heap/\(a=X.env.locals\/X.env.cells.lookup x=some a))->Q () s')(hf:X.fn x=true\/X.env.scope.names.lookup x=some .local:=by first | exact .inl rfl | exact .inr rfl | assumption):wpAny M A (storeName X.env x u) Q E s:=by
 obtain⟨m,hn,hl⟩:=id I.loc
 have hcls:(X.env.scope.kind == .class || (X.env.scope.kind == .module && X.env.locals != X.env.globals))=false:=by rw[I.ok.kind];rfl
 have hiσ:i<σ.length:=by rw[I.len];exact(ai.mp hi).1
 have cne:=I.cne
 have tracked:∀{a:Addr}{h':Heap},(∃o,s.heap.get? a=some o/\H a=none)->jb a s.heap h'->HOk X.prog X.w H h':=λ{a h'} ha hs b ob e=>by
  obtain⟨_,_,hfree⟩:=ha
  refine(I.hok b ob e).stay (λc w' hc q=>(hs.2 c ?_).trans q) (λ_ q=>q) λ_ _ q=>q
  rintro rfl
  rcases hc with rfl | hc
  ·rw[hfree] at e;cases e
  ·rw[hfree] at hc;cases hc
 rcases hx with hk | hk
 ·refine wpAny_storeName_local hk hn (λh' hn' hs=>?_) hcls
  obtain⟨oL,_,_,hoL,_⟩:=id hn
  refine h _ ⟨I.ok,I.os,I.bare,⟨λb o e n hb hx=>?_,λb o e n hb hx=>?_,I.base.free,λb o e hx=>?_,I.base.tups,I.base.frzs,I.base.tbls⟩,⟨_,hn',λj y v' e1 e2 e3=>?_⟩,λy c e=>?_,I.free,I.freeC,λp hp=>?_,tracked ⟨oL,hoL,I.free⟩ hs,by simpa using I.len⟩ ⟨_,hs, .inl rfl⟩
  ·exact(hs.2 b (dt (cg (bu e) I.ok.above))).trans (I.base.keep b o e n hb hx)
  ·obtain⟨sl,e1⟩:=I.base.slot b o e n hb hx
   exact⟨sl,(hs.2 b (dt (cg (bu e) I.ok.above))).trans e1⟩
  ·obtain⟨o',e1⟩:=I.base.there b o e hx
   exact⟨o',(hs.2 b (dt (cg (bu e) I.ok.above))).trans e1⟩
  ·by_cases hj:j=i
   ·subst hj
    rw[hi] at e1;cases e1
    rw[j9 hiσ] at e2
    cases e2
    exact⟨u,r, .inl ⟨hk,by simp⟩⟩
   ·rw[fk (gy hj)] at e2
    obtain⟨u',r',q⟩:=hl j y v' e1 e2 e3
    refine⟨u',r',?_⟩
    rcases q with⟨k,e⟩ | ⟨k,c,e,z⟩
    ·refine .inl ⟨k,?_⟩
     have:y≠x:=λe=>hj (aBG hN e1 (e ▸ hi))
     simp[this,e]
    ·exact .inr ⟨k,c,e,z.sameBut hs (cne y c e)⟩
  ·obtain⟨w',z⟩:=I.cell y c e
   exact⟨w',z.sameBut hs (cne y c e)⟩
  ·obtain⟨e,n,ne,nf,d⟩:=I.pin p hp
   exact⟨(hs.2 p.1 ne).trans e,n,ne,nf,d⟩
 ·have hfn:X.fn x=true:=by
   rcases hf with z | z
   ·exact z
   ·rw[z] at hk;cases hk
  obtain⟨c,hc⟩:=I.ok.has x (.inl hk)
  obtain⟨w',z⟩:=I.cell x c hc
  refine wpAny_storeName_cell I.ok.kind hk hc z (λh' hc' hs=>?_)
  obtain⟨oc,hoc,hocd⟩:=id z
  refine h { s with heap:=h' } ⟨I.ok,I.os,I.bare,⟨λb o e n hb hx=>?_,λb o e n hb hx=>?_,I.base.free,λb o e hx=>?_,I.base.tups,I.base.frzs,I.base.tbls⟩,⟨m,hn.sameBut hs (gy (cne x c hc)),λj y v' e1 e2 e3=>?_⟩,λy c' e=>?_,I.free,I.freeC,λp hp=>?_,tracked ⟨oc,hoc,I.freeC x c hc⟩ hs,by simpa using I.len⟩ ⟨c,hs, .inr hc⟩
  ·exact(hs.2 b (dt (cg (bu e) (I.ok.cab x c hfn hc)))).trans (I.base.keep b o e n hb hx)
  ·obtain⟨sl,e1⟩:=I.base.slot b o e n hb hx
   exact⟨sl,(hs.2 b (dt (cg (bu e) (I.ok.cab x c hfn hc)))).trans e1⟩
  ·obtain⟨o',e1⟩:=I.base.there b o e hx
   exact⟨o',(hs.2 b (dt (cg (bu e) (I.ok.cab x c hfn hc)))).trans e1⟩
  ·by_cases hj:j=i
   ·subst hj
    rw[hi] at e1;cases e1
    rw[j9 hiσ] at e2
    cases e2
    exact⟨u,r, .inr ⟨.inl hk,c,hc,hc'⟩⟩
   ·rw[fk (gy hj)] at e2
    obtain⟨u',r',q⟩:=hl j y v' e1 e2 e3
    refine⟨u',r',?_⟩
    rcases q with q | ⟨k,c',e,z'⟩
    ·exact .inl q
    ·refine .inr ⟨k,c',e,z'.sameBut hs ?_⟩
     rintro rfl
     exact hj (aBG hN e1 (I.ok.inj _ _ _ e hc ▸ hi))
  ·by_cases hcc:c'=c
   ·subst hcc;exact⟨_,hc'⟩
   ·obtain⟨w2,z2⟩:=I.cell y c' e
    exact⟨w2,z2.sameBut hs hcc⟩
  ·obtain⟨e,n,ne,nf,d⟩:=I.pin p hp
   refine⟨(hs.2 p.1 ?_).trans e,n,ne,nf,d⟩
   intro q
   rw[q,hoc] at e
   have q':oc=p.2:=bo e
   exact d w' (by rw[<- q'];exact hocd)
theorem nD (I:Inv X pins σ H s)(hN:X.N.Nodup)(hi:X.N[i]?=some x)(hx:Loc X.env.scope x)(r:RelV v u)(h:∀s',Inv X pins (σ.set i (some v)) H s'->Q () s')(hf:X.fn x=true\/X.env.scope.names.lookup x=some .local:=by first | exact .inl rfl | exact .inr rfl | assumption):wpAny M A (storeName X.env x u) Q E s:=
 yN I hN hi hx r (λs' I' _=>h s' I') hf
theorem Inv.call' (I:Inv X pins σ H s)(ho:s'.os=s.os)(u:Un (frs X.stack) ch H H' s.heap s'.heap)(hok:HOk X.prog X.w H' s'.heap)(hg:xy s'.gens)(hch:∀b∈ch,(b∈X.ex\/X.s₀.heap.objs.size<=b)/\b≠X.env.locals/\(∀x c,X.env.cells.lookup x=some c->c≠b)/\∀p∈X.pn++pins,p.1≠b):Inv X pins σ H' s':=by
 obtain⟨h',g',d',t',o'⟩:=s'
 have e:o'=s.os:=ho
 subst e
 exact I.call (g':=g') (t':=t') (d':=d') u hok hg hch
abbrev XK:= Value->Option Addr->Hp->Prop
abbrev St:= List (Option V)
abbrev VK:= V->Hp->Prop
abbrev TE:= St->Hp->VK->Prop
abbrev TT:= St->Hp->(Bool->Hp->Prop)->Prop
abbrev TA:= St->Hp->(List V->Hp->Prop)->Prop
structure vS where
 nx:St->Hp->Prop
 rt:VK
 bk:St->Hp->Prop:=λ_ _=>False
 ct:St->Hp->Prop:=λ_ _=>False
abbrev TS:= vS->St->Hp->Prop
def EP (X:Cx)(pins:List (Addr×Obj))(σ:St)(Q:VK)(u:Value)(s':Shared):Prop:=∃v H',Inv X pins σ H' s'/\RelV v u/\Q v H'
def TP (X:Cx)(pins:List (Addr×Obj))(σ:St)(Q:Bool->Hp->Prop)(b:Bool)(s':Shared):Prop:=∃H',Inv X pins σ H' s'/\Q b H'
def AP (X:Cx)(pins:List (Addr×Obj))(σ:St)(Q:List V->Hp->Prop)(us:List Value)(s':Shared):Prop:=∃vs H',Inv X pins σ H' s'/\Vals vs us/\Q vs H'
def SP (X:Cx)(pins:List (Addr×Obj))(D:vS)(f:Flow)(s':Shared):Prop:=
 match f with
 | .next=>∃σ' H',Inv X pins σ' H' s'/\D.nx σ' H'
 | .brk=>∃σ' H',Inv X pins σ' H' s'/\D.bk σ' H'
 | .cont=>∃σ' H',Inv X pins σ' H' s'/\D.ct σ' H'
 | .ret u=>∃v σ' H',Inv X pins σ' H' s'/\RelV v u/\D.rt v H'
def PE (X:Cx)(e:Expr)(t:TE):Prop:=
 ∀(pins:List (Addr×Obj)) (s:Shared) (σ:St) (H:Hp) (Q:VK),Inv X pins σ H s->t σ H Q->wpAny (model X.prog X.w) X.A (eval e X.env) (EP X pins σ Q) X.xe s
def PT (X:Cx)(e:Expr)(t:TT):Prop:=
 ∀(pins:List (Addr×Obj)) (s:Shared) (σ:St) (H:Hp) (Q:Bool->Hp->Prop),Inv X pins σ H s->t σ H Q->wpAny (model X.prog X.w) X.A (isTrue e X.env (eval e X.env)) (TP X pins σ Q) X.xe s
def PW (X:Cx)(e:Expr)(t:TT):Prop:=
 ∀(whole:Sem Value) (pins:List (Addr×Obj)) (s:Shared) (σ:St) (H:Hp) (Q:Bool->Hp->Prop),Inv X pins σ H s->t σ H Q->wpAny (model X.prog X.w) X.A (isTrue e X.env whole) (TP X pins σ Q) X.xe s
theorem PW.pt (h:PW X e t):PT X e t:=h _
def PA (X:Cx)(es:List Expr)(t:TA):Prop:=
 ∀(pos:Pos) (pins:List (Addr×Obj)) (s:Shared) (σ:St) (H:Hp) (Q:List V->Hp->Prop),Inv X pins σ H s->t σ H Q->wpAny (model X.prog X.w) X.A (spliced (wc pos (ft es X.env))) (AP X pins σ Q) X.xe s
def PS (X:Cx)(st:Stmt)(t:TS):Prop:=
 ∀(pins:List (Addr×Obj)) (s:Shared) (σ:St) (H:Hp) (D:vS),Inv X pins σ H s->t D σ H->wpAny (model X.prog X.w) X.A (exec st X.env) (SP X pins D) X.xe s
def PSs (X:Cx)(st:List Stmt)(t:TS):Prop:=
 ∀(pins:List (Addr×Obj)) (s:Shared) (σ:St) (H:Hp) (D:vS),Inv X pins σ H s->t D σ H->wpAny (model X.prog X.w) X.A (execs st X.env) (SP X pins D) X.xe s
theorem thn (h:wpAny M A t Q E s)(hQ:∀a s,Q a s->Q' a s):wpAny M A t Q' E s:=i9 h hQ λ_ _ x=>x
section
variable {X:Cx}
inductive aKQ (i:Nat) (σ:St) (H:Hp) (Q:VK):Prop
 |mk (v:V) (h:σ[i]?=some (some v)) (q:Q v H):aKQ i σ H Q
def aC (i:Nat):TE:=λσ H Q=>aKQ i σ H Q
def tC (v:V):TE:=λ_ H Q=>Q v H
theorem aMj {i: Nat}{x: Str}{pos: Pos}(hN:X.N[i]?=some x)(hv:Vis X.env.scope x)(hd:(x == ("__debug__" : Str))=false:=by decide)(hcd:(x == ("__classdict__" : Str))=false:=by decide):PE X (.Name x pos) (aC i):=by
 intro pins s σ H Q I h
 obtain⟨v,e,h⟩:=h
 obtain⟨m,hn,hl⟩:=I.loc
 obtain⟨u,r,l⟩:=hl i x v hN e hv
 have fin:EP X pins σ Q u s:=⟨v,H,I,r,h⟩
 rcases l with⟨hk,hm⟩ | ⟨hk,c,hc,hcell⟩
 ·exact wpAny_Name (wpAny_loadName_local I.ok.kind hk hn hm fin) hd
 ·rcases hk with hk | hk
  ·exact wpAny_Name (wpAny_loadName_cell I.ok.kind hk hc hcell fin) hd
  ·exact wpAny_Name (wpAny_loadName_free I.ok.kind hk hc hcell fin hcd) hd
theorem tE:PE X (.Constant (.int i) j pos) (tC (.int i)):=λ_ _ _ H _ I h=>wpAny_Constant_int ⟨.int i,H,I.tok _,⟨_,rfl⟩,h⟩
theorem aNK:PE X (.Constant (.bool b) j pos) (tC (.bl b)):=λ_ _ _ H _ I h=>Constant_bool ⟨.bl b,H,I,rfl,h⟩
theorem aLo:PE X (.Constant .none j pos) (tC .non):=λ_ _ _ H _ I h=>Constant_none ⟨.non,H,I,rfl,h⟩
def Gl (X:Cx)(x:Str):Prop:=X.env.kindOf x=some .globalImplicit
theorem aAD {pins: List (Addr×Obj)}{s: Shared}{σ: St}{H: Hp}{x: Str}{u: Value}{pos: Pos}(I:Inv X pins σ H s)(hg:Gl X x)(hm:X.mg x=some u)(h:Q u s)(hd:(x == ("__debug__" : Str))=false:=by decide):wpAny (model X.prog X.w) X.A (eval (.Name x pos) X.env) Q E s:=
 v5 I.ok.kind hg (Calls.loadGlobal_global (by rw[I.ok.glob];exact I.mod.glob.keeps I.bk) hm h) hd
theorem oN {E: Value->Shared->Prop}{pins: List (Addr×Obj)}{s: Shared}{σ: St}{H: Hp}{x: Str}{u: Value}{pos: Pos}{Q: Value->Shared->Prop}(I:Inv X pins σ H s)(hg:Gl X x)(hm:X.mg x=none)(hv:fz x=some u)(h:Q u s)(hn:x≠"__name__":=by decide)(hd:(x == ("__debug__" : Str))=false:=by decide):wpAny (model X.prog X.w) X.A (eval (.Name x pos) X.env) Q E s:=by
 obtain⟨mb,h1,h2⟩:=I.mod.blt
 exact v5 I.ok.kind hg (Calls.loadGlobal_builtin (by rw[I.ok.glob];exact I.mod.glob.keeps I.bk) hm (by rw[I.ok.blt];exact h1.keeps I.bk) ((h2 x hn).trans hv) h) hd
theorem aEi (hg:Gl X x)(hm:X.mg x=some u)(r:RelV v u)(hd:(x == ("__debug__" : Str))=false:=by decide):PE X (.Name x pos) (tC v):=
 λ_ _ _ H _ I h=>aAD I hg hm ⟨v,H,I,r,h⟩ hd
theorem uA {x: Str}{v: V}{u: Value}{pos: Pos}(hg:Gl X x)(hm:X.mg x=none)(hv:fz x=some u)(r:RelV v u)(hn:x≠"__name__":=by decide)(hd:(x == ("__debug__" : Str))=false:=by decide):PE X (.Name x pos) (tC v):=
 λ_ _ _ H _ I h=>oN I hg hm hv ⟨v,H,I,r,h⟩ hn hd
variable {a b:Expr}{ta tb:TE}{pos:Pos}
def tB (t:TE):TT:=λσ H Q=>t σ H λx H1=>∃c,x = .bl c/\Q c H1
theorem aLN (h:PE X e t)(he:∀whole,isTrue e X.env whole=(do let v <- whole;Aw e.pos;yx [v] (truthy v)):=by intro _;rfl):PT X e (tB t):=by
 intro pins s σ H Q I hw
 refine isTrue_plain (thn (h pins s σ H _ I hw) λv s1 ⟨x,H1,I1,r1,q1⟩=>?_) (he _)
 obtain⟨d,rfl,q⟩:=q1
 cases r1
 exact ia ⟨H1,I1,q⟩
variable {tA tB':TT}{rest:List Expr}
def aIr (t u:TT):TT:=λσ H Q=>t σ H λc H1=>if c=true then u σ H1 Q else Q false H1
def tOr (t u:TT):TT:=λσ H Q=>t σ H λc H1=>if c=true then Q true H1 else u σ H1 Q
def xF (t:TT):TT:=λσ H Q=>t σ H λc H1=>Q (!c) H1
theorem aIF (ha:PT X a tA):PW X (.BoolOp .And [a] pos) tA:=by
 intro wh pins s σ H Q I h
 refine isTrue_and (thn (ha pins s σ H Q I h) λc s1 e=>?_)
 cases c with
 |true=>exact isTrue_and_nil e
 |false=>exact e
theorem aLa (ha:PT X a tA):PW X (.BoolOp .Or [a] pos) tA:=by
 intro wh pins s σ H Q I h
 refine isTrue_or (thn (ha pins s σ H Q I h) λc s1 e=>?_)
 cases c with
 |false=>exact isTrue_or_nil e
 |true=>exact e
theorem aLY (ha:PT X a tA)(hb:PW X (.BoolOp .And (b :: rest) pos) tB'):PW X (.BoolOp .And (a :: b :: rest) pos) (aIr tA tB'):=by
 intro wh pins s σ H Q I h
 refine isTrue_and (thn (ha pins s σ H _ I h) λc s1 ⟨H1,I1,q1⟩=>?_)
 cases c with
 |true=>exact hb wh pins s1 σ H1 Q I1 q1
 |false=>exact⟨H1,I1,q1⟩
theorem aNQ (ha:PT X a tA)(hb:PW X (.BoolOp .Or (b :: rest) pos) tB'):PW X (.BoolOp .Or (a :: b :: rest) pos) (tOr tA tB'):=by
 intro wh pins s σ H Q I h
 refine isTrue_or (thn (ha pins s σ H _ I h) λc s1 ⟨H1,I1,q1⟩=>?_)
 cases c with
 |true=>exact⟨H1,I1,q1⟩
 |false=>exact hb wh pins s1 σ H1 Q I1 q1
theorem aLT (ha:PT X a tA):PT X (.UnaryOp .Not a pos) (xF tA):=by
 intro pins s σ H Q I h
 exact isTrue_not (ha pins s σ H (λc H1=>Q (!c) H1) I h)
def aFF (ta tb:TE):TE:=λσ H Q=>ta σ H λx H1=>∃c,x = .bl c/\if c=true then tb σ H1 Q else Q (.bl false) H1
def aNf (ta tb:TE):TE:=λσ H Q=>ta σ H λx H1=>∃c,x = .bl c/\if c=true then Q (.bl true) H1 else tb σ H1 Q
def aII (ta:TE):TE:=λσ H Q=>ta σ H λx H1=>∃c,x = .bl c/\Q (.bl (!c)) H1
theorem aLb (h:PE X a t):PE X (.BoolOp op [a] pos) t:=λpins s σ H Q I hw=>BoolOp_one (h pins s σ H Q I hw)
theorem aLz (ha:PE X a ta)(hb:PE X (.BoolOp .And (b :: rest) pos) tb):PE X (.BoolOp .And (a :: b :: rest) pos) (aFF ta tb):=by
 intro pins s σ H Q I h
 refine BoolOp_and (thn (ha pins s σ H _ I h) λv s1 ⟨x,H1,I1,r1,q1⟩=>?_)
 obtain⟨c,rfl,q1⟩:=q1
 cases r1
 refine ia ?_
 cases c with
 |true=>exact hb pins s1 σ H1 Q I1 q1
 |false=>exact⟨.bl false,H1,I1,rfl,q1⟩
theorem aNy (ha:PE X a ta)(hb:PE X (.BoolOp .Or (b :: rest) pos) tb):PE X (.BoolOp .Or (a :: b :: rest) pos) (aNf ta tb):=by
 intro pins s σ H Q I h
 refine BoolOp_or (thn (ha pins s σ H _ I h) λv s1 ⟨x,H1,I1,r1,q1⟩=>?_)
 obtain⟨c,rfl,q1⟩:=q1
 cases r1
 refine ia ?_
 cases c with
 |false=>exact hb pins s1 σ H1 Q I1 q1
 |true=>exact⟨.bl true,H1,I1,rfl,q1⟩
theorem aMa (ha:PE X a ta):PE X (.UnaryOp .Not a pos) (aII ta):=by
 intro pins s σ H Q I h
 refine UnaryOp_ (thn (ha pins s σ H _ I h) λv s1 ⟨x,H1,I1,r1,q1⟩=>?_)
 obtain⟨c,rfl,q1⟩:=q1
 cases r1
 exact not_of (ia ⟨.bl (!c),H1,I1,rfl,q1⟩)
def tIf (t:TT)(ta tb:TE):TE:=λσ H Q=>t σ H λc H1=>if c=true then ta σ H1 Q else tb σ H1 Q
theorem aAR (hc:PT X c tA)(ha:PE X a ta)(hb:PE X b tb):PE X (.IfExp c a b pos) (tIf tA ta tb):=by
 intro pins s σ H Q I h
 refine wpAny_IfExp (thn (hc pins s σ H _ I h) λd s1 ⟨H1,I1,q1⟩=>?_)
 cases d with
 |true=>exact ha pins s1 σ H1 Q I1 q1
 |false=>exact hb pins s1 σ H1 Q I1 q1
end
def SqL (K:aa)(H:Hp)(a:Addr)(xs:List V):Prop:=
 Rd H a (.lst xs) \/
  ∃(o:Obj) (its:Array Value) (n:Nat),K.lookup a=some o/\o.cls = .type "list"/\o.dict=none/\o.data = .seq its n/\its.size<=bx/\Vals xs its.toList
def SqT (K:aa)(H:Hp)(a:Addr)(xs:List V):Prop:=
 Rd H a (.tup xs) \/
  ∃(o:Obj) (its:Array Value) (n:Nat),K.lookup a=some o/\o.cls = .type "tuple"/\o.dict=none/\o.data = .seq its n/\its.size<=bx/\Vals xs its.toList
def aPt:Value->Option V
 | .none=>some .non
 | .bool b=>some (.bl b)
 | .int i _=>some (.int i)
 | .str x _=>some (.str x)
 | .bytes b _=>some (.byt b)
 | .float b _=>some (.flt b)
 | .ref a=>some (.ref a)
 | .type n=>some (.ty n)
 |_=>none
theorem RelV.abs (r:RelV x u):aPt u=some x:=by
 cases x with
 |non=>cases r;rfl
 |bl _=>cases r;rfl
 |int _=>obtain⟨t,rfl⟩:=r;rfl
 |str _=>obtain⟨t,rfl⟩:=r;rfl
 |byt _=>obtain⟨t,rfl⟩:=r;rfl
 |flt _=>obtain⟨t,rfl⟩:=r;rfl
 |ref _=>cases r;rfl
 |ty _=>cases r;rfl
theorem RelV.inj (r:RelV x u)(q:RelV y u):x=y:=bo (r.abs.symm.trans q.abs)
theorem Vals.inj:∀{xs ys:List V}{us:List Value},Vals xs us->Vals ys us->xs=ys
 |_,_,_, .nil, .nil=>rfl
 |_,_,_, .cons r t, .cons r' t'=>by rw[r.inj r',Vals.inj t t']
theorem SqL.of {H: Hp}{a: Addr}{xs: List V}{K: aa}(h:H a=some (.lst xs)):SqL K H a xs := .inl (.inl h)
theorem SqT.of {H: Hp}{a: Addr}{xs: List V}{K: aa}(h:H a=some (.tup xs)):SqT K H a xs := .inl (.inl h)
theorem Inv.list {pins: List (Addr×Obj)}{σ: St}{H: Hp}{s: Shared}{a: Addr}{xs: List V}(I:Inv X pins σ H s)(h:SqL X.K H a xs):∃its:List Value,Vals xs its/\PlainL s.heap a its.toArray/\xs.length<=bx:=by
 rcases h with h | ⟨o,its,n,hk,hc,hd,hs,hz,r⟩
 ·obtain⟨z,its,n,r,e⟩:=h.ok I.hok
  exact⟨its,r,⟨_,n,e,rfl,rfl,rfl⟩,z⟩
 ·refine⟨its.toList,r,⟨o,n,I.kIn a o hk,hc,hd,by simpa using hs⟩,?_⟩
  have e:=r.length
  simp only[fm] at e
  lia
theorem Inv.tuple {pins: List (Addr×Obj)}{σ: St}{H: Hp}{s: Shared}{a: Addr}{xs: List V}(I:Inv X pins σ H s)(h:SqT X.K H a xs):∃its:List Value,Vals xs its/\IsTup s.heap a its.toArray/\xs.length<=bx:=by
 rcases h with h | ⟨o,its,n,hk,hc,_,hs,hz,r⟩
 ·obtain⟨z,its,r,p⟩:=h.ok I.hok
  exact⟨its,r,p.tup,z⟩
 ·refine⟨its.toList,r,⟨o,I.kIn a o hk,hc,n,by simpa using hs⟩,?_⟩
  have e:=r.length
  simp only[fm] at e
  lia
theorem Inv.list_inj {pins: List (Addr×Obj)}{σ: St}{H: Hp}{s: Shared}{a: Addr}{xs ys: List V}(I:Inv X pins σ H s)(h:SqL X.K H a xs)(h':SqL X.K H a ys):xs=ys:=by
 obtain⟨its,r,⟨o,n,e,_,_,d⟩,_⟩:=I.list h
 obtain⟨its',r',⟨o',n',e',_,_,d'⟩,_⟩:=I.list h'
 rw[e] at e';cases e'
 rw[d] at d'
 injection d' with d1 _
 have:its=its':=by simpa using congrArg Array.toList d1
 subst this
 exact r.inj r'
theorem Inv.tuple_inj {pins: List (Addr×Obj)}{σ: St}{H: Hp}{s: Shared}{a: Addr}{xs ys: List V}(I:Inv X pins σ H s)(h:SqT X.K H a xs)(h':SqT X.K H a ys):xs=ys:=by
 obtain⟨its,r,⟨o,e,_,n,d⟩,_⟩:=I.tuple h
 obtain⟨its',r',⟨o',e',_,n',d'⟩,_⟩:=I.tuple h'
 rw[e] at e';cases e'
 rw[d] at d'
 injection d' with d1 _
 have:its=its':=by simpa using congrArg Array.toList d1
 subst this
 exact r.inj r'
abbrev Cx.wish (X:Cx)(E:Value->Shared->Prop):Cx:={ X with xe:=E }
abbrev Cx.nox (X:Cx):Cx:=X.wish λ_ _=>False
theorem Cx.Ok.wish {X: Cx}(ok:X.Ok)(E:Value->Shared->Prop): (X.wish E).Ok:=
 ⟨ok.mod,ok.kind,ok.glob,ok.blt,ok.above,ok.inj,ok.has,ok.cab,ok.hd,ok.frames,ok.stk,ok.exf,ok.bs,ok.bsz,ok.noex,ok.exfs,ok.funs,ok.frf⟩
theorem Cx.Ok.unwish {X: Cx}{E: Value->Shared->Prop}(ok:(X.wish E).Ok):X.Ok:=
 ⟨ok.mod,ok.kind,ok.glob,ok.blt,ok.above,ok.inj,ok.has,ok.cab,ok.hd,ok.frames,ok.stk,ok.exf,ok.bs,ok.bsz,ok.noex,ok.exfs,ok.funs,ok.frf⟩
theorem Inv.wish {pins: List (Addr×Obj)}{σ: St}{H: Hp}{s: Shared}(I:Inv X pins σ H s)(E:Value->Shared->Prop):Inv (X.wish E) pins σ H s:=⟨I.ok.wish E,I.os,I.bare,I.base,I.loc,I.cell,I.free,I.freeC,I.pin,I.hok,I.len⟩
theorem Inv.unwish {pins: List (Addr×Obj)}{σ: St}{H: Hp}{s: Shared}(I:Inv (X.wish E) pins σ H s):Inv X pins σ H s:=⟨I.ok.unwish,I.os,I.bare,I.base,I.loc,I.cell,I.free,I.freeC,I.pin,I.hok,I.len⟩
theorem SP.unwish (h:SP (X.wish E) pins D f s'):SP X pins D f s':=by
 cases f with
 |next=>obtain⟨σ',H',I,q⟩:=h;exact⟨σ',H',I.unwish,q⟩
 |brk=>obtain⟨σ',H',I,q⟩:=h;exact⟨σ',H',I.unwish,q⟩
 |cont=>obtain⟨σ',H',I,q⟩:=h;exact⟨σ',H',I.unwish,q⟩
 |ret u=>obtain⟨v,σ',H',I,r,q⟩:=h;exact⟨v,σ',H',I.unwish,r,q⟩
theorem PT.nox (h:PT X.nox e t):PT X e t:=λpins s σ H Q I hw=>
 i9 (h pins s σ H Q (I.wish _) hw) (λ_ _ ⟨H',I',q⟩=>⟨H',I'.unwish,q⟩) λ_ _ z=>mj z
theorem PSs.nox {st: List Stmt}{t: TS}(h:PSs X.nox st t):PSs X st t:=λpins s σ H D I hw=>
 i9 (h pins s σ H D (I.wish _) hw) (λ_ _ q=>q.unwish) λ_ _ z=>mj z
def aF:TS:=λD σ H=>D.nx σ H
def aG (t u:TS):TS:=λD σ H=>t { D with nx:=u D } σ H
theorem cK:PSs X [] aF:=λ_ _ σ H _ I h=>yy ⟨σ,H,I,h⟩
theorem aY {st: Stmt}{rest: List Stmt}{t u: TS}(h1:PS X st t)(h2:PSs X rest u):PSs X (st :: rest) (aG t u):=by
 intro pins s σ H D I h
 refine wpAny_execs_cons (thn (h1 pins s σ H { D with nx:=u D } I h) λf s1 q=>?_)
 cases f with
 |next=>
  obtain⟨σ',H',I',q⟩:=q
  exact h2 pins s1 σ' H' D I' q
 |ret v=>exact q
 |brk=>exact q
 |cont=>exact q
theorem Inv.quiet {pins: List (Addr×Obj)}{σ: St}{H: Hp}{s: Shared}(I:Inv X pins σ H s):interactive X.env=false:=by simp[interactive,I.ok.kind]
def iZ (te:TE):TS:=λD σ H=>te σ H λ_ H1=>D.nx σ H1
theorem aAI (he:PE X e te)(hs:AM e none pos.line X.env=pure false:=by rfl):PS X (.Expr e pos) (iZ te):=by
 intro pins s σ H D I h
 exact wpAny_Expr_any (thn (he pins s σ H _ I h) λv s1 ⟨x,H1,I1,r1,q1⟩=>⟨σ,H1,I1,q1⟩) I.quiet hs
def cE (te:TE):TS:=λD σ H=>te σ H D.rt
theorem aBa (he:PE X e te):PS X (.Return (some e) pos) (cE te):=by
 intro pins s σ H D I h
 exact wpAny_Return_some (thn (he pins s σ H _ I h) λv s1 ⟨x,H1,I1,r1,q1⟩=>⟨x,σ,H1,I1,r1,q1⟩)
def cV (c:TT)(t u:TS):TS:=λD σ H=>c σ H λb H1=>if b=true then t D σ H1 else u D σ H1
theorem aGQ (hc:PT X c tc)(ha:PSs X a t)(hb:PSs X b u):PS X (.If c a b pos) (cV tc t u):=by
 intro pins s σ H D I h
 refine wpAny_If (thn (hc pins s σ H _ I h) λd s1 ⟨H1,I1,q1⟩=>?_)
 cases d with
 |true=>exact ha pins s1 σ H1 D I1 q1
 |false=>exact hb pins s1 σ H1 D I1 q1
abbrev TG:= V->St->Hp->(St->Hp->Prop)->Prop
abbrev TGs:= List V->St->Hp->(St->Hp->Prop)->Prop
def PG (X:Cx)(target:Expr)(t:TG):Prop:=
 ∀(pins:List (Addr×Obj)) (s:Shared) (σ:St) (H:Hp) (v:V) (u:Value) (Q:St->Hp->Prop),Inv X pins σ H s->RelV v u->t v σ H Q ->
  wpAny (model X.prog X.w) X.A (Bi target X.env u) (λ_ s'=>∃σ' H',Inv X pins σ' H' s'/\Q σ' H') X.xe s
def PGs (X:Cx)(ts:List Expr)(t:TGs):Prop:=
 ∀(pins:List (Addr×Obj)) (s:Shared) (σ:St) (H:Hp) (vs:List V) (us:List Value) (Q:St->Hp->Prop),Inv X pins σ H s->Vals vs us->t vs σ H Q ->
  wpAny (model X.prog X.w) X.A (AN ((su ts X.env).map (·.2)) us) (λ_ s'=>∃σ' H',Inv X pins σ' H' s'/\Q σ' H') X.xe s
abbrev aPa:= V->V->V->Hp->(Hp->Prop)->Prop
def aOD (X:Cx)(t:aPa):Prop:=
 ∀(pins:List (Addr×Obj)) (s:Shared) (σ:St) (H:Hp) (o i v:V) (ov iv u:Value) (Q:Hp->Prop),Inv X pins σ H s->RelV o ov->RelV i iv->RelV v u->t o i v H Q ->
  wpAny (model X.prog X.w) X.A (setItem ov iv u) (λ_ s'=>∃H',Inv X pins σ H' s'/\Q H') X.xe s
def aE (i:Nat):TG:=λv σ H Q=>Q (σ.set i (some v)) H
theorem bU (hN:X.N.Nodup)(hi:X.N[i]?=some x)(hx:Loc X.env.scope x)(hf:X.fn x=true\/X.env.scope.names.lookup x=some .local:=by first | exact .inl rfl | exact .inr rfl | assumption):PG X (.Name x pos) (aE i):=by
 intro pins s σ H v u Q I r h
 exact wpAny_assign_Name (nD I hN hi hx r (λs' I'=>⟨_,H,I',h⟩) hf)
def gX:TGs:=λvs σ H Q=>vs=[]/\Q σ H
def aR (t:TG)(u:TGs):TGs:=λvs σ H Q=>∃v r,vs=v :: r/\t v σ H λσ' H'=>u r σ' H' Q
theorem kF:PGs X [] gX:=by
 intro pins s σ H vs us Q I r h
 obtain⟨e,h⟩:=h
 subst e
 cases r
 exact assignInOrder_nil ⟨σ,H,I,h⟩
theorem cA (h1:PG X e t)(h2:PGs X es u)(hs:(su (e :: es) X.env).map (·.2)=Bi e X.env :: (su es X.env).map (·.2):=by rfl):PGs X (e :: es) (aR t u):=by
 intro pins s σ H vs us Q I r h
 obtain⟨v,vr,e1,h⟩:=h
 subst e1
 cases r with
 |cons r rr=>
  rw[hs]
  refine wd (thn (h1 pins s σ H _ _ _ I r h) λ_ s1 ⟨σ1,H1,I1,q1⟩=>?_)
  exact h2 pins s1 σ1 H1 _ _ Q I1 rr q1
def gE (K:aa)(n:Nat)(t:TGs):TG:=λv σ H Q=>∃a xs,v = .ref a/\SqT K H a xs/\xs.length=n/\t xs σ H Q
theorem aKC {pos: Pos}{es: List Expr}{k: Nat}{t: TGs}{n: Nat}(hc:X.calm=true)(h:PGs X es t)(hn:(su es X.env).length=n:=by rfl)(hst:(su es X.env).findIdx? (·.1)=none:=by rfl):PG X (.Tuple es k pos) (gE X.K n t):=by
 intro pins s σ H v u Q I r hw
 obtain⟨a,xs,e1,hq,hl,hw⟩:=hw
 subst e1
 cases r
 obtain⟨its,rv,ht,hz⟩:=I.tuple hq
 refine assign_Tuple_tuple (I.ok.hd hc) ht (by simp[hn,<- hl,rv.length]) hst λh' hx=>?_
 have I1:Inv X pins σ H { s with heap:=h' }:=I.kept (t':=s.toks) λb o e=>hx b o (dt (bu e)) e
 exact h pins _ σ H xs _ Q I1 (by simpa using rv) hw
def jZ (to ti:TE)(t:aPa):TG:=λv σ H Q=>to σ H λo H1=>ti σ H1 λi H2=>t o i v H2 λH3=>Q σ H3
theorem aIb (ho:PE X o to)(hi:PE X i ti)(hs:aOD X t)(ha:∀v,Bi (.Subscript o i pos) X.env v=(do
   let ov <- yx [v] (eval o X.env)
   let iv <- yx [v,ov] (eval i X.env)
   Aw pos
   yx [v,ov,iv] (setItem ov iv v)
   release [v,ov,iv] []):=by intro _;rfl):PG X (.Subscript o i pos) (jZ to ti t):=by
 intro pins s σ H v u Q I r h
 rw[ha]
 refine af (gj (thn (ho pins s σ H _ I h) λov s1 ⟨x,H1,I1,r1,q1⟩=>?_))
 refine af (gj (thn (hi pins s1 σ H1 _ I1 q1) λiv s2 ⟨y,H2,I2,r2,q2⟩=>?_))
 refine af (rh (af (gj (thn (hs pins s2 σ H2 x y v ov iv u _ I2 r1 r2 r q2) λ_ s3 ⟨H3,I3,q3⟩=>?_))))
 exact wpAny_release ⟨σ,H3,I3,q3⟩
def aQ (te:TE)(g:TG):TS:=λD σ H=>te σ H λx H1=>g x σ H1 D.nx
theorem aEM {pos: Pos}{tg e: Expr}{te: TE}{g: TG}(he:PE X e te)(hg:PG X tg g)(hs:swapsWithSole [tg] e pos.line X.env=pure false:=by rfl)(hw:swappedStores [tg] e X.env=pure none:=by rfl)(h1:(su [tg] X.env).map (·.2)=[Bi tg X.env]:=by rfl):PS X (.Assign [tg] e pos) (aQ te g):=by
 intro pins s σ H D I h
 refine wpAny_Assign_stores (thn (he pins s σ H _ I h) λv s1 ⟨x,H1,I1,r1,q1⟩=>?_) hs hw
 rw[h1]
 exact thn (hg pins s1 σ H1 x v _ I1 r1 q1) λ_ s2 q=>q
theorem pH {pos: Pos}{i: Nat}{x: Str}{e: Expr}{te: TE}{pos': Pos}(hN:X.N.Nodup)(hi:X.N[i]?=some x)(hx:Loc X.env.scope x)(he:PE X e te)(hs:AM e (some (.Name x pos')) pos.line X.env=pure false:=by rfl)(hf:X.fn x=true\/X.env.scope.names.lookup x=some .local:=by first | exact .inl rfl | exact .inr rfl | assumption):
  PS X (.Assign [.Name x pos'] e pos) (aQ te (aE i)):=by
 intro pins s σ H D I h
 refine wpAny_Assign_Name (thn (he pins s σ H _ I h) λv s1 ⟨y,H1,I1,r1,q1⟩=>?_) hs
 exact nD I1 hN hi hx r1 (λs2 I2=>⟨_,H1,I2,q1⟩) hf
def aMX (i j:Nat)(ta:TA):TS:=λD σ H=>ta σ H λvs H1=>∃v w,vs=[v,w]/\D.nx ((σ.set i (some v)).set j (some w)) H1
theorem aLZ (hc:X.calm=true)(hN:X.N.Nodup)(hi:X.N[i]?=some x)(hj:X.N[j]?=some y)(hij:i≠j)(hx:X.env.scope.names.lookup x=some .local)(hy:X.env.scope.names.lookup y=some .local)(ha:PA X [a,b] ta)(hw:swappedStores [.Tuple [.Name x px, .Name y py] kt pt] (.Tuple [a,b] k2 pt2) X.env=pure (some [x,y]))(hs:swapsWithSole [.Tuple [.Name x px, .Name y py] kt pt] (.Tuple [a,b] k2 pt2) pos.line X.env=pure false:=by rfl):
  PS X (.Assign [.Tuple [.Name x px, .Name y py] kt pt] (.Tuple [a,b] k2 pt2) pos) (aMX i j ta):=by
 intro pins s σ H D I h
 rw[exec_Assign_arm]
 refine af (rh ?_)
 rw[hs]
 refine af (aq ?_)
 rw[if_neg (by decide)]
 refine af (Tuple_ (thn (ha _ pins s σ H _ I h) λus s1 ⟨vs,H1,I1,r1,q1⟩=>?_))
 obtain⟨v,w,e1,q1⟩:=q1
 subst e1
 obtain⟨u1,u2,rfl,rv,rw'⟩:∃u1 u2,us=[u1,u2]/\RelV v u1/\RelV w u2:=by
  cases r1 with
  |cons p q=>
   cases q with
   |cons p' q'=>
    cases q'
    exact⟨_,_,rfl,p,p'⟩
 refine gn ?_ (by show 2<=bx;decide)
 have I2:Inv X pins σ H1 { s1 with heap:=s1.heap.push { cls := .type "tuple",data := .seq [u1,u2].toArray } }:=I1.kept (t':=s1.toks) λb o e=>ak _ e
 rw[hw]
 refine af (aq ?_)
 show wpAny (model X.prog X.w) X.A (do rule "assign.swapped-stores";let items <- unpackItems (.ref s1.heap.objs.size) 2 none;AN [λv=>bindName X.env y v,λv=>bindName X.env x v] items.reverse;pure Flow.next) _ _ _
 refine af (u5 (af (unpackItems_tuple (items:=#[u1,u2]) (I.ok.hd hc) (IsTup.new s1.heap _) λh' hx'=>?_)))
 have I3:=I2.kept (h':=h') (t':=s1.toks) λb o e=>hx' b o (dt (bu e)) e
 show wpAny _ _ (AN [λv=>bindName X.env y v,λv=>bindName X.env x v] [u2,u1] >>= λ_=>pure Flow.next) _ _ _
 refine af (wd (wpAny_bindName (nD I3 hN hj (.inl hy) rw' (λs2 I4=>?_) (.inr hy))))
 refine wd (wpAny_bindName (nD I4 hN hi (.inl hx) rv (λs3 I5=>assignInOrder_nil (aq ?_)) (.inr hx)))
 rw[List.set_comm _ _ (gy hij)] at I5
 exact⟨_,H1,I5,q1⟩
def oI (c:TT)(tb:TS):TS:=λD σ H=>∃W:Nat->St->Hp->Prop,(∃m,W m σ H)/\∀m σ H,W m σ H ->
 c σ H λb H1=>if b=true then ∃N:St->Hp->Prop,(∀σ' H',N σ' H'->∃m',m'<m/\W m' σ' H')/\tb { D with nx:=N,ct:=N,bk:=D.nx } σ H1 else D.nx σ H1
theorem aBB (hp:PassesOwn (model X.prog X.w) X.A X.env X.xe)(hc:PT X c tc)(hb:PSs X body tb):PS X (.While c body [] pos) (oI tc tb):=by
 intro pins s σ H D I h
 obtain⟨W,⟨m0,w0⟩,turn⟩:=h
 refine wpAny_While (codeAny_whileLoop (λn s'=>∃σ' H',Inv X pins σ' H' s'/\W n σ' H') ?_ m0 ⟨σ,H,I,w0⟩)
 rintro n s1 ⟨σ1,H1,I1,w1⟩
 refine mn hp (thn (hc pins s1 σ1 H1 _ I1 (turn n σ1 H1 w1)) λb s2 ⟨H2,I2,q2⟩=>?_)
 cases b with
 |true=>
  obtain⟨N,hN,q2⟩:=q2
  rw[if_pos rfl]
  refine mn hp (thn (hb pins s2 σ1 H2 _ I2 q2) λf s3 q3=>?_)
  cases f with
  |next=>
   obtain⟨σ3,H3,I3,n3⟩:=q3
   obtain⟨m',hm,w3⟩:=hN σ3 H3 n3
   exact⟨m',hm,σ3,H3,I3,w3⟩
  |cont=>
   obtain⟨σ3,H3,I3,n3⟩:=q3
   obtain⟨m',hm,w3⟩:=hN σ3 H3 n3
   exact⟨m',hm,σ3,H3,I3,w3⟩
  |brk=>exact q3
  |ret v=>exact q3
 |false=>
  rw[if_neg cy]
  exact yy ⟨σ1,H2,I2,q2⟩
structure It where
 go:Nat->Hp->Prop
 yld:Nat->Hp->V->Hp->Prop
 stop:Nat->Hp->Prop
def zI (X:Cx)(pins:List (Addr×Obj))(H:Hp)(b:Addr):Prop:=
 H b=none/\b≠X.env.locals/\b∉X.fs/\(b∈X.ex\/X.s₀.heap.objs.size<=b)/\(∀x c,X.env.cells.lookup x=some c->c≠b)/\∀p∈X.pn++pins,p.1≠b
theorem Inv.fpOk {pins: List (Addr×Obj)}{σ: St}{H H': Hp}{s: Shared}{b: Addr}(I:Inv X pins σ H s)(hb:s.heap.objs.size<=b)(hn:H' b=none):zI X pins H' b:=by
 refine⟨hn,kr (cg I.lt hb),I.nofs hb, .inr (de I.sz hb),λx c e z=>?_,λp hp z=>?_⟩
 ·obtain⟨v,q⟩:=I.cell x c e
  exact absurd (cg q.lt (by rw[z];exact hb)) (kn _)
 ·exact absurd (cg (bu (I.pin p hp).1) (by rw[z];exact hb)) (kn _)
structure aIp (P:Program)(w:World)(K:aa)(tg:Expr)(J:It)(fp:List Addr)(it:Addr)(tn:Nat->Heap->Prop):Prop where
 mem:it∈fp
 obj:∀i h,tn i h->∀b∈fp,∃o,h.get? b=some o/\∀v,o.data ≠ .cell v
 keep:∀i h h',tn i h->(∀b∈fp,∀o,h.get? b=some o->h'.get? b=some o)->tn i h'
 item:∀(X:Cx),X.prog=P->X.w=w->X.K=K->X.calm=true->∀(i:Nat) (pins:List (Addr×Obj)) (s:Shared) (σ:St) (H:Hp) (E:Value->Shared->Prop),Inv X pins σ H s->(∀b∈fp,zI X pins H b)->tn i s.heap->J.go i H ->
  wpAny (model P w) X.A (u9 (.ref it)) (λr s1=>∃u,r=some u /\
   wpAny (model P w) X.A (vb tg (.ref it) u) (λ_ s2=>∃x H',Inv X pins σ H' s2/\RelV x u/\J.yld i H x H'/\tn (i+1) s2.heap/\∀b∈fp,H' b=none) E s1) E s
 done:∀(X:Cx),X.prog=P->X.w=w->X.K=K->X.calm=true->∀(i:Nat) (pins:List (Addr×Obj)) (s:Shared) (σ:St) (H:Hp) (E:Value->Shared->Prop),Inv X pins σ H s->(∀b∈fp,zI X pins H b)->tn i s.heap->J.stop i H ->
  wpAny (model P w) X.A (u9 (.ref it)) (λr s1=>r=none/\Inv X pins σ H s1) E s
 self:∀(A:Around) (i:Nat) (s:Shared) (Q:Value->Shared->Prop) (E:Value->Shared->Prop),tn i s.heap->Q (.ref it) s->wpAny (model P w) A (Bj (.ref it)) Q E s
abbrev TI:= St->Hp->(It->Hp->Prop)->Prop
def PIE (X:Cx)(pins:List (Addr×Obj))(σ:St)(tg:Expr)(R:It->Hp->Prop)(itv:Value)(s2:Shared):Prop:=
 ∃(it:Addr) (fp:List Addr) (tn:Nat->Heap->Prop) (J:It) (H':Hp),itv = .ref it/\Inv X pins σ H' s2/\aIp X.prog X.w X.K tg J fp it tn/\tn 0 s2.heap/\(∀b∈fp,zI X pins H' b)/\R J H'
def PI (X:Cx)(tg iter:Expr)(wi:TI):Prop:=
 ∀(pins:List (Addr×Obj)) (s:Shared) (σ:St) (H:Hp) (R:It->Hp->Prop),Inv X pins σ H s->wi σ H R ->
  wpAny (model X.prog X.w) X.A (eval iter X.env) (λv s1=>wpAny (model X.prog X.w) X.A (Bj v) (PIE X pins σ tg R) X.xe s1) X.xe s
theorem aIO (ho : s.heap.get? it = some o)(hc : o.cls = .type n)(hd : o.data = .fields vs)(hn : ["enumerate", "zip", "dict_itemiterator", "dict_reverseitemiterator", "odict_iterator", "itertools.zip_longest", "itertools.pairwise"].contains n = false)(hQ : Q () s):wpAny M A (vb tg (.ref it) u) Q E s := by
  unfold vb
  cases tg <;> first
    |exact aq hQ
    | (cases u <;> first
        |exact aq hQ
        | (refine af (wpAny_load ho ?_)
           rw[hc, hd]
           show wpAny M A (if(["enumerate", "zip", "dict_itemiterator", "dict_reverseitemiterator", "odict_iterator", "itertools.zip_longest", "itertools.pairwise"].contains n && vs[0]? == some (me _)) = true then _ else _) Q E s
           rw[if_neg (by intro h; rw[hn, wx] at h; cases h)]
           exact aq hQ))
def Itl (K:aa)(a:Addr):It:=
 ⟨λi H=>∃xs x,SqL K H a xs/\xs[i]?=some x,λi H x H'=>H'=H/\∀xs,SqL K H a xs->xs[i]?=some x,λi H=>∃xs,SqL K H a xs/\xs.length<=i⟩
def Itt (K:aa)(a:Addr):It:=
 ⟨λi H=>∃xs x,SqT K H a xs/\xs[i]?=some x,λi H x H'=>H'=H/\∀xs,SqT K H a xs->xs[i]?=some x,λi H=>∃xs,SqT K H a xs/\xs.length<=i⟩
def Itr (lo:Int)(n:Nat):It:=⟨λi _=>i<n,λi H x H'=>H'=H/\x = .int (lo+i),λi _=>n<=i⟩
theorem aEe {K: aa}{tg: Expr}(a it:Addr):aIp P w K tg (Itl K a) [it] it (λi h=>h.IsListIter it a i) where
 mem:=by simp
 obj:=λi h st b hb=>by
  have e:b=it:=by simpa using hb
  subst e
  obtain⟨o,e,c,d⟩:=st
  exact⟨o,e,λv z=>by rw[d] at z;cases z⟩
 keep:=λi h h' st k=>st.at λo e=>k it (by simp) o e
 item:=by
  intro X hP hw hK hc i pins s σ H E I hf st hg
  subst hP hw hK
  obtain⟨xs,x,hq,hx⟩:=hg
  obtain⟨its,rv,p,hz⟩:=I.list hq
  obtain⟨u,hu,ru⟩:=rv.get hx
  obtain⟨f0,f1,f2,f3,f4,f5⟩:=hf it (by simp)
  refine wpAny_pyNext_list_item st p.isList (x:=u) (by simpa using hu) λh' st' sb=>?_
  have I1:Inv X pins σ H { s with heap:=h' }:=I.turned (t':=s.toks) (λb o hb e=>(sb.2 b hb).trans e) f0 f1 f3 f4 f5
  obtain⟨o,e,c,d⟩:=id st'
  exact⟨u,rfl,aIO (s:={ s with heap:=h' }) e c d (by decide) ⟨x,H,I1,ru,⟨rfl,λys hy=>by rw[I.list_inj hy hq];exact hx⟩,st',λb hb=>(hf b hb).1⟩⟩
 done:=by
  intro X hP hw hK hc i pins s σ H E I hf st hg
  subst hP hw hK
  obtain⟨xs,hq,hx⟩:=hg
  obtain⟨its,rv,p,hz⟩:=I.list hq
  obtain⟨f0,f1,f2,f3,f4,f5⟩:=hf it (by simp)
  have hl:=rv.length
  exact wpAny_pyNext_list_end (I.ok.hd hc) st p.isList (by simp;lia) λh' eb=>⟨rfl,I.turned (t':=s.toks) (λb o hb e=>eb b o hb e) f0 f1 f3 f4 f5⟩
 self:=λ_ _ _ _ _ st h=>wpAny_pyIter_listiter st h
theorem aCr {K: aa}{tg: Expr}(a it:Addr):aIp P w K tg (Itt K a) [it] it (λi h=>h.IsTupleIter it a i) where
 mem:=by simp
 obj:=λi h st b hb=>by
  have e:b=it:=by simpa using hb
  subst e
  obtain⟨o,e,c,d⟩:=st
  exact⟨o,e,λv z=>by rw[d] at z;cases z⟩
 keep:=λi h h' st k=>st.at λo e=>k it (by simp) o e
 item:=by
  intro X hP hw hK hc i pins s σ H E I hf st hg
  subst hP hw hK
  obtain⟨xs,x,hq,hx⟩:=hg
  obtain⟨its,rv,p,hz⟩:=I.tuple hq
  obtain⟨u,hu,ru⟩:=rv.get hx
  obtain⟨f0,f1,f2,f3,f4,f5⟩:=hf it (by simp)
  refine ya st (show s.heap.IsTuple a its.toArray from p) (x:=u) (by simpa using hu) λh' st' sb=>?_
  have I1:Inv X pins σ H { s with heap:=h' }:=I.turned (t':=s.toks) (λb o hb e=>(sb.2 b hb).trans e) f0 f1 f3 f4 f5
  obtain⟨o,e,c,d⟩:=id st'
  exact⟨u,rfl,aIO (s:={ s with heap:=h' }) e c d (by decide) ⟨x,H,I1,ru,⟨rfl,λys hy=>by rw[I.tuple_inj hy hq];exact hx⟩,st',λb hb=>(hf b hb).1⟩⟩
 done:=by
  intro X hP hw hK hc i pins s σ H E I hf st hg
  subst hP hw hK
  obtain⟨xs,hq,hx⟩:=hg
  obtain⟨its,rv,p,hz⟩:=I.tuple hq
  obtain⟨f0,f1,f2,f3,f4,f5⟩:=hf it (by simp)
  have hl:=rv.length
  exact yq (I.ok.hd hc) st (show s.heap.IsTuple a its.toArray from p) (by simp;lia) λh' eb=>⟨rfl,I.turned (t':=s.toks) (λb o hb e=>eb b o hb e) f0 f1 f3 f4 f5⟩
 self:=λ_ _ _ _ _ st h=>yr st h
theorem aBX {K: aa}{tg: Expr}(it:Addr)(lo:Int)(n:Nat):aIp P w K tg (Itr lo n) [it] it (λi h=>IsRangeIter h it (lo+(i:Nat)*1) ((n:Int) - (i:Nat)) 1) where
 mem:=by simp
 obj:=λi h st b hb=>by
  have e:b=it:=by simpa using hb
  subst e
  exact⟨_,st,λv z=>by
   have z':Data.fields _=Data.cell v:=z
   cases z'⟩
 keep:=λi h h' st k=>k it (by simp) _ st
 item:=by
  intro X hP hw hK hc i pins s σ H E I hf st hg
  subst hP hw hK
  obtain⟨f0,f1,f2,f3,f4,f5⟩:=hf it (by simp)
  have W:=Walks.range (prog:=X.prog) (w:=X.w) (I.ok.hd hc) it lo 1 n
  refine W.item i s _ _ hg st λv h' tk hv st' kk=>?_
  obtain⟨t,rfl⟩:=hv
  have I1:Inv X pins σ H { s with heap:=h',toks:=tk }:=I.turned (λb o hb e=>kk b o (by simpa using hb) e) f0 f1 f3 f4 f5
  refine⟨_,rfl,aIO (s:={ s with heap:=h',toks:=tk }) (n:="range_iterator") st' rfl rfl (by decide) ⟨.int (lo+i),H,I1,⟨t,?_⟩,⟨rfl,rfl⟩,st',λb hb=>(hf b hb).1⟩⟩
  rw[jc]
 done:=by
  intro X hP hw hK hc i pins s σ H E I hf st hg
  subst hP hw hK
  obtain⟨f0,f1,f2,f3,f4,f5⟩:=hf it (by simp)
  exact wpAny_pyNext_range_end (I.ok.hd hc) st (by have:n<=i:=hg;lia) λh' eb=>⟨rfl,I.turned (t':=s.toks) (λb o hb e=>eb b o hb e) f0 f1 f3 f4 f5⟩
 self:=λ_ _ _ _ _ st h=>wpAny_pyIter_rangeiter st h
theorem aBu {tg: Expr}{pins: List (Addr×Obj)}{σ: St}{H: Hp}{s: Shared}{R: It->Hp->Prop}{lo hi: Int}{t u v: Tok}{tk: Nat}(I:Inv X pins σ H s)(h1:-(2 ^ 62)<=lo)(h2:lo<2 ^ 62)(h3:-(2 ^ 62)<=hi)(h4:hi<2 ^ 62)(q:R (Itr lo (hi - lo).toNat) H):wpAny (model X.prog X.w) X.A (Bj (.ref s.heap.objs.size)) (PIE X pins σ tg R) E { s with heap:=s.heap.push { cls := .type "range",data := .fields #[.int lo t, .int hi u, .int 1 v] },toks:=tk }:=by
 refine wpAny_pyIter_range (IsRange.new ..) (small_one h1 h2 h3 h4) ?_
 have I1:Inv X pins σ H { s with heap:=s.heap.push { cls := .type "range",data := .fields #[.int lo t, .int hi u, .int 1 v] },toks:=tk }:=I.kept λb o e=>ak _ e
 refine⟨(s.heap.push { cls := .type "range",data := .fields #[.int lo t, .int hi u, .int 1 v] }).objs.size,[(s.heap.push { cls := .type "range",data := .fields #[.int lo t, .int hi u, .int 1 v] }).objs.size],_,_,H,rfl,
  I1.kept (t':=tk) λb o e=>ak _ e,aBX _ lo (hi - lo).toNat,?_,λb hb=>?_,q⟩
 ·have e1:lo+((0:Nat):Int)*1=lo:=by simp
  have e2:(((hi - lo).toNat:Nat):Int) - ((0:Nat):Int)=Builtin.Range.rangeSize lo hi 1:=by rw[rangeSize_one];split <;> lia
  show IsRangeIter _ _ (lo+((0:Nat):Int)*1) ((((hi - lo).toNat:Nat):Int) - ((0:Nat):Int)) 1
  rw[e1,e2]
  exact bp _ rfl
 ·have e:b=(s.heap.push { cls := .type "range",data := .fields #[.int lo t, .int hi u, .int 1 v] }).objs.size:=by simpa using hb
  subst e
  exact I1.fpOk (bc _) (I1.hok.fresh (bc _))
def eZ (ta:TA):TI:=λσ H R=>ta σ H λvs H1=>∃j:Int,vs=[.int j]/\-(2 ^ 62)<=j/\j<2 ^ 62/\R (Itr 0 j.toNat) H1
def aCw (ta:TA):TI:=λσ H R=>ta σ H λvs H1=>∃i j:Int,vs=[.int i, .int j]/\(-(2 ^ 62)<=i/\i<2 ^ 62/\-(2 ^ 62)<=j/\j<2 ^ 62)/\R (Itr i (j - i).toNat) H1
theorem qU (hg:Gl X "range")(hm:X.mg "range" = none)(ha:PA X [a] ta)(hs:ft [a] X.env=[(false,eval a X.env)]:=by rfl):PI X tg (.Call (.Name "range" p) [a] [] pos) (eZ ta):=by
 intro pins s σ H R I h
 refine Call_ (oN I hg hm boot_range (j4 (thn (ha pos pins s σ H _ I h) λus s1 ⟨vs,H1,I1,r1,q1⟩=>?_) hs rfl))
 obtain⟨j,e,q1,q2,q⟩:=q1
 subst e
 cases r1 with
 |cons r rr=>
  cases rr
  obtain⟨t,rfl⟩:=r
  exact call_range_1 (aBu I1 (by lia) (by lia) q1 q2 (by simpa using q))
theorem aEE {tg: Expr}{a b: Expr}{ta: TA}{p pos: Pos}(hg:Gl X "range")(hm:X.mg "range" = none)(ha:PA X [a,b] ta)(hs:ft [a,b] X.env=[(false,eval a X.env),(false,eval b X.env)]:=by rfl)(hs2:ft [b] X.env=[(false,eval b X.env)]:=by rfl):
  PI X tg (.Call (.Name "range" p) [a,b] [] pos) (aCw ta):=by
 intro pins s σ H R I h
 refine Call_ (oN I hg hm boot_range (j4 (thn (ha pos pins s σ H _ I h) λus s1 ⟨vs,H1,I1,r1,q1⟩=>?_) (by rw[hs,hs2]) (by rw[hs2];rfl)))
 obtain⟨i,j,e,⟨q1,q2,q3,q4⟩,q⟩:=q1
 subst e
 cases r1 with
 |cons r rr=>
  cases rr with
  |cons r' rr=>
   cases rr
   obtain⟨t,rfl⟩:=r
   obtain⟨t',rfl⟩:=r'
   exact call_range_2 (aBu I1 q1 q2 q3 q4 q)
def gQ (wi:TI)(g:TG)(tb:TS):TS:=λD σ H=>wi σ H λJ H1=>∃W:Nat->Nat->St->Hp->Prop,(∃m,W 0 m σ H1)/\∀i m σ H,W i m σ H ->
 (J.stop i H/\D.nx σ H)\/(J.go i H/\∃N:St->Hp->Prop,(∀σ' H',N σ' H'->∃m',m'<m/\W (i+1) m' σ' H')/\∀x H',J.yld i H x H'->g x σ H' λσ2 H2=>tb { D with nx:=N,ct:=N,bk:=D.nx } σ2 H2)
def wP (fp:List Addr)(h:Heap):List (Addr×Obj):=fp.filterMap λb=>(h.get? b).map λo=>(b,o)
theorem gR (hb:b∈fp)(e:h.get? b=some o): (b,o)∈wP fp h:=rj.mpr ⟨b,hb,by rw[e];rfl⟩
theorem aEu (hp:p∈wP fp h):p.1∈fp/\h.get? p.1=some p.2:=by
 obtain⟨b,hb,e⟩:=rj.mp hp
 cases q:h.get? b with
 |none=>rw[q] at e;cases e
 |some o=>
  rw[q] at e
  have e':(b,o)=p:=bo e
  subst e'
  exact⟨hb,q⟩
theorem Inv.pinned {pins: List (Addr×Obj)}{σ: St}{H: Hp}{s: Shared}{fp: List Addr}(I:Inv X pins σ H s)(hf:∀b∈fp,zI X pins H b)(ho:∀b∈fp,∃o,s.heap.get? b=some o/\∀v,o.data ≠ .cell v):Inv X (pins++wP fp s.heap) σ H s:=
 I.pins_of λp hp=>(di.mp hp).elim (λz=>I.pin p (df _ z)) λz=>by
  obtain⟨hb,e⟩:=aEu z
  obtain⟨f0,f1,f2,_⟩:=hf p.1 hb
  obtain⟨o,e',d⟩:=ho p.1 hb
  rw[e] at e';cases e'
  exact⟨e,f0,f1,f2,d⟩
theorem Inv.unpinned {pins pl: List (Addr×Obj)}{σ: St}{H: Hp}{s: Shared}(I:Inv X (pins++pl) σ H s):Inv X pins σ H s:=I.pins_of λp hp=>I.pin p (df _ (fe _ hp))
theorem aBd (hp:PassesOwn (model X.prog X.w) X.A X.env X.xe)(hc:X.calm=true)(hi:PI X tg iter wi)(hg:PG X tg g)(hb:PSs X body tb)(hs:∀x,kx iter X.env x=pure x:=by intro _;rfl):PS X (.For tg iter body [] pos) (gQ wi g tb):=by
 intro pins s σ H D I h
 refine wpAny_For (thn (hi pins s σ H _ I h) λv s1 h1=>thn h1 λitv s2 h2=>?_) hs
 obtain⟨it,fp,tn,J,H2,e,I2,T,st2,f2,W,⟨m0,w0⟩,turn⟩:=h2
 subst e
 have stat:∀{H':Hp},(∀b∈fp,H' b=none)->∀b∈fp,zI X pins H' b:=λhn b hb=>⟨hn b hb,(f2 b hb).2⟩
 refine codeAny_forLoop_any (λn s'=>∃i σ' H',Inv X pins σ' H' s'/\tn i s'.heap/\(∀b∈fp,H' b=none)/\W i n σ' H') ?_ m0 ⟨0,σ,H2,I2,st2,λb hb=>(f2 b hb).1,w0⟩
 rintro n s3 ⟨i,σ3,H3,I3,st3,fr3,w3⟩
 rcases turn i n σ3 H3 w3 with⟨stop,qn⟩ | ⟨go,N,hN,step⟩
 ·refine mn hp (thn (T.done X rfl rfl rfl hc i pins s3 σ3 H3 X.xe I3 (stat fr3) st3 stop) λr s4 ⟨hr,I4⟩=>?_)
  subst hr
  exact yy ⟨σ3,H3,I4,qn⟩
 ·refine mn hp (thn (T.item X rfl rfl rfl hc i pins s3 σ3 H3 X.xe I3 (stat fr3) st3 go) λr s4 ⟨u,hr,h4⟩=>?_)
  subst hr
  refine mn hp (thn h4 λ_ s5 ⟨x,H5,I5,r5,y5,st5,fr5⟩=>?_)
  have I5':=I5.pinned (stat fr5) (T.obj _ _ st5)
  refine mn hp (thn (hg _ s5 σ3 H5 x u _ I5' r5 (step x H5 y5)) λ_ s6 ⟨σ6,H6,I6,q6⟩=>?_)
  refine mn hp (thn (hb _ s6 σ6 H6 _ I6 q6) λf s7 q7=>?_)
  have again:∀{σ7:St}{H7:Hp},Inv X (pins++wP fp s5.heap) σ7 H7 s7->N σ7 H7->∃m,m<n/\∃i σ' H',Inv X pins σ' H' s7/\tn i s7.heap/\(∀b∈fp,H' b=none)/\W i m σ' H':=λ{σ7 H7} I7 n7=>by
   obtain⟨m',hm,w7⟩:=hN σ7 H7 n7
   refine⟨m',hm,i+1,σ7,H7,I7.unpinned,T.keep _ _ _ st5 λb hb o e=>(I7.pin (b,o) (df _ (df _ (gR hb e)))).1,λb hb=>?_,w7⟩
   obtain⟨o,e,d⟩:=T.obj _ _ st5 b hb
   exact(I7.pin (b,o) (df _ (df _ (gR hb e)))).2.1
  cases f with
  |next=>obtain⟨σ7,H7,I7,n7⟩:=q7;exact again I7 n7
  |cont=>obtain⟨σ7,H7,I7,n7⟩:=q7;exact again I7 n7
  |brk=>obtain⟨σ7,H7,I7,q7⟩:=q7;exact⟨σ7,H7,I7.unpinned,q7⟩
  |ret v=>obtain⟨x7,σ7,H7,I7,r7,q7⟩:=q7;exact⟨x7,σ7,H7,I7.unpinned,r7,q7⟩
theorem aS {K: aa}{a: Addr}{xs: List V}{g: TG}{tb: TS}{D: vS}{σ: St}{H: Hp}(Pv:Nat->St->Hp->Prop)(h0:Pv 0 σ H)(hl:∀i σ H,i<=xs.length->Pv i σ H->SqL K H a xs)(hs:∀i x σ H,xs[i]?=some x->Pv i σ H->g x σ H λσ2 H2=>tb { D with nx:=Pv (i+1),ct:=Pv (i+1),bk:=D.nx } σ2 H2)(hd:∀σ H,Pv xs.length σ H->D.nx σ H):
  ∃W:Nat->Nat->St->Hp->Prop,(∃m,W 0 m σ H)/\∀i m σ H,W i m σ H ->
   ((Itl K a).stop i H/\D.nx σ H)\/((Itl K a).go i H/\∃N:St->Hp->Prop,(∀σ' H',N σ' H'->∃m',m'<m/\W (i+1) m' σ' H')/\∀x H',(Itl K a).yld i H x H'->g x σ H' λσ2 H2=>tb { D with nx:=N,ct:=N,bk:=D.nx } σ2 H2):=by
 refine⟨λi m σ H=>m=xs.length - i/\i<=xs.length/\Pv i σ H,⟨xs.length,by simp,bg _,h0⟩,?_⟩
 rintro i m σ H ⟨rfl,hi,p⟩
 have q:=hl i σ H hi p
 by_cases hlt:i<xs.length
 ·refine .inr ⟨⟨xs,xs[i],q,by simp[hlt]⟩,Pv (i+1),λσ' H' p'=>⟨xs.length - (i+1),by lia,rfl,hlt,p'⟩,λx H' y=>?_⟩
  obtain⟨e,y⟩:=y
  subst e
  exact hs i x σ _ (y xs q) p
 ·have e:i=xs.length:=by lia
  subst e
  exact .inl ⟨⟨xs,q,bc _⟩,hd σ H p⟩
theorem qC {K: aa}{a: Addr}{xs: List V}{g: TG}{tb: TS}{D: vS}{σ: St}{H: Hp}(Pv:Nat->St->Hp->Prop)(h0:Pv 0 σ H)(hl:∀i σ H,i<=xs.length->Pv i σ H->SqT K H a xs)(hs:∀i x σ H,xs[i]?=some x->Pv i σ H->g x σ H λσ2 H2=>tb { D with nx:=Pv (i+1),ct:=Pv (i+1),bk:=D.nx } σ2 H2)(hd:∀σ H,Pv xs.length σ H->D.nx σ H):
  ∃W:Nat->Nat->St->Hp->Prop,(∃m,W 0 m σ H)/\∀i m σ H,W i m σ H ->
   ((Itt K a).stop i H/\D.nx σ H)\/((Itt K a).go i H/\∃N:St->Hp->Prop,(∀σ' H',N σ' H'->∃m',m'<m/\W (i+1) m' σ' H')/\∀x H',(Itt K a).yld i H x H'->g x σ H' λσ2 H2=>tb { D with nx:=N,ct:=N,bk:=D.nx } σ2 H2):=by
 refine⟨λi m σ H=>m=xs.length - i/\i<=xs.length/\Pv i σ H,⟨xs.length,by simp,bg _,h0⟩,?_⟩
 rintro i m σ H ⟨rfl,hi,p⟩
 have q:=hl i σ H hi p
 by_cases hlt:i<xs.length
 ·refine .inr ⟨⟨xs,xs[i],q,by simp[hlt]⟩,Pv (i+1),λσ' H' p'=>⟨xs.length - (i+1),by lia,rfl,hlt,p'⟩,λx H' y=>?_⟩
  obtain⟨e,y⟩:=y
  subst e
  exact hs i x σ _ (y xs q) p
 ·have e:i=xs.length:=by lia
  subst e
  exact .inl ⟨⟨xs,q,bc _⟩,hd σ H p⟩
theorem bH {lo: Int}{n: Nat}{g: TG}{tb: TS}{D: vS}{σ: St}{H: Hp}(Pv:Nat->St->Hp->Prop)(h0:Pv 0 σ H)(hs:∀i σ H,i<n->Pv i σ H->g (.int (lo+i)) σ H λσ2 H2=>tb { D with nx:=Pv (i+1),ct:=Pv (i+1),bk:=D.nx } σ2 H2)(hd:∀σ H,Pv n σ H->D.nx σ H):
  ∃W:Nat->Nat->St->Hp->Prop,(∃m,W 0 m σ H)/\∀i m σ H,W i m σ H ->
   ((Itr lo n).stop i H/\D.nx σ H)\/((Itr lo n).go i H/\∃N:St->Hp->Prop,(∀σ' H',N σ' H'->∃m',m'<m/\W (i+1) m' σ' H')/\∀x H',(Itr lo n).yld i H x H'->g x σ H' λσ2 H2=>tb { D with nx:=N,ct:=N,bk:=D.nx } σ2 H2):=by
 refine⟨λi m σ H=>m=n - i/\i<=n/\Pv i σ H,⟨n,by simp,bg _,h0⟩,?_⟩
 rintro i m σ H ⟨rfl,hi,p⟩
 by_cases hlt:i<n
 ·refine .inr ⟨hlt,Pv (i+1),λσ' H' p'=>⟨n - (i+1),by lia,rfl,hlt,p'⟩,λx H' y=>?_⟩
  obtain⟨e,y⟩:=y
  subst e y
  exact hs i σ _ hlt p
 ·have e:i=n:=by lia
  subst e
  exact .inl ⟨bc _,hd σ H p⟩
abbrev R2:= V->V->Hp->VK->Prop
def OpR (X:Cx)(f:Value->Value->Sem Value)(r:R2):Prop:=
 ∀(pins:List (Addr×Obj)) (s:Shared) (σ:St) (H:Hp) (x y:V) (v u:Value) (Q:VK),Inv X pins σ H s->RelV x v->RelV y u->r x y H Q ->
  wpAny (model X.prog X.w) X.A (f v u) (EP X pins σ Q) X.xe s
def UnR (X:Cx)(f:Value->Sem Value)(r:V->Hp->VK->Prop):Prop:=
 ∀(pins:List (Addr×Obj)) (s:Shared) (σ:St) (H:Hp) (x:V) (v:Value) (Q:VK),Inv X pins σ H s->RelV x v->r x H Q ->
  wpAny (model X.prog X.w) X.A (f v) (EP X pins σ Q) X.xe s
def CallR (X:Cx)(f:Value)(r:List V->Hp->VK->Prop):Prop:=
 ∀(pins:List (Addr×Obj)) (s:Shared) (σ:St) (H:Hp) (xs:List V) (us:List Value) (Q:VK),Inv X pins σ H s->Vals xs us->r xs H Q ->
  wpAny (model X.prog X.w) X.A (call f us) (EP X pins σ Q) X.xe s
def aPw (X:Cx)(r:V->Hp->(Bool->Hp->Prop)->Prop):Prop:=
 ∀(pins:List (Addr×Obj)) (s:Shared) (σ:St) (H:Hp) (x:V) (v:Value) (Q:Bool->Hp->Prop),Inv X pins σ H s->RelV x v->r x H Q ->
  wpAny (model X.prog X.w) X.A (truthy v) (TP X pins σ Q) X.xe s
def tOp (r:R2)(ta tb:TE):TE:=λσ H Q=>ta σ H λx H1=>tb σ H1 λy H2=>r x y H2 Q
def tUn (r:V->Hp->VK->Prop)(ta:TE):TE:=λσ H Q=>ta σ H λx H1=>r x H1 Q
def rI (C:Int->Int->Prop)(g:Int->Int->V):R2:=λx y H Q=>∃i j,x = .int i/\y = .int j/\C i j/\Q (g i j) H
inductive aOK (g:Int->Int->V) (x y:V) (H:Hp) (Q:VK):Prop
 |mk (i j:Int) (hx:x = .int i) (hy:y = .int j) (q:Q (g i j) H):aOK g x y H Q
def rI0 (g:Int->Int->V):R2:=λx y H Q=>aOK g x y H Q
def rU (g:Int->V):V->Hp->VK->Prop:=λx H Q=>∃i,x = .int i/\Q (g i) H
theorem aNT {a b: Expr}{ta tb: TE}(ha:PE X a ta)(hb:PE X b tb){pins: List (Addr×Obj)}{s: Shared}{σ: St}{H: Hp}{R: V->V->Hp->Prop}(I:Inv X pins σ H s)(h:ta σ H λx H1=>tb σ H1 λy H2=>R x y H2){f: Value->Value->Sem Value}(hf:∀v u s2 x y H2,Inv X pins σ H2 s2->RelV x v->RelV y u->R x y H2->wpAny (model X.prog X.w) X.A (f v u) Q X.xe s2):
  wpAny (model X.prog X.w) X.A (eval a X.env) (λv s₁=>wpAny (model X.prog X.w) X.A (eval b X.env) (λu s₂=>wpAny (model X.prog X.w) X.A (f v u) Q X.xe s₂) X.xe s₁) X.xe s:=by
 refine thn (ha pins s σ H _ I h) λv s1 ⟨x,H1,I1,r1,q1⟩=>?_
 refine thn (hb pins s1 σ H1 _ I1 q1) λu s2 ⟨y,H2,I2,r2,q2⟩=>?_
 exact hf v u s2 x y H2 I2 r1 r2 q2
theorem uJ (ho:OpR X (mf op) r)(ha:PE X a ta)(hb:PE X b tb):PE X (.BinOp a op b pos) (tOp r ta tb):=by
 intro pins s σ H Q I h
 exact wpAny_BinOp (aNT ha hb I h λv u s2 x y H2 I2 rx ry q=>ho pins s2 σ H2 x y v u Q I2 rx ry q)
theorem aNF (ho:UnR X (unaryOp op) r)(ha:PE X a ta):PE X (.UnaryOp op a pos) (tUn r ta):=by
 intro pins s σ H Q I h
 exact UnaryOp_ (thn (ha pins s σ H _ I h) λv s1 ⟨x,H1,I1,r1,q1⟩=>ho pins s1 σ H1 x v Q I1 r1 q1)
theorem opI {f: Value->Value->Sem Value}{C: Int->Int->Prop}{g: Int->Int->Int}(rule:∀(i j:Int) (t u:Tok) (s:Shared) (Q:Value->Shared->Prop) (E:Value->Shared->Prop),C i j->Q (.int (g i j) s.toks) { s with toks:=s.toks+1 }->wpAny (model X.prog X.w) X.A (f (.int i t) (.int j u)) Q E s):
  OpR X f (rI C λi j => .int (g i j)):=by
 intro pins s σ H x y v u Q I rx ry h
 obtain⟨i,j,rfl,rfl,hc,q⟩:=h
 obtain⟨t,rfl⟩:=rx
 obtain⟨t',rfl⟩:=ry
 exact rule i j t t' s _ _ hc ⟨.int (g i j),H,I.tok _,⟨_,rfl⟩,q⟩
theorem aOM {f: Value->Value->Sem Value}{g: Int->Int->Int}(rule:∀(i j:Int) (t u:Tok) (s:Shared) (Q:Value->Shared->Prop) (E:Value->Shared->Prop),Q (.int (g i j) s.toks) { s with toks:=s.toks+1 }->wpAny (model X.prog X.w) X.A (f (.int i t) (.int j u)) Q E s):
  OpR X f (rI0 λi j => .int (g i j)):=by
 intro pins s σ H x y v u Q I rx ry h
 obtain⟨i,j,rfl,rfl,q⟩:=h
 obtain⟨t,rfl⟩:=rx
 obtain⟨t',rfl⟩:=ry
 exact rule i j t t' s _ _ ⟨.int (g i j),H,I.tok _,⟨_,rfl⟩,q⟩
theorem aMZ {f: Value->Value->Sem Value}{g: Int->Int->Bool}(rule:∀(i j:Int) (t u:Tok) (s:Shared) (Q:Value->Shared->Prop) (E:Value->Shared->Prop),Q (.bool (g i j)) s->wpAny (model X.prog X.w) X.A (f (.int i t) (.int j u)) Q E s):
  OpR X f (rI0 λi j => .bl (g i j)):=by
 intro pins s σ H x y v u Q I rx ry h
 obtain⟨i,j,rfl,rfl,q⟩:=h
 obtain⟨t,rfl⟩:=rx
 obtain⟨t',rfl⟩:=ry
 exact rule i j t t' s _ _ ⟨.bl (g i j),H,I,rfl,q⟩
def aOZ (i j:Int):Prop:=0<=j/\j<=1000000/\i.natAbs<2 ^ 64
def CMul (i j:Int):Prop:=(-(2 ^ 64)<i/\i<2 ^ 64)\/(-(2 ^ 64)<j/\j<2 ^ 64)
theorem CMul.ok (h:CMul i j):IntMulOk i j:=by
 rcases h with⟨h1,h2⟩ | ⟨h1,h2⟩
 ·exact .of_left (intBits_le_64 h1 h2)
 ·exact .of_right (intBits_le_64 h1 h2)
theorem aLc:OpR X (mf .Add) (rI0 λi j => .int (i+j)):=aOM λ_ _ _ _ _ _ _ q=>add_int q
theorem aBm:OpR X (mf .Sub) (rI0 λi j => .int (i - j)):=aOM λ_ _ _ _ _ _ _ q=>sub_int q
theorem aKP:OpR X (mf .Mult) (rI CMul λi j => .int (i*j)):=opI λ_ _ _ _ _ _ _ hc q=>mul_int q hc.ok
theorem aKW:OpR X (mf .Mod) (rI (λ_ j=>0<j) λi j => .int (i % j)):=opI λi j _ _ _ _ _ hc q=>by
 have h1:(0:Int)<j:=hc
 exact mod_int' (by lia) (by rw[Int.fmod_eq_emod_of_nonneg i (by lia)];exact q)
theorem aLt:OpR X (mf .Pow) (rI aOZ λi j => .int (i ^ j.toNat)):=opI λ_ _ _ _ _ _ _ hc q=>pow_int_small hc.1 hc.2.1 hc.2.2 q
theorem unI {f: Value->Sem Value}{g: Int->Int}(rule:∀(i:Int) (t:Tok) (s:Shared) (Q:Value->Shared->Prop) (E:Value->Shared->Prop),Q (.int (g i) s.toks) { s with toks:=s.toks+1 }->wpAny (model X.prog X.w) X.A (f (.int i t)) Q E s):
  UnR X f (rU λi => .int (g i)):=by
 intro pins s σ H x v Q I rx h
 obtain⟨i,rfl,q⟩:=h
 obtain⟨t,rfl⟩:=rx
 exact rule i t s _ _ ⟨.int (g i),H,I.tok _,⟨_,rfl⟩,q⟩
theorem aLM:UnR X (unaryOp .USub) (rU λi => .int (-i)):=unI λ_ _ _ _ _ q=>neg_int q
section
variable {X:Cx}{a b c:Expr}{ta tb tc:TE}{pos:Pos}
theorem aBR {pins: List (Addr×Obj)}{σ: St}{H: Hp}{s: Shared}{k k': Bool}(I:Inv X pins σ H s)(q:Q (.bl k) H)(e:k=k'):EP X pins σ Q (.bool k') s:=by
 subst e
 exact⟨.bl k,H,I,rfl,q⟩
theorem aKN:OpR X (jd .Lt) (rI0 λi j => .bl (decide (i<j))):=aMZ λ_ _ _ _ _ _ _ q=>lt_int q
theorem aNk:OpR X (jd .LtE) (rI0 λi j => .bl (decide (i<=j))):=aMZ λ_ _ _ _ _ _ _ q=>le_int q
theorem aOj:OpR X (jd .Gt) (rI0 λi j => .bl (decide (j<i))):=aMZ λ_ _ _ _ _ _ _ q=>gt_int q
theorem aOl:OpR X (jd .GtE) (rI0 λi j => .bl (decide (j<=i))):=aMZ λ_ _ _ _ _ _ _ q=>ge_int q
theorem aMw:OpR X (jd .Is) (λx y H Q=>y = .non/\Q (.bl (decide (x = .non))) H):=by
 intro pins s σ H x y v u Q I rx ry h
 obtain⟨rfl,q⟩:=h
 cases ry
 refine is_none_gen (aBR I q ?_)
 cases x <;> first
  | (cases rx;rfl)
  | (obtain⟨t,rfl⟩:=rx;rfl)
theorem aJy:OpR X (jd .IsNot) (λx y H Q=>y = .non/\Q (.bl (!decide (x = .non))) H):=by
 intro pins s σ H x y v u Q I rx ry h
 obtain⟨rfl,q⟩:=h
 cases ry
 refine isnot_none_gen (aBR I q ?_)
 cases x <;> first
  | (cases rx;rfl)
  | (obtain⟨t,rfl⟩:=rx;rfl)
theorem OpR.or (h:OpR X f r)(h':OpR X f r'):OpR X f (λx y H Q=>r x y H Q\/r' x y H Q):=by
 intro pins s σ H x y v u Q I rx ry q
 rcases q with q | q
 ·exact h pins s σ H x y v u Q I rx ry q
 ·exact h' pins s σ H x y v u Q I rx ry q
theorem aAZ (b:Expr)(h:op ≠ .In:=by decide)(h2:op ≠ .NotIn:=by decide):yb op b=false:=by
 have e1:(op == CmpOp.In)=false:=by cases op <;> first | rfl | exact absurd rfl h
 have e2:(op == CmpOp.NotIn)=false:=by cases op <;> first | rfl | exact absurd rfl h2
 cases b <;> simp[yb,e1,e2]
theorem aJe (ho:OpR X (jd op) r)(ha:PE X a ta)(hb:PE X b tb)(hm:yb op b=false):PE X (.Compare a [op] [b] pos) (tOp r ta tb):=by
 intro pins s σ H Q I h
 exact wpAny_Compare1 (aNT ha hb I h λv u s2 x y H2 I2 rx ry q=>ho pins s2 σ H2 x y v u Q I2 rx ry q) hm
inductive TBP (x:V) (H:Hp) (Q:Bool->Hp->Prop):Prop
 |mk (k:Bool) (e:x = .bl k) (q:Q k H):TBP x H Q
def aP (t:TE):TT:=λσ H Q=>t σ H λx H'=>TBP x H' Q
theorem kQ (ho:OpR X (jd op) r)(ha:PE X a ta)(hb:PE X b tb)(hm:yb op b=false):PT X (.Compare a [op] [b] pos) (aP (tOp r ta tb)):=by
 intro pins s σ H Q I h
 refine wpAny_isTrue_Compare1 (thn (ha pins s σ H _ I h) λv s1 ⟨x,H1,I1,r1,q1⟩=>thn (hb pins s1 σ H1 _ I1 q1) λu s2 ⟨y,H2,I2,r2,q2⟩=>
  thn (ho pins s2 σ H2 x y v u _ I2 r1 r2 q2) λc s3 ⟨z,H3,I3,r3,k,e,q3⟩=>?_) hm
 subst e
 cases r3
 exact ia ⟨H3,I3,q3⟩
def aFf (r r':R2)(ta tb tc:TE):TE:=λσ H Q=>ta σ H λx H1=>tb σ H1 λy H2=>r x y H2 λz H3=>∃k,z = .bl k /\
 (if k=true then tc σ H3 λw' H4=>r' y w' H4 Q else Q (.bl false) H3)
theorem aGJ (ho:OpR X (jd op) r)(ho':OpR X (jd op') r')(ha:PE X a ta)(hb:PE X b tb)(hc:PE X c tc)(hm:lastMarks [op,op'] [b,c]=false:=by with_unfolding_all rfl):PT X (.Compare a [op,op'] [b,c] pos) (aP (aFf r r' ta tb tc)):=by
 intro pins s σ H Q I h
 refine isTrue_chain (thn (ha pins s σ H _ I h) λv s1 ⟨x,H1,I1,r1,q1⟩=>test_link (thn (hb pins s1 σ H1 _ I1 q1) λu s2 ⟨y,H2,I2,r2,q2⟩=>
  thn (ho pins s2 σ H2 x y v u _ I2 r1 r2 q2) λd s3 ⟨z,H3,I3,r3,k,e,q3⟩=>?_)) hm
 subst e
 cases r3
 refine ia ?_
 cases k with
 |false=>
  obtain⟨k',e',q'⟩:=q3
  cases e'
  exact ite_ff ⟨H3,I3,q'⟩
 |true=>
  refine ite_tt (test_last (thn (hc pins s3 σ H3 _ I3 q3) λw' s4 ⟨z',H4,I4,r4,q4⟩=>thn (ho' pins s4 σ H4 y z' u w' _ I4 r2 r4 q4) λd' s5 ⟨z2,H5,I5,r5,k2,e2,q5⟩=>?_))
  subst e2
  cases r5
  exact ia ⟨H5,I5,q5⟩
def aNC (K:aa)(x:V)(H:Hp)(k:Bool):Prop:=
 match x with
 | .non=>k=false
 | .bl b=>k=b
 | .int i=>k=(i != 0)
 | .str y=>y.length<=bx/\k=((y.length:Int) != 0)
 | .byt y=>y.size<=bx/\k=((y.size:Int) != 0)
 | .ref p=>(∃xs,SqL K H p xs/\k = !xs.isEmpty)\/(∃xs,SqT K H p xs/\k = !xs.isEmpty)\/∃kvs,H p=some (.dK kvs)/\k = !kvs.isEmpty
 |_=>False
theorem aCv (r:KV kvs vs): (!vs.isEmpty) = !kvs.isEmpty:=by
 cases r <;> rfl
theorem tM (r:Vals xs its): (!its.toArray.isEmpty) = !xs.isEmpty:=by
 cases r <;> simp
theorem yQ: (bx:Nat)<2 ^ 63:=by rw[ly];decide
theorem aLk:aPw X (λx H Q=>∃k,aNC X.K x H k/\Q k H):=by
 intro pins s σ H x v Q I rx h
 obtain⟨k,e,q⟩:=h
 have hl:=yQ
 have hs:bx=16777216:=ly
 cases x with
 |non=>
  cases rx
  have e':k=false:=e
  subst e'
  exact truthy_none ⟨H,I,q⟩
 |bl b=>
  cases rx
  have e':k=b:=e
  subst e'
  exact ia ⟨H,I,q⟩
 |int i=>
  obtain⟨t,rfl⟩:=rx
  have e':k=(i != 0):=e
  subst e'
  exact PySem.P.truthy_int ⟨H,I,q⟩
 |str y=>
  obtain⟨t,rfl⟩:=rx
  obtain⟨hy,e'⟩:y.length<=bx/\k=((y.length:Int) != 0):=e
  subst e'
  exact PySem.P.truthy_str (by lia) ⟨H,I.tok _,q⟩
 |byt y=>
  obtain⟨t,rfl⟩:=rx
  obtain⟨hy,e'⟩:y.size<=bx/\k=((y.size:Int) != 0):=e
  subst e'
  exact PySem.W.truthy_bytes (by lia) ⟨H,I.tok _,q⟩
 |ref p=>
  cases rx
  have e':(∃xs,SqL X.K H p xs/\k = !xs.isEmpty)\/(∃xs,SqT X.K H p xs/\k = !xs.isEmpty)\/∃kvs,H p=some (.dK kvs)/\k = !kvs.isEmpty:=e
  rcases e' with⟨xs,hx,e'⟩ | ⟨xs,hx,e'⟩ | ⟨kvs,hx,e'⟩
  ·subst e'
   obtain⟨its,r,pl,hz⟩:=I.list hx
   have hlen:=r.length
   exact wpAny_truthy_list pl.isList (by simp only[av];lia) ⟨H,I.tok _,by rw[tM r];exact q⟩
  ·subst e'
   obtain⟨its,r,pl,hz⟩:=I.tuple hx
   have hlen:=r.length
   exact truthy_tuple pl (by simp only[av];lia) ⟨H,I.tok _,by rw[tM r];exact q⟩
  ·subst e'
   obtain⟨hz,hS,vs,r,m⟩:kvs.length<=bx/\(p == qc)=false/\∃vs,KV kvs vs/\s.heap.DictOf (cG X.prog X.w) p vs:=I.hok p _ hx
   have hlen:kvs.length=vs.length:=xx r
   exact wpAny_truthy_dict hS m (by lia) ⟨H,I.tok _,by rw[aCv r];exact q⟩
 |_=>exact(show False from e).elim
theorem aGb (ha:PE X a ta)(he:∀whole,isTrue a X.env whole=(do let v <- whole;Aw a.pos;yx [v] (truthy v))):
  PT X a (λσ H Q=>ta σ H λx H'=>∃k,aNC X.K x H' k/\Q k H'):=by
 intro pins s σ H Q I h
 exact isTrue_plain (thn (ha pins s σ H _ I h) λv s1 ⟨x,H1,I1,r1,q1⟩=>aLk pins s1 σ H1 x v Q I1 r1 q1) (he _)
theorem aCm:OpR X (mf .Add) (λx y H Q=>∃i j,x = .str i/\y = .str j/\i.length+j.length<=bx/\Q (.str (i++j)) H):=by
 intro pins s σ H x y v u Q I rx ry h
 obtain⟨i,j,rfl,rfl,hz,q⟩:=h
 obtain⟨t,rfl⟩:=rx
 obtain⟨t',rfl⟩:=ry
 exact add_str (λt' tk=>⟨.str (i++j),H,I.tok _,⟨_,rfl⟩,q⟩) hz
theorem yG (r:Vals [x] us):∃u,us=[u]/\RelV x u:=by
 cases r with
 |cons r1 r2=>cases r2;exact⟨_,rfl,r1⟩
theorem aIU (r:Vals [x,y] us):∃u w',us=[u,w']/\RelV x u/\RelV y w':=by
 cases r with
 |cons r1 r2=>
  cases r2 with
  |cons r3 r4=>cases r4;exact⟨_,_,rfl,r1,r3⟩
theorem aGe:CallR X (.builtin "abs") (λxs H Q=>∃i,xs=[.int i]/\Q (.int (if i<0 then -i else i)) H):=by
 intro pins s σ H xs us Q I r h
 obtain⟨i,rfl,q⟩:=h
 obtain⟨u,rfl,t,rfl⟩:=yG r
 exact call_abs_int λu tk=>⟨.int (if i<0 then -i else i),H,I.tok _,⟨_,rfl⟩,q⟩
theorem aFd (hc:X.calm=true):CallR X (.builtin "max") (λxs H Q=>∃i j,xs=[.int i, .int j]/\Q (.int (if j > i then j else i)) H):=by
 intro pins s σ H xs us Q I r h
 obtain⟨i,j,rfl,q⟩:=h
 obtain⟨u,w',rfl,⟨t,rfl⟩,⟨t',rfl⟩⟩:=aIU r
 refine max_two_ints (I.ok.hd hc) λh' tk k=>⟨_,H,I.kept k,?_,q⟩
 by_cases hj:j > i
 ·rw[if_pos hj,if_pos hj];exact⟨_,rfl⟩
 ·rw[if_neg hj,if_neg hj];exact⟨_,rfl⟩
theorem aDP (hc:X.calm=true):CallR X (.builtin "min") (λxs H Q=>∃i j,xs=[.int i, .int j]/\Q (.int (if j<i then j else i)) H):=by
 intro pins s σ H xs us Q I r h
 obtain⟨i,j,rfl,q⟩:=h
 obtain⟨u,w',rfl,⟨t,rfl⟩,⟨t',rfl⟩⟩:=aIU r
 refine min_two_ints (I.ok.hd hc) λh' tk k=>⟨_,H,I.kept k,?_,q⟩
 by_cases hj:j<i
 ·rw[if_pos hj,if_pos hj];exact⟨_,rfl⟩
 ·rw[if_neg hj,if_neg hj];exact⟨_,rfl⟩
end
theorem RelO.some_of (r:RelO (some v) o):∃u,o=some u/\RelV v u:=by
 cases o with
 |none=>exact(show False from r).elim
 |some u=>exact⟨u,rfl,r⟩
structure Room (k:Nat)(A:Around):Prop where
 hd:A.handled=none
 dp:A.depth+3*k+5<recursionLimit
 un:A.units+16*k+200<cLine
 gd:A.guards=some []
theorem Room.mono (r:Room k A)(h:j<=k):Room j A:=⟨r.hd,by have:=r.dp;lia,by have:=r.un;lia,r.gd⟩
theorem Room.deeper (r:Room (k+1) A)(env:Env):Room k (A.deeper env):=
 ⟨r.hd,by have:=r.dp;show A.depth+1+3*k+5<_;lia,by have:=r.un;show A.units+3+16*k+200<_;lia,r.gd⟩
theorem Room.depth (r:Room k A):A.depth<recursionLimit:=by have:=r.dp;lia
theorem Room.units (r:Room k A):A.units+64<cLine:=by have:=r.un;lia
def aH:TA:=λ_ H Q=>Q [] H
def aB (ta:TE)(tr:TA):TA:=λσ H Q=>ta σ H λx H1=>tr σ H1 λxs H2=>Q (x :: xs) H2
theorem bO:PA X [] aH:=λ_ _ _ _ H Q I h=>Calls.spliced_nil ⟨[],H,I, .nil,h⟩
theorem dE (ha:PE X e te)(hr:PA X es t)(hs:ft (e :: es) X.env=(false,eval e X.env) :: ft es X.env:=by rfl):PA X (e :: es) (aB te t):=by
 intro pos pins s σ H Q I h
 rw[hs]
 show wpAny _ _ (spliced ((false,eval e X.env) :: wc pos (ft es X.env))) _ _ s
 refine Calls.spliced_cons (thn (ha pins s σ H _ I h) λu s1 ⟨x,H1,I1,r1,q1⟩=>?_)
 exact thn (hr pos pins s1 σ H1 _ I1 q1) λus s2 ⟨xs,H2,I2,r2,q2⟩=>⟨x :: xs,H2,I2, .cons r1 r2,q2⟩
def fF (t:TA):TE:=λσ H Q=>t σ H λxs H1=>xs.length<=bx/\∀p,H1 p=none->Q (.ref p) (upd H1 p (.tup xs))
def tX (t:TA):TE:=λσ H Q=>t σ H λxs H1=>xs.length<=bx/\∀p,H1 p=none->Q (.ref p) (upd H1 p (.lst xs))
theorem aDt (h:PA X es t):PE X (.Tuple es x1 pos) (fF t):=by
 intro pins s σ H Q I hq
 refine wpAny_Tuple_spliced (thn (h pos pins s σ H _ I hq) λus s1 ⟨xs,H1,I1,r,z,q⟩=>⟨by rw[<- r.length];exact z,?_⟩)
 have hf:H1 s1.heap.objs.size=none:=I1.hok.fresh (bc _)
 refine⟨.ref s1.heap.objs.size,upd H1 s1.heap.objs.size (.tup xs),I1.laid (t':=s1.toks) (λb u e=>ak _ e) (bc _) ?_,rfl,q _ hf⟩
 exact⟨z,us,r,TupN.new _ _⟩
theorem aFt (h:PA X es t):PE X (.List es pos) (tX t):=by
 intro pins s σ H Q I hq
 refine wpAny_List_spliced (thn (h pos pins s σ H _ I hq) λus s1 ⟨xs,H1,I1,r,z,q⟩=>⟨by rw[<- r.length];exact z,?_⟩)
 have hf:H1 s1.heap.objs.size=none:=I1.hok.fresh (bc _)
 refine⟨.ref s1.heap.objs.size,upd H1 s1.heap.objs.size (.lst xs),I1.laid (t':=s1.toks) (λb u e=>ak _ e) (bc _) ?_,rfl,q _ hf⟩
 exact⟨z,us,0,r,bp _ rfl⟩
abbrev Sp:= List V->Hp->VK->XK->Prop
abbrev CXT:= List Env->Hp->Shared->XK->Value->Shared->Prop
structure aMS (P:Program)(w:World)(K:aa)(mg:Str->Option Value)(base:Heap)(A:Around)(outer:List Env)(s:Shared)(H:Hp):Prop where
 frames:A.frames=some outer
 mod:Mod K mg base
 bs:∀b o,base.get? b=some o->s.heap.get? b=some o/\H b=none
 bsz:base.objs.size<=s.heap.objs.size
 funs:s.heap.FunFrames base outer
 frf:∀b∈frs outer,H b=none
 hok:HOk P w H s.heap
 bare:xy s.gens
def CE (outer:List Env)(P:Program)(w:World)(H:Hp)(s:Shared)(Q:VK)(u:Value)(s':Shared):Prop:=
 ∃v H',s'.os=s.os/\xy s'.gens/\Un (frs outer) [] H H' s.heap s'.heap/\HOk P w H' s'.heap/\RelV v u/\Q v H'
def CR (CX:CXT)(outer:List Env)(P:Program)(w:World)(H:Hp)(s:Shared)(Q:VK)(E:XK)(r:BH)(s':Shared):Prop:=
 match r with
 | .ok (.ret u)=>CE outer P w H s Q u s'
 | .ok _=>False
 | .error e=>CX outer H s E e s'
structure FnOk (P:Program)(w:World)(K:aa)(mg:Str->Option Value)(base:Heap)(CX:CXT)(k:Nat)(f:Addr)(fd:FuncData)(ps:List Str)(sp:Sp):Prop where
 len:∀vs H Q E,sp vs H Q E->vs.length=ps.length
 run:∀(A:Around) (outer:List Env) (s:Shared) (H:Hp) (args:Args) (us:List Value) (vs:List V) (Q:VK) (E:XK),Room k A->aMS P w K mg base A outer s H->Ba s fd args (ps.zip us)->Vals vs us->sp vs H Q E ->
  wz (model P w) A (.call (.ref f) args) (CR CX outer P w H s Q E) s
theorem FnOk.mono {K: aa}{CX: CXT}{j k: Nat}{f: Addr}{fd: FuncData}{ps: List Str}{sp: Sp}(F:FnOk P w K mg base CX j f fd ps sp)(h:j<=k):
  FnOk P w K mg base CX k f fd ps sp:=⟨F.len,λA outer s H args us vs Q E hr=>F.run A outer s H args us vs Q E (hr.mono h)⟩
theorem Inv.env0 {pins: List (Addr×Obj)}{σ: St}{H: Hp}{s: Shared}(I:Inv X pins σ H s):aMS X.prog X.w X.K X.mg X.base X.A X.stack s H:=
 ⟨I.ok.frames,I.ok.mod,I.bs,de I.ok.bsz I.sz,I.stack,I.stkFree,I.hok,I.bare⟩
theorem Inv.after {pins: List (Addr×Obj)}{σ: St}{H: Hp}{s s': Shared}{u: Value}(I:Inv X pins σ H s)(h:CE X.stack X.prog X.w H s Q u s'):EP X pins σ Q u s':=by
 obtain⟨v,H',os,bare,un,hok,r,q⟩:=h
 obtain⟨hh,g,d,t,os'⟩:=s'
 obtain rfl:os'=s.os:=os
 exact⟨v,H',I.call (h':=hh) (g':=g) (d':=d) (t':=t) (ch:=[]) un hok bare (λb z=>absurd z (by simp)),r,q⟩
def aO (sp:Sp)(dvs:List V)(E:XK)(t:TA):TE:=λσ H Q=>t σ H λvs H1=>sp (vs++dvs) H1 Q E
def Binds (K:aa)(fd:FuncData)(ps:List Str)(ds:List Value):Prop:=
 ∀(s:Shared) (us:List Value),K.In s.heap->(us++ds).length=ps.length->Ba s fd ⟨us,[]⟩ (ps.zip (us++ds))
theorem Binds.all {K: aa}{fd: FuncData}{ps: List Str}(h:∀us:List Value,us.length=ps.length->AO fd ⟨us,[]⟩=pure (ps.zip us)):Binds K fd ps []:=λs us _ hl=>by
 rw[iq] at hl ⊢
 exact .of_eq (h us hl)
def pX (CX:CXT)(X:Cx)(E:XK):Prop:=∀(pins:List (Addr×Obj)) (σ:St) (H:Hp) (s:Shared) (e:Value) (s':Shared),Inv X pins σ H s->CX X.stack H s E e s'->X.xe e s'
theorem aLW {CX: CXT}{k: Nat}{f: Addr}{fd: FuncData}{ps: List Str}{sp: Sp}{dvs: List V}{ds: List Value}{pins: List (Addr×Obj)}{σ: St}{H: Hp}{s: Shared}{us: List Value}{vs: List V}(F:FnOk X.prog X.w X.K X.mg X.base CX k f fd ps sp)(hr:Room k X.A)(hb:Binds X.K fd ps ds)(hd:Vals dvs ds)(hx:pX CX X E)(I:Inv X pins σ H s)(r:Vals vs us)(h:sp (vs++dvs) H Q E):wpAny (model X.prog X.w) X.A (call (.ref f) us) (EP X pins σ Q) X.xe s:=by
 have r2:Vals (vs++dvs) (us++ds):=r.append hd
 have hl:(us++ds).length=ps.length:=by rw[<- r2.length];exact F.len _ _ _ _ h
 refine wpAny_call (lh (F.run X.A X.stack s H ⟨us,[]⟩ (us++ds) (vs++dvs) Q E hr I.env0 (hb s us I.kIn hl) r2 h) λr s' hq=>?_)
 cases r with
 |error e=>exact hx pins σ H s e s' I hq
 |ok fl=>
  cases fl with
  |ret u=>exact I.after hq
  |next=>exact mj hq
  |brk=>exact mj hq
  |cont=>exact mj hq
theorem aCY {CX: CXT}{k: Nat}{f: Addr}{fd: FuncData}{ps: List Str}{sp: Sp}{dvs: List V}{ds: List Value}{x: Str}{p pos: Pos}{e: Expr}{es: List Expr}{t: TA}(F:FnOk X.prog X.w X.K X.mg X.base CX k f fd ps sp)(hr:Room k X.A)(hg:Gl X x)(hm:X.mg x=some (.ref f))(hk:qi X.K (.ref f)=true)(hb:Binds X.K fd ps ds)(hd:Vals dvs ds)(hx:pX CX X E)(ha:PA X (e :: es) t)(hdb:(x == ("__debug__" : Str))=false:=by decide)(he:ft (e :: es) X.env=(false,eval e X.env) :: ft es X.env:=by rfl)(hpl:(wc pos (ft es X.env)).any (·.1)=false:=by rfl):
  PE X (.Call (.Name x p) (e :: es) [] pos) (aO sp dvs E t):=by
 intro pins s σ H Q I h
 refine wg (aAD I hg hm ?_ hdb)
 refine PySem.W.callWith_K (h₀:=X.base) I.ok.mod.kin hk (thn (ha pos pins s σ H _ I h) λus s1 ⟨vs,H1,I1,r,q⟩=>⟨I1.kIn,?_⟩) he hpl
 exact aLW F hr hb hd hx I1 r q
structure kX (N P:List Str)(sc:Scope):Prop where
 kind:sc.kind = .function
 co:sc.isCoroutine=false
 gen:sc.isGenerator=false
 nd:N.Nodup
 pre:N.take P.length=P
 par:∀x∈P,sc.names.lookup x=some .local\/sc.names.lookup x=some .cell
 nofree:∀y∈sc.names,y.2 ≠ .free
theorem xT {kindOf: Str->Option NameKind}{x: Str}:∀{binds:List (Str×Value)}{m:Str->Option Value},(∀v,(x,v)∉binds)->bindL kindOf binds m x=m x
 |[],_,_=>rfl
 | (n,v) :: r,m,h=>by
  unfold bindL
  rw[xT λw hw=>h w (ay _ hw)]
  split
  ·have:x≠n:=by rintro rfl;exact h v cv
   simp[this]
  ·rfl
theorem yA {kindOf: Str->Option NameKind}{x: Str}:∀{binds:List (Str×Value)}{m:Str->Option Value},(∀v,(x,v)∉binds)->bindC kindOf binds m x=m x
 |[],_,_=>rfl
 | (n,v) :: r,m,h=>by
  unfold bindC
  rw[yA λw hw=>h w (ay _ hw)]
  split
  ·rfl
  ·have:x≠n:=by rintro rfl;exact h v cv
   simp[this]
theorem yP {kindOf: Str->Option NameKind}{x: Str}{v: Value}:∀{P:List Str}{vs:List Value}{i:Nat}{m:Str->Option Value},P.Nodup->P[i]?=some x->vs[i]?=some v->kindOf x=some .local ->
  bindL kindOf (P.zip vs) m x=some v
 |[],_,_,_,_,h,_,_=>by simp at h
 |_ :: _,[],_,_,_,_,h,_=>by simp at h
 |p :: P,w :: vs,0,m,nd,h1,h2,hk=>by
  simp at h1 h2;subst h1;subst h2
  show bindL kindOf ((p,w) :: P.zip vs) m p=_
  unfold bindL
  rw[xT λv hv=>(gg.mp nd).1 (yz hv).1,if_pos hk]
  simp
 |p :: P,w :: vs,i+1,m,nd,h1,h2,hk=>by
  show bindL kindOf ((p,w) :: P.zip vs) m x=_
  unfold bindL
  exact yP (i:=i) (gg.mp nd).2 (by simpa using h1) (by simpa using h2) hk
theorem yF {kindOf: Str->Option NameKind}{x: Str}{v: Value}:∀{P:List Str}{vs:List Value}{i:Nat}{m:Str->Option Value},P.Nodup->P[i]?=some x->vs[i]?=some v->kindOf x≠some .local ->
  bindC kindOf (P.zip vs) m x=some v
 |[],_,_,_,_,h,_,_=>by simp at h
 |_ :: _,[],_,_,_,_,h,_=>by simp at h
 |p :: P,w :: vs,0,m,nd,h1,h2,hk=>by
  simp at h1 h2;subst h1;subst h2
  show bindC kindOf ((p,w) :: P.zip vs) m p=_
  unfold bindC
  rw[yA λv hv=>(gg.mp nd).1 (yz hv).1,if_neg hk]
  simp
 |p :: P,w :: vs,i+1,m,nd,h1,h2,hk=>by
  show bindC kindOf ((p,w) :: P.zip vs) m x=_
  unfold bindC
  exact yF (i:=i) (gg.mp nd).2 (by simpa using h1) (by simpa using h2) hk
def aW (N:List Str)(vs:List V):St:=vs.map some++dy (N.length - vs.length) none
def zF (CX:CXT)(P:Program)(w:World)(K:aa)(mg:Str->Option Value)(base:Heap)(N:List Str)(qual:Str)(scope:Scope)(f:Addr)(cd:Value)(A:Around)(outer:List Env)(s:Shared)(H:Hp)(E:XK):Cx where
 prog:=P
 w:=w
 K:=K
 mg:=mg
 base:=base
 A:=A.deeper (y9 qual scope s.heap.objs.size f cd)
 N:=N
 s₀:=s
 H₀:=H
 env:=y9 qual scope s.heap.objs.size f cd
 outer:=outer
 stack:=y9 qual scope s.heap.objs.size f cd :: outer
 ex:=[]
 calm:=true
 fn:=λ_=>true
 pn:=[]
 xe:=λe s'=>wpAny (model P w) (A.deeper (y9 qual scope s.heap.objs.size f cd)) (leaving (y9 qual scope s.heap.objs.size f cd) e) (λ_ s''=>CX outer H s E e s'') (λe' s''=>CX outer H s E e' s'') s'
theorem aBD {sc: Scope}{n: Nat}{x: Str}(h:sc.names.lookup x=some .cell):∃c,(km n sc.names []).lookup x=some c:=by
 have q:=sf sc.names n [] (.inl h)
 exact ja.mp q
theorem aCV {CX: CXT}{K: aa}{N ps: List Str}{qual: Str}{scope: Scope}{f: Addr}{cd: Value}{outer: List Env}{s s1: Shared}{H: Hp}{us: List Value}{vs: List V}(S:kX N ps scope)(hd:A.handled=none)(e0:aMS P w K mg base A outer s H)(hl:vs.length=ps.length)(r:Vals vs us)(x:InCallC s s.heap.objs.size (bindL (y9 qual scope s.heap.objs.size f cd).kindOf (ps.zip us) λ_=>none) (km (s.heap.objs.size+1) scope.names []) (bindC (y9 qual scope s.heap.objs.size f cd).kindOf (ps.zip us) λ_=>none) s1):
  Inv (zF CX P w K mg base N qual scope f cd A outer s H E) [] (aW N vs) H s1:=by
 have hpl:ps.length<=N.length:=by have:=congrArg Bw S.pre;rw[c9] at this;lia
 obtain⟨h1,tk,rfl,hk⟩:=x.done
 have noA:∀b:Addr,b∉(zF CX P w K mg base N qual scope f cd A outer s H E).ex:=λb z=>absurd (show b∈([]:List Addr) from z) (by simp)
 refine⟨⟨e0.mod,S.kind,rfl,rfl,bc _,λy z c h1 h2=>?_,λy hy=>?_,λy c _ h=>?_,λ_=>hd,Around.frames_deeper e0.frames, .inr ⟨rfl,rfl⟩,λb z=>absurd z (noA b),e0.bs,e0.bsz,λb _ _=>noA b,λb z=>absurd z (noA b),e0.funs,e0.frf⟩,
  rfl,e0.bare,Un.kept hk,⟨_,x.toInCall.ns,λi y v h1 h2 h3=>?_⟩,λy c h=>⟨_,x.cell y c h⟩,e0.hok.fresh (bc _),λy c h=>?_,λp hp=>absurd (show p∈([]:List (Addr×Obj)) from hp) (by simp),e0.hok.kept hk,?_⟩
 ·exact name_of_addr x.apart (gv h1) (gv h2)
 ·have hy:scope.names.lookup y=some .cell\/scope.names.lookup y=some .free:=hy
  rcases hy with hy | hy
  ·exact aBD hy
  ·exact absurd rfl (S.nofree _ (gv hy))
 ·exact i7 (x.above y c (gv h))
 ·have hi:i<vs.length:=by
   unfold aW at h2
   by_cases hi:i<vs.length
   ·exact hi
   ·rw[cw (by simpa using hi)] at h2
    rw[mx] at h2
    split at h2 <;> cases h2
  have ha:vs[i]?=some v:=by
   unfold aW at h2
   rw[c6 (by simpa using hi),aw] at h2
   cases e:vs[i]? with
   |none=>rw[e] at h2;cases h2
   |some a=>rw[e] at h2;cases h2;rfl
  obtain⟨u,hu,rv⟩:=r.get ha
  have hp:ps[i]?=some y:=by
   rw[<- S.pre,ke (by lia)];exact h1
  have ndP:ps.Nodup:=by rw[<- S.pre];exact S.nd.sublist (List.take_sublist _ _)
  refine⟨u,rv,?_⟩
  rcases S.par y (ar hp) with k | k
  ·exact .inl ⟨k,yP ndP hp hu k⟩
  ·obtain⟨c,e⟩:=aBD (n:=s.heap.objs.size+1) k
   refine .inr ⟨.inl k,c,e,?_⟩
   have q:=x.cell y c e
   rw[yF ndP hp hu (by show scope.names.lookup y≠_;rw[k];decide)] at q
   exact q
 ·exact e0.hok.fresh (i7 (x.above y c (gv h)))
 ·unfold aW
  show _=N.length
  rw[au,ae,lq]
  lia
theorem aMd {CX: CXT}{K: aa}{k: Nat}{f: Addr}{name qual: Str}{params: Arguments}{body: List Stmt}{scope: Scope}{dV kV doc pm cdv ct oc: Value}{an od: Option Addr}{osl: Array (Option Value)}{N ps: List Str}{sp: Sp}(lk:K.lookup f=some ⟨oc,od, .func (ku name qual params body scope dV kV doc pm an cdv ct),osl⟩)(hcd:w4 K cdv qual=true)(S:kX N ps scope)(len:∀vs H Q E,sp vs H Q E->vs.length=ps.length)(hbody:∀(A:Around) (outer:List Env) (s:Shared) (H:Hp) (vs:List V) (Q:VK) (E:XK),Room k (A.deeper (y9 qual scope s.heap.objs.size f cdv))->sp vs H Q E ->
   ∃t,PSs (zF CX P w K mg base N qual scope f cdv A outer s H E) body t/\t { nx:=λ_ H'=>Q .non H',rt:=Q } (aW N vs) H):
  FnOk P w K mg base CX (k+1) f (ku name qual params body scope dV kV doc pm an cdv ct) ps sp:=by
 refine⟨len,λA outer s H args us vs Q E hr e0 hb r hsp=>?_⟩
 have hl:=len _ _ _ _ hsp
 have KX:K.In s.heap:=e0.mod.kin.keeps λb o e=>(e0.bs b o e).1
 have lim:s.heap.NoLimit:=e0.mod.nolimit.keeps λb o e=>(e0.bs b o e).1
 have hkind:∀y∈ps.zip us,scope.names.lookup y.1=some .local\/(scope.names.lookup y.1=some .cell/\((km (s.heap.objs.size+1) scope.names []).lookup y.1).isSome=true):=λ⟨n,v⟩ hy=>by
  rcases S.par n (yz hy).1 with q | q
  ·exact .inl q
  ·exact .inr ⟨q,sf _ _ _ (.inl q)⟩
 refine codeAny_call_function hr.depth (KX _ _ lk) rfl S.co S.gen rfl (PySem.W.codeRec_of KX hcd) (hb _ _ _ _ ?_)
 refine wpAny_newFunctionEnv_cells S.kind hkind λenv he s1 x=>?_
 subst he
 refine⟨lim.keeps x.toInCall.keep,codeAny_func ?_⟩
 obtain⟨t,ht,hq⟩:=hbody A outer s H vs Q E (hr.deeper _) hsp
 have I:Inv (zF CX P w K mg base N qual scope f cdv A outer s H E) [] (aW N vs) H s1:=aCV S hr.hd e0 hl r x
 refine i9 (ht [] s1 (aW N vs) H _ I hq) (λfl s' hs=>?_) λe s' hs=>hs
 have fin:∀{σ':St}{H':Hp}{v:V}{u:Value},Inv (zF CX P w K mg base N qual scope f cdv A outer s H E) [] σ' H' s'->RelV v u->Q v H'->CE outer P w H s Q u s':=
  λ{σ' H' v u} J rv q=>⟨v,H',J.os,J.bare,J.base,J.hok,rv,q⟩
 cases fl with
 |ret u=>
  obtain⟨v,σ',H',J,rv,q⟩:=hs
  exact fin J rv q
 |next=>
  obtain⟨σ',H',J,q⟩:=hs
  exact fin (v:=V.non) (u:=Value.none) J rfl q
 |brk=>
  obtain⟨_,_,_,q⟩:=hs
  exact mj q
 |cont=>
  obtain⟨_,_,_,q⟩:=hs
  exact mj q
def tCB (r:List V->Hp->VK->Prop)(t:TA):TE:=λσ H Q=>t σ H λvs H1=>r vs H1 Q
theorem bE {x: Str}{p pos: Pos}{e: Expr}{es: List Expr}{t: TA}{id: String}{r: List V->Hp->VK->Prop}(hc:CallR X (.builtin id) r)(hg:Gl X x)(hm:X.mg x=none)(hv:fz x=some (.builtin id))(ha:PA X (e :: es) t)(hn:x≠"__name__":=by decide)(hdb:(x == ("__debug__" : Str))=false:=by decide)(he:ft (e :: es) X.env=(false,eval e X.env) :: ft es X.env:=by rfl)(hpl:(wc pos (ft es X.env)).any (·.1)=false:=by rfl):PE X (.Call (.Name x p) (e :: es) [] pos) (tCB r t):=by
 intro pins s σ H Q I h
 refine wg (oN I hg hm hv ?_ hn hdb)
 exact PyProof.Rows.callWith_builtin1 (thn (ha pos pins s σ H _ I h) λus s1 ⟨vs,H1,I1,r1,q1⟩=>hc pins s1 σ H1 vs us Q I1 r1 q1) he hpl
theorem eI {x: Str}{p pos: Pos}{e: Expr}{es: List Expr}{t: TA}{T: String}{r: List V->Hp->VK->Prop}(hc:CallR X (.type T) r)(hg:Gl X x)(hm:X.mg x=none)(hv:fz x=some (.type T))(ha:PA X (e :: es) t)(hn:x≠"__name__":=by decide)(hdb:(x == ("__debug__" : Str))=false:=by decide)(he:ft (e :: es) X.env=(false,eval e X.env) :: ft es X.env:=by rfl)(hpl:(wc pos (ft es X.env)).any (·.1)=false:=by rfl):PE X (.Call (.Name x p) (e :: es) [] pos) (tCB r t):=by
 intro pins s σ H Q I h
 refine wg (oN I hg hm hv ?_ hn hdb)
 exact j4 (thn (ha pos pins s σ H _ I h) λus s1 ⟨vs,H1,I1,r1,q1⟩=>hc pins s1 σ H1 vs us Q I1 r1 q1) he hpl
end L2
namespace HT
open PySem PyProof.Rows
def lexLt:List Int->List Int->Bool
 |[],[]=>false
 |[],_ :: _=>true
 |_ :: _,[]=>false
 |x :: xs,y :: ys=>if x=y then lexLt xs ys else decide (x<y)
theorem lexLt_cons (x y:Int)(xs ys:List Int):lexLt (x :: xs) (y :: ys)=if x=y then lexLt xs ys else decide (x<y):=rfl
theorem lexLt_nil_cons (y:Int)(ys:List Int):lexLt [] (y :: ys)=true:=rfl
theorem lexLt_cons_nil (x:Int)(xs:List Int):lexLt (x :: xs) []=false:=rfl
section
open PySem.SeqAt
open PySem.AutoSeq1 (wpAny_loadPart')
open PySem.MeetsSeq PySem.MeetsSeq2 PySem.MeetsSeq3
end
theorem cat_tup (ht:IsTup s.heap t vs.toArray)(hb:IsTup s.heap b ws.toArray)(hv:vs≠[])(h1:ws=[]->Q (.ref t) s)(h2:ws≠[]->Q (.ref s.heap.objs.size) { s with heap:=s.heap.push { cls := .type "tuple",data := .seq (vs++ws).toArray } })(hsz:vs.length+ws.length<=bx):wpAny (model prog w) A (mf .Add (.ref t) (.ref b)) Q E s:=by
 obtain⟨⟨cls,dd,data,sl⟩,ho,hc,n,hd⟩:=id ht
 obtain⟨⟨cls2,dd2,data2,sl2⟩,ho2,hc2,n2,hd2⟩:=id hb
 simp only at hc hd hc2 hd2
 subst hc hd hc2 hd2
 have e:vs.toArray++ws.toArray=(vs++ws).toArray:=by simp
 by_cases hw:ws=[]
 ·exact Bk ⟨_,ho,rfl⟩ ⟨_,ho2,rfl⟩ yn AQ sk rk (qy _ _)
   (tuple_addW1 t b vs.toArray ws.toArray n n2 dd dd2 sl sl2 (by simpa using hv) (by simp[hw])) ⟨ho,ho2,h1 hw⟩
 ·refine Bk ⟨_,ho,rfl⟩ ⟨_,ho2,rfl⟩ yn AQ sk rk (qy _ _)
   (tuple_addW2 t b vs.toArray ws.toArray n n2 dd dd2 sl sl2 (by simpa using hv) (by simpa using hw) (by rw[av,av];exact hsz)) ⟨ho,ho2,?_⟩
  rw[e]
  exact h2 hw
def sIx (n d:Nat):Option Int->Nat
 |none=>d
 |some v=>if v<0 then(v+(n:Int)).toNat else min v.toNat n
theorem sIx_none (n d:Nat):sIx n d none=d:=rfl
theorem sIx_nat (n d k:Nat):sIx n d (some (k:Int))=min k n:=by
 show(if(k:Int)<0 then((k:Int)+(n:Int)).toNat else min (k:Int).toNat n)=min k n
 rw[if_neg (by lia),dh]
theorem aLA (n d:Nat)(hd:d<=n)(o:Option Int):sIx n d o<=n:=by
 cases o with
 |none=>exact hd
 |some v=>
  show(if v<0 then(v+(n:Int)).toNat else min v.toNat n)<=n
  by_cases hv:v<0
  ·rw[if_pos hv];lia
  ·rw[if_neg hv];exact Nat.min_le_right _ _
theorem aDH (v:Int)(n d:Nat): (if v<0 then max (v+(n:Int)) 0 else min v (n:Int))=((sIx n d (some v):Nat):Int):=by
 show(if v<0 then max (v+(n:Int)) 0 else min v (n:Int))=(((if v<0 then(v+(n:Int)).toNat else min v.toNat n):Nat):Int)
 by_cases hv:v<0
 ·simp only[if_pos hv];lia
 ·simp only[if_neg hv];lia
theorem aCc (lo hi:Option Int)(n:Nat):qj lo hi 1 (n:Int)=(((sIx n 0 lo:Nat):Int),((sIx n n hi:Nat):Int)):=by
 have h1:¬ ((1:Int)<0):=by lia
 unfold qj
 simp only[h1,if_false]
 refine Prod.ext ?_ ?_
 ·cases lo with
  |none=>rfl
  |some v=>exact aDH v n 0
 ·cases hi with
  |none=>rfl
  |some v=>exact aDH v n n
theorem aCe (i j:Nat):l7 (i:Int) (j:Int) 1=j - i:=by
 unfold l7
 have h1:(1:Int) > 0:=by lia
 simp only[h1,if_true,Bl]
 split <;> lia
theorem tF (p:IsPart v o)(h:Q o s):wpAny (model prog w) A (Builtin.Slice.slicePartIndex v) Q E s:=by
 cases p with
 |none=>exact slicePart_none h
 |int i t=>exact slicePart_int h
theorem sliceApplied_gen {s: Shared}{sl: Addr}{vl vu: Value}{lo hi: Option Int}{n: Nat}(hs:s.heap.IsSliceOf sl vl vu .none)(pl:IsPart vl lo)(pu:IsPart vu hi)(h:Q (((sIx n 0 lo:Nat):Int),1,sIx n n hi - sIx n 0 lo) s):wpAny (model prog w) A (v7 (.ref sl) (pure (n:Int))) Q E s:=by
 obtain⟨os,hos,hcs,hds⟩:=id hs
 unfold v7 Builtin.Slice.sliceFields
 refine af (af (ib hos hds (x:=vl) rfl (af (ib hos hds (x:=vu) rfl (af (ib hos hds (x := .none) rfl (aq ?_)))))))
 refine af (slicePart_none ?_)
 show wpAny _ _ (if((1:Int) == 0)=true then _ else _) _ _ s
 rw[if_neg (by decide)]
 refine af (tF pl (af (tF pu (af (aq ?_)))))
 show wpAny _ _ (match qj lo hi 1 (n:Int) with | (lo,hi)=>pure (lo,(1:Int),l7 lo hi 1)) _ _ s
 rw[aCc lo hi n]
 show wpAny _ _ (pure (((sIx n 0 lo:Nat):Int),(1:Int),l7 ((sIx n 0 lo:Nat):Int) ((sIx n n hi:Nat):Int) 1)) _ _ s
 rw[aCe]
 exact aq h
theorem aGF (xs:Array Value)(i k:Nat): ((ao k).filterMap λ(m:Nat)=>xs[((i:Int)+(m:Int)*1).toNat]?).toArray=((xs.toList.drop i).take k).toArray:=by
 have e:(λ(m:Nat)=>xs[((i:Int)+(m:Int)*1).toNat]?)=λm=>xs[i+m]?:=by
  funext m
  have:((i:Int)+(m:Int)*1).toNat=i+m:=by lia
  rw[this]
 rw[e]
 have:=pick_run xs i k
 rw[List.filterMap_map] at this
 have e2:((λx=>xs[x]?)∘λx=>i+x)=λm=>xs[i+m]?:=rfl
 rw[e2] at this
 rw[this]
theorem getItem_tuple_cut {s: Shared}{t sl: Addr}{items: Array Value}{vl vu: Value}{lo hi: Option Int}(ht:IsTup s.heap t items)(hs:s.heap.IsSliceOf sl vl vu .none)(pl:IsPart vl lo)(pu:IsPart vu hi)(hw:¬ (sIx items.size 0 lo=0/\sIx items.size items.size hi=items.size))(h:Q (.ref s.heap.objs.size) { s with heap:=s.heap.push { cls := .type "tuple",data := .seq ((items.toList.drop (sIx items.size 0 lo)).take (sIx items.size items.size hi - sIx items.size 0 lo)).toArray } })(hsz:items.size<=bx):wpAny (model prog w) A (yc (.ref t) (.ref sl)) Q E s:=by
 have htake:sizeOk (.seq ((items.toList.drop (sIx items.size 0 lo)).take (sIx items.size items.size hi - sIx items.size 0 lo)).toArray):=by
  show((items.toList.drop (sIx items.size 0 lo)).take (sIx items.size items.size hi - sIx items.size 0 lo)).toArray.size<=bx
  rw[av,c9,gp,fm]
  lia
 have hj:sIx items.size items.size hi<=items.size:=aLA _ _ (bc _) hi
 obtain⟨os,hos,hcs,hds⟩:=id hs
 have hTs:s.TypeIs (.ref sl) "slice":=⟨os,hos,hcs⟩
 unfold yc
 try with_reducible refine gj ?_
 first | refine af (aq ?_) | skip
 refine af (wpAny_sequenceKey ht.typeIs (by decide) ?_)
 refine af (gh (name:=lr "__getitem__") ht.typeIs ic
  (gf ic ht.typeIs Ax ?_ (args_tuple_getitem _ _)))
 show wpAny _ _ (v8 (.ref t) >>= _) _ _ s
 refine af (tupleItemsOf_ ht ?_)
 refine af (t8 hTs ?_)
 rw[if_pos (by decide)]
 refine af (sliceApplied_gen hs pl pu ?_)
 have hno:¬ ((((sIx items.size 0 lo:Nat):Int) == 0 && (1:Int) == 1 && (sIx items.size items.size hi - sIx items.size 0 lo) == items.size)=true):=by
  intro q
  rw[dn,dn] at q
  have q1:((sIx items.size 0 lo:Nat):Int)=0:=vc q.1.1
  have q2:sIx items.size items.size hi - sIx items.size 0 lo=items.size:=vc q.2
  exact hw ⟨by lia,by lia⟩
 show wpAny _ _ (if(((sIx items.size 0 lo:Nat):Int) == 0 && (1:Int) == 1 && (sIx items.size items.size hi - sIx items.size 0 lo) == items.size)=true then _ else _) _ _ s
 rw[if_neg hno,aGF]
 first
  |exact af (m:=mq _) (gn (aq ⟨_,rfl,aq h⟩) htake)
  |exact af (m:=mq _) (gn (af (aq (aq ⟨_,rfl,aq h⟩))) htake)
  |exact af (af (m:=mq _) (gn (aq (aq ⟨_,rfl,aq h⟩)) htake))
  |exact af (af (m:=mq _) (gn (aq ⟨_,rfl,aq h⟩) htake))
end HT
namespace L2
open PySem PySem.Spec PyProof.Rows
abbrev TO:= St->Hp->(Option Int->Hp->Prop)->Prop
def PO (X:Cx)(e:Option Expr)(t:TO):Prop:=
 ∀(pins:List (Addr×Obj)) (s:Shared) (σ:St) (H:Hp) (Q:Option Int->Hp->Prop),Inv X pins σ H s->t σ H Q ->
  wpAny (model X.prog X.w) X.A (evalPart e X.env) (λu s'=>∃o H',Inv X pins σ H' s'/\IsPart u o/\Q o H') X.xe s
def eX:TO:=λ_ H Q=>Q none H
def kA (t:TE):TO:=λσ H Q=>t σ H λx H1=>∃i,x = .int i/\Q (some i) H1
theorem cD:∀{us:List Value},Vals (ns.map V.int) us->IntsAre us ns:=by
 induction ns with
 |nil=>intro us r;rw[og] at r;cases r;exact .nil
 |cons n ns ih=>
  intro us r
  rw[cf] at r
  cases r with
  |cons r1 r2=>
   obtain⟨t,e⟩:=r1
   subst e
   exact .cons n t (ih r2)
theorem aIC:PO X none eX:=by
 intro pins s σ H Q I h
 rw[evalPart_none]
 exact aq ⟨none,H,I, .none,h⟩
theorem aJd (h:PE X e te):PO X (some e) (kA te):=by
 intro pins s σ H Q I hw
 rw[evalPart_some]
 refine thn (h pins s σ H _ I hw) λu s1 ⟨x,H1,I1,r1,q1⟩=>?_
 obtain⟨i,rfl,q⟩:=q1
 obtain⟨t,rfl⟩:=r1
 exact⟨some i,H1,I1, .int i t,q⟩
def SlR (X:Cx)(r:V->Option Int->Option Int->Hp->VK->Prop):Prop:=
 ∀(pins:List (Addr×Obj)) (s:Shared) (σ:St) (H:Hp) (x:V) (v vl vu:Value) (lo hi:Option Int) (sl:Addr) (Q:VK),Inv X pins σ H s->RelV x v->s.heap.IsSliceOf sl vl vu .none->IsPart vl lo->IsPart vu hi->r x lo hi H Q ->
  ∃T id,typeLookup (.type T) "__getitem__" = pure (some (.builtin id))/\s.TypeIs v T/\wpAny (model X.prog X.w) X.A (yc v (.ref sl)) (EP X pins σ Q) X.xe s
theorem SlR.or (h:SlR X r)(h':SlR X r'):SlR X (λx lo hi H Q=>r x lo hi H Q\/r' x lo hi H Q):=by
 intro pins s σ H x v vl vu lo hi sl Q I rx hs pl pu q
 rcases q with q | q
 ·exact h pins s σ H x v vl vu lo hi sl Q I rx hs pl pu q
 ·exact h' pins s σ H x v vl vu lo hi sl Q I rx hs pl pu q
def tSl (r:V->Option Int->Option Int->Hp->VK->Prop)(te:TE)(tl th:TO):TE:=λσ H Q=>te σ H λx H1=>tl σ H1 λl H2=>th σ H2 λu H3=>r x l u H3 Q
theorem aGw {e: Expr}{te: TE}{lo hi: Option Expr}{tl th: TO}{pos p2: Pos}{r: V->Option Int->Option Int->Hp->VK->Prop}(hr:SlR X r)(he:PE X e te)(hl:PO X lo tl)(hu:PO X hi th):PE X (.Subscript e (.Slice lo hi none p2) pos) (tSl r te tl th):=by
 intro pins s σ H Q I h
 refine Subscript_ (thn (he pins s σ H _ I h) λv s1 ⟨x,H1,I1,r1,q1⟩=>?_)
 refine wpAny_Slice (thn (hl pins s1 σ H1 _ I1 q1) λvl s2 ⟨l,H2,I2,pl,q2⟩=>thn (hu pins s2 σ H2 _ I2 q2) λvu s3 ⟨u,H3,I3,pu,q3⟩=>?_)
 rw[evalPart_none]
 refine aq ?_
 have I4:Inv X pins σ H3 { s3 with heap:=s3.heap.push { cls := .type "slice",data := .fields #[vl,vu, .none] } }:=I3.kept (t':=s3.toks) λb ob q=>ak _ q
 obtain⟨T,id,hT,ht,hg⟩:=hr pins { s3 with heap:=s3.heap.push { cls := .type "slice",data := .fields #[vl,vu, .none] } } σ H3 x v vl vu l u s3.heap.objs.size Q I4 r1 (Heap.IsSliceOf.new ..) pl pu q3
 show wpAny (model X.prog X.w) X.A (AR e (.Slice lo hi none p2) v (.ref s3.heap.objs.size)) (EP X pins σ Q) X.xe { s3 with heap:=s3.heap.push { cls := .type "slice",data := .fields #[vl,vu, .none] } }
 exact tail_any (ops:=[.ref s3.heap.objs.size,v]) ht hT hg (by with_unfolding_all rfl)
def rO (xs:List V)(lo hi:Option Int):List V:=(xs.drop (HT.sIx xs.length 0 lo)).take (HT.sIx xs.length xs.length hi - HT.sIx xs.length 0 lo)
theorem rD (xs:List V)(lo hi:Option Int): (rO xs lo hi).length<=xs.length:=by
 unfold rO
 rw[c9,gp]
 lia
def aPj (K:aa):V->Option Int->Option Int->Hp->VK->Prop:=λx lo hi H Q=>∃a xs,x = .ref a/\SqT K H a xs /\
 ¬ (HT.sIx xs.length 0 lo=0/\HT.sIx xs.length xs.length hi=xs.length)/\∀p,H p=none->Q (.ref p) (upd H p (.tup (rO xs lo hi)))
theorem aLh:SlR X (aPj X.K):=by
 intro pins s σ H x v vl vu lo hi sl Q I rx hs pl pu h
 obtain⟨a,xs,rfl,hx,hw,q⟩:=h
 cases rx
 obtain⟨its,r,ht,hz⟩:=I.tuple hx
 have hlen:its.toArray.size=xs.length:=by rw[av];exact r.length.symm
 refine⟨"tuple",_,ic.lookup,ht.typeIs,?_⟩
 refine HT.getItem_tuple_cut ht hs pl pu (by rw[hlen];exact hw) ?_ (by rw[hlen];exact hz)
 rw[hlen]
 refine⟨.ref s.heap.objs.size,_,I.laid (t':=s.toks) (o := .tup (rO xs lo hi)) (λb ob q=>ak _ q) (bc _) ?_,rfl,q _ (I.hok.fresh (bc _))⟩
 exact⟨de (rD xs lo hi) hz,_,(r.drop (HT.sIx xs.length 0 lo)).take (HT.sIx xs.length xs.length hi - HT.sIx xs.length 0 lo),TupN.new _ _⟩
def aNZ (K:aa):R2:=λx y H Q=>∃a b xs ys,x = .ref a/\y = .ref b/\SqT K H a xs/\SqT K H b ys/\xs≠[]/\xs.length+ys.length<=bx /\
 (ys=[]->Q (.ref a) H)/\(ys≠[]->∀p,H p=none->Q (.ref p) (upd H p (.tup (xs++ys))))
theorem Vals.nil_iff (r:Vals xs us):us=[]↔xs=[]:=by
 cases r with
 |nil=>simp
 |cons _ _=>simp
theorem aJu:OpR X (mf .Add) (aNZ X.K):=by
 intro pins s σ H x y v u Q I rx ry h
 obtain⟨a,b,xs,ys,rfl,rfl,ha,hb,hx,hz,q1,q2⟩:=h
 cases rx
 cases ry
 obtain⟨its,r1,p1,_⟩:=I.tuple ha
 obtain⟨its2,r2,p2,_⟩:=I.tuple hb
 refine HT.cat_tup p1 p2 (λz=>hx (r1.nil_iff.mp z)) (λz=>⟨.ref a,H,I,rfl,q1 (r2.nil_iff.mp z)⟩) (λz=>?_) (by rw[<- r1.length,<- r2.length];exact hz)
 refine⟨.ref s.heap.objs.size,_,I.laid (t':=s.toks) (o := .tup (xs++ys)) (λb ob q=>ak _ q) (bc _) ?_,rfl,q2 (λw=>z (r2.nil_iff.mpr w)) _ (I.hok.fresh (bc _))⟩
 exact⟨by rw[au];exact hz,_,r1.append r2,TupN.new _ _⟩
def ixN (n:Nat)(i:Int):Option Nat:=if 0<=i then(if i<n then some i.toNat else none) else if -(n:Int)<=i then some (i+n).toNat else none
def atI {α:Type}(xs:List α)(i:Int):Option α:=(ixN xs.length i).bind λj=>xs[j]?
theorem aDY (h:ixN n i=some j):seqIndex? i n=some j/\j<n/\-(n:Int)<=i/\i<n:=by
 unfold ixN at h
 by_cases h0:0<=i
 ·rw[if_pos h0] at h
  by_cases h1:i<n
  ·rw[if_pos h1] at h
   have e:i.toNat=j:=bo h
   exact⟨by rw[Bx h0 h1,e],by lia,by lia,h1⟩
  ·rw[if_neg h1] at h;cases h
 ·rw[if_neg h0] at h
  by_cases h1:-(n:Int)<=i
  ·rw[if_pos h1] at h
   have e:(i+n).toNat=j:=bo h
   exact⟨by rw[Bm (by lia) h1,e],by lia,h1,by lia⟩
  ·rw[if_neg h1] at h;cases h
theorem aFw (h:atI xs i=some v):∃j,seqIndex? i xs.length=some j/\xs[j]?=some v/\j<xs.length/\-(xs.length:Int)<=i/\i<xs.length:=by
 unfold atI at h
 cases e:ixN xs.length i with
 |none=>rw[e] at h;cases h
 |some j=>
  rw[e] at h
  obtain⟨h1,h2,h3,h4⟩:=aDY e
  exact⟨j,h1,h,h2,h3,h4⟩
theorem aDC {α: Type}{xs: List α}{j: Nat}{v: α}(h:xs[j]?=some v):atI xs (j:Int)=some v:=by
 have hj:j<xs.length:=(ai.mp h).1
 have e:ixN xs.length (j:Int)=some j:=by
  unfold ixN
  rw[if_pos (by lia),if_pos (by lia)];simp
 unfold atI;rw[e];exact h
def aIM (b:Expr):Prop:=∀o i,Ay b false o i=operate [o,i] (yc o i)
def IxR (X:Cx)(r:R2):Prop:=
 ∀(value slice:Expr) (pins:List (Addr×Obj)) (s:Shared) (σ:St) (H:Hp) (x y:V) (v u:Value) (Q:VK),Inv X pins σ H s->RelV x v->RelV y u->r x y H Q ->
  Ay slice false v u=operate [v,u] (yc v u)->wpAny (model X.prog X.w) X.A (AR value slice v u) (EP X pins σ Q) X.xe s
def MtR (X:Cx)(id:String)(r:V->List V->Hp->VK->Prop):Prop:=
 ∀(pins:List (Addr×Obj)) (s:Shared) (σ:St) (H:Hp) (x:V) (xs:List V) (v:Value) (us:List Value) (Q:VK),Inv X pins σ H s->RelV x v->Vals xs us->r x xs H Q ->
  wpAny (model X.prog X.w) X.A (call (.builtin id) (v :: us)) (EP X pins σ Q) X.xe s
theorem IxR.or (h:IxR X r)(h':IxR X r'):IxR X (λx y H Q=>r x y H Q\/r' x y H Q):=by
 intro value slice pins s σ H x y v u Q I rx ry q hs
 rcases q with q | q
 ·exact h value slice pins s σ H x y v u Q I rx ry q hs
 ·exact h' value slice pins s σ H x y v u Q I rx ry q hs
theorem qE (hr:IxR X r)(ha:PE X a ta)(hb:PE X b tb)(hs:aIM b):PE X (.Subscript a b pos) (tOp r ta tb):=by
 intro pins s σ H Q I h
 exact Subscript_ (aNT ha hb I h λv u s2 x y H2 I2 rx ry q=>hr a b pins s2 σ H2 x y v u Q I2 rx ry q (hs _ _))
def aMY (K:aa):R2:=λx y H Q=>∃p xs i v,x = .ref p/\y = .int i/\SqL K H p xs/\atI xs i=some v/\Q v H
def aMU (K:aa):R2:=λx y H Q=>∃p xs i v,x = .ref p/\y = .int i/\SqT K H p xs/\atI xs i=some v/\Q v H
theorem aIG:IxR X (aMY X.K):=by
 intro value slice pins s σ H x y v u Q I rx ry h hs
 obtain⟨p,xs,i,z,rfl,rfl,hq,he,q⟩:=h
 cases rx
 obtain⟨t,rfl⟩:=ry
 obtain⟨its,r,pl,hz⟩:=I.list hq
 obtain⟨j,h1,h2,h3,h4,h5⟩:=aFw he
 obtain⟨w,ew,rw'⟩:=r.get h2
 have hl:=r.length
 have hn:=yQ
 have fin:EP X pins σ Q w s:=⟨z,H,I,rw',q⟩
 by_cases h0:0<=i
 ·have hj:i.toNat=j:=by
   rw[Bx h0 h5] at h1
   exact bo h1
  exact item_listR pl.isList h0 (by lia) (by rw[hj];simpa using ew) fin hs
 ·have hj:(i+(its.toArray.size:Int)).toNat=j:=by
   rw[Bm (by lia) h4] at h1
   rw[av,<- hl]
   exact bo h1
  exact yt (x:=w) pl.isList.typeIs slot_list_getitem.lookup
   (wpAny_getItem_list_neg (Q:=λr s'=>r=w/\EP X pins σ Q r s') pl.isList (by lia) (by rw[av] <;> lia) (by lia) (by rw[hj];simpa using ew) ⟨rfl,fin⟩) hs
theorem aMc:IxR X (aMU X.K):=by
 intro value slice pins s σ H x y v u Q I rx ry h hs
 obtain⟨p,xs,i,z,rfl,rfl,hq,he,q⟩:=h
 cases rx
 obtain⟨t,rfl⟩:=ry
 obtain⟨its,r,pl,hz⟩:=I.tuple hq
 obtain⟨j,h1,h2,h3,h4,h5⟩:=aFw he
 obtain⟨w,ew,rw'⟩:=r.get h2
 have hl:=r.length
 have hn:=yQ
 have fin:EP X pins σ Q w s:=⟨z,H,I,rw',q⟩
 exact yt (x:=w) pl.typeIs slot_tuple_getitem.lookup
  (getItem_tuple (j:=j) (Q:=λr s'=>r=w/\EP X pins σ Q r s') pl (by lia) (by lia) (by rw[av,<- hl];exact h1) (by simpa using ew) ⟨rfl,fin⟩) hs
theorem aCF (its:List Value)(n j:Nat)(u:Value):i4 (·.setIfInBounds j u) { cls := .type "list",data := .seq its.toArray n }={ cls := .type "list",data := .seq (its.set j u).toArray n }:=by
 simp[i4]
theorem Inv.lst {pins: List (Addr×Obj)}{σ: St}{H: Hp}{s: Shared}{p: Addr}{xs: List V}(I:Inv X pins σ H s)(h:H p=some (.lst xs)):
  ∃(its:List Value) (n:Nat),Vals xs its/\s.heap.get? p=some { cls := .type "list",data := .seq its.toArray n }/\xs.length<=bx:=by
 obtain⟨z,its,n,r,e⟩:=I.hok p _ h
 exact⟨its,n,r,e,z⟩
theorem Inv.lstUpd {pins: List (Addr×Obj)}{σ: St}{H: Hp}{s: Shared}{p: Addr}{xs ys: List V}{its its': List Value}{n n': Nat}{f: Obj->Obj}(I:Inv X pins σ H s)(h:H p=some (.lst xs))(ho:s.heap.get? p=some { cls := .type "list",data := .seq its.toArray n })(hf:f { cls := .type "list",data := .seq its.toArray n }={ cls := .type "list",data := .seq its'.toArray n' })(r:Vals ys its')(hz:ys.length<=bx)(t:Nat):
  Inv X pins σ (upd H p (.lst ys)) { s with heap:=s.heap.update p f,toks:=t }:=by
 have e:(s.heap.update p f).get? p=some { cls := .type "list",data := .seq its'.toArray n' }:=by
  rw[je f ho (by rw[hf] <;> rfl),hf]
 refine I.write (x:=p) (e:=p) (by rw[h];trivial) (.inl rfl) (λb u hb q=>(ky _ _ (gy hb)).trans q) ⟨_,e⟩ ?_
 exact⟨hz,its',n',r,e⟩
def cL:V->V->V->Hp->(Hp->Prop)->Prop:=λo i v H Q=>∃p xs k j,o = .ref p/\i = .int k/\H p=some (.lst xs)/\ixN xs.length k=some j/\Q (upd H p (.lst (xs.set j v)))
theorem aBS:aOD X cL:=by
 intro pins s σ H o i v ov iv u Q I ro ri rv h
 obtain⟨p,xs,k,j,rfl,rfl,hp,hj,q⟩:=h
 cases ro
 obtain⟨t,rfl⟩:=ri
 obtain⟨its,n,r,ho,hz⟩:=I.lst hp
 obtain⟨h1,h2,h3,h4⟩:=aDY hj
 have hl:=r.length
 have hn:=yQ
 have I':Inv X pins σ (upd H p (.lst (xs.set j v))) { s with heap:=s.heap.update p (i4 (·.setIfInBounds j u)) }:=
  I.lstUpd hp ho (aCF its n j u) (r.set rv j) (by rw[c8];exact hz) s.toks
 by_cases h0:0<=k
 ·have hk:k.toNat=j:=by
   rw[Bx h0 h4] at h1
   exact bo h1
  exact PySem.W.ki_setAt ho h0 (by lia) (by rw[av,<- hl];exact h4) (by rw[hk];exact⟨_,I',q⟩)
 ·have hk:(k+(its.toArray.size:Int)).toNat=j:=by
   rw[Bm (by lia) h3] at h1
   rw[av,<- hl]
   exact bo h1
  exact PySem.W.ki_setBack ho (by lia) (by rw[av,<- hl];exact h3) (by lia) (by rw[hk];exact⟨_,I',q⟩)
theorem wU (lo hi:Option Int)(n:Nat): (sv lo hi none n).1=((HT.sIx n 0 lo:Nat):Int)/\(sv lo hi none n).2.1=((HT.sIx n n hi:Nat):Int)/\(sv lo hi none n).2.2=1:=by
 refine⟨?_,?_,rfl⟩
 ·cases lo with
  |none=>simp[sv,HT.sIx]
  |some i=>
   simp only[sv,HT.sIx,Option.getD_none,show(1:Int) > 0 by decide,if_true]
   by_cases h:i<0
   ·simp only[h,if_true] <;> lia
   ·simp only[h,if_false] <;> lia
 ·cases hi with
  |none=>simp[sv,HT.sIx]
  |some i=>
   simp only[sv,HT.sIx,Option.getD_none,show(1:Int) > 0 by decide,if_true]
   by_cases h:i<0
   ·simp only[h,if_true] <;> lia
   ·simp only[h,if_false] <;> lia
theorem uS (its:List Value)(lo hi:Option Int):slicePick its.toArray lo hi none=((its.drop (HT.sIx its.length 0 lo)).take (HT.sIx its.length its.length hi - HT.sIx its.length 0 lo)).toArray:=by
 obtain⟨h1,h2,h3⟩:=wU lo hi its.toArray.size
 unfold slicePick
 rw[h1,h2,h3]
 simp only[sliceRange_one,pick_run,av] <;> rfl
def aOJ (K:aa):V->Option Int->Option Int->Hp->VK->Prop:=λx lo hi H Q=>∃a xs,x = .ref a/\SqL K H a xs/\∀p,H p=none->Q (.ref p) (upd H p (.lst (rO xs lo hi)))
theorem aJJ:SlR X (aOJ X.K):=by
 intro pins s σ H x v vl vu lo hi sl Q I rx hs pl pu h
 obtain⟨a,xs,rfl,hx,q⟩:=h
 cases rx
 obtain⟨its,r,ht,hz⟩:=I.list hx
 have hlen:=r.length
 refine⟨"list",_,slot_list_getitem.lookup,ht.isList.typeIs,?_⟩
 refine wpAny_getItem_list_slice ht.isList hs pl pu .none (by simp) ?_ (by rw[av] <;> lia)
 rw[uS,<- hlen]
 refine⟨.ref s.heap.objs.size,_,I.laid (t':=s.toks) (o := .lst (rO xs lo hi)) (λb ob q=>ak _ q) (bc _) ?_,rfl,q _ (I.hok.fresh (bc _))⟩
 exact⟨de (rD xs lo hi) hz,_,0,(r.drop (HT.sIx xs.length 0 lo)).take (HT.sIx xs.length xs.length hi - HT.sIx xs.length 0 lo),bp _ rfl⟩
def qA:V->Bool
 | .non=>true
 | .bl _=>true
 | .int _=>true
 | .str _=>true
 |_=>false
def eqV:V->V->Bool
 | .non, .non=>true
 | .bl a, .bl b=>a == b
 | .bl a, .int b=>(if a then 1 else 0) == b
 | .int a, .bl b=>a == (if b then 1 else 0)
 | .int a, .int b=>a == b
 | .str a, .str b=>a == b
 |_,_=>false
theorem aLl (ry:RelV y u)(rx:RelV x v)(fy:qA y=true)(fx:qA x=true):SeqAt.EqAt A s u v (eqV y x):=by
 cases y with
 |non=>
  cases ry
  cases x with
  |non=>cases rx;exact SeqAt.EqAt.same _
  |bl b=>cases rx;exact SeqAt.EqAt.none_bool b
  |int b=>obtain⟨t,rfl⟩:=rx;exact SeqAt.EqAt.none_int b t
  |str b=>obtain⟨t,rfl⟩:=rx;exact SeqAt.EqAt.none_str b t
  |_=>exact absurd (show false=true from fx) cy
 |bl a=>
  cases ry
  cases x with
  |non=>cases rx;exact SeqAt.EqAt.bool_none a
  |bl b=>cases rx;exact SeqAt.EqAt.bool_bool a b
  |int b=>obtain⟨t,rfl⟩:=rx;exact SeqAt.EqAt.bool_int a b t
  |str b=>obtain⟨t,rfl⟩:=rx;exact SeqAt.EqAt.bool_str a b t
  |_=>exact absurd (show false=true from fx) cy
 |int a=>
  obtain⟨t',rfl⟩:=ry
  cases x with
  |non=>cases rx;exact SeqAt.EqAt.int_none a t'
  |bl b=>cases rx;exact SeqAt.EqAt.int_bool a t' b
  |int b=>obtain⟨t,rfl⟩:=rx;exact SeqAt.EqAt.int_int a t' b t
  |str b=>obtain⟨t,rfl⟩:=rx;exact SeqAt.EqAt.int_str a t' b t
  |_=>exact absurd (show false=true from fx) cy
 |str a=>
  obtain⟨t',rfl⟩:=ry
  cases x with
  |non=>cases rx;exact SeqAt.EqAt.str_none a t'
  |bl b=>cases rx;exact SeqAt.EqAt.str_bool a t' b
  |int b=>obtain⟨t,rfl⟩:=rx;exact SeqAt.EqAt.str_int a t' b t
  |str b=>obtain⟨t,rfl⟩:=rx;exact SeqAt.EqAt.str_str a t' b t
  |_=>exact absurd (show false=true from fx) cy
 |_=>exact absurd (show false=true from fy) cy
def eqU (x:V)(u:Value):Bool:=match u with
 | .none=>eqV .non x
 | .bool b=>eqV (.bl b) x
 | .int i _=>eqV (.int i) x
 | .str z _=>eqV (.str z) x
 |_=>false
theorem aHX (r:RelV y u)(f:qA y=true):eqU x u=eqV y x:=by
 cases y with
 |non=>cases r;rfl
 |bl b=>cases r;rfl
 |int i=>obtain⟨t,rfl⟩:=r;rfl
 |str z=>obtain⟨t,rfl⟩:=r;rfl
 |_=>exact absurd (show false=true from f) cy
theorem oO:∀{xs:List V}{us:List Value},Vals xs us->xs.all qA=true->us.any (eqU x)=xs.any λy=>eqV y x
 |_,_, .nil,_=>rfl
 |y :: xs,u :: us, .cons r t,f=>by
  rw[uv,dn] at f
  rw[uw,uw,aHX r f.1,oO t f.2]
theorem jO (rx:RelV x v)(fx:qA x=true):∀{xs:List V}{us:List Value},Vals xs us->xs.all qA=true->∀u∈us,SeqAt.EqAt A s u v (eqU x u)
 |_,_, .nil,_=>λu hu=>by cases hu
 |y :: xs,u :: us, .cons r t,f=>λu' hu=>by
  rw[uv,dn] at f
  rcases bq.mp hu with rfl | hu
  ·rw[aHX r f.1];exact aLl r rx f.1 fx
  ·exact jO rx fx t f.2 u' hu
def inV (x:V)(xs:List V):Bool:=xs.any λy=>eqV y x
def rIn (K:aa)(neg:Bool):R2:=λx y H Q=>∃p xs,y = .ref p/\(SqL K H p xs\/SqT K H p xs)/\qA x=true/\xs.all qA=true/\Q (.bl (if neg then !inV x xs else inV x xs)) H
theorem aEA:OpR X (jd .In) (rIn X.K false):=by
 intro pins s σ H x y v u Q I rx ry h
 obtain⟨p,xs,rfl,hq,fx,fs,q⟩:=h
 cases ry
 rcases hq with hq | hq
 ·obtain⟨its,r,pl,hz⟩:=I.list hq
  refine SeqAt.in_listAt (eqU x) pl.isList (λw hw=>jO rx fx r fs w (by simpa using hw)) ⟨.bl _,H,I,rfl,?_⟩
  rw[show its.toArray.any (eqU x)=its.any (eqU x) by simp,oO r fs]
  exact q
 ·obtain⟨its,r,pl,hz⟩:=I.tuple hq
  refine SeqAt.in_tupleAt (eqU x) pl (λw hw=>jO rx fx r fs w (by simpa using hw)) ⟨.bl _,H,I,rfl,?_⟩
  rw[show its.toArray.any (eqU x)=its.any (eqU x) by simp,oO r fs]
  exact q
theorem xP:OpR X (jd .NotIn) (rIn X.K true):=by
 intro pins s σ H x y v u Q I rx ry h
 obtain⟨p,xs,rfl,hq,fx,fs,q⟩:=h
 cases ry
 rcases hq with hq | hq
 ·obtain⟨its,r,pl,hz⟩:=I.list hq
  refine SeqAt.notIn_listAt (eqU x) pl.isList (λw hw=>jO rx fx r fs w (by simpa using hw)) ⟨.bl _,H,I,rfl,?_⟩
  rw[show its.toArray.any (eqU x)=its.any (eqU x) by simp,oO r fs]
  exact q
 ·obtain⟨its,r,pl,hz⟩:=I.tuple hq
  refine SeqAt.notIn_tupleAt (eqU x) pl (λw hw=>jO rx fx r fs w (by simpa using hw)) ⟨.bl _,H,I,rfl,?_⟩
  rw[show its.toArray.any (eqU x)=its.any (eqU x) by simp,oO r fs]
  exact q
theorem xL:CallR X (.builtin "len") (λxs H Q=>∃p ys,xs=[.ref p]/\(SqL X.K H p ys\/SqT X.K H p ys)/\Q (.int ys.length) H):=by
 intro pins s σ H xs us Q I r h
 obtain⟨p,ys,rfl,hq,q⟩:=h
 obtain⟨u,rfl,rx⟩:=yG r
 cases rx
 have hn:=yQ
 rcases hq with hq | hq
 ·obtain⟨its,r',pl,hz⟩:=I.list hq
  have hlen:=r'.length
  exact Calls.call_len_list pl.isList (by simp only[av] <;> lia) ⟨.int ys.length,H,I.tok _,⟨s.toks+1,by rw[av,hlen]⟩,q⟩
 ·obtain⟨its,r',pl,hz⟩:=I.tuple hq
  have hlen:=r'.length
  exact len_tuple pl (by simp only[av] <;> lia) ⟨.int ys.length,H,I.tok _,⟨s.toks+1,by rw[av,hlen]⟩,q⟩
theorem CallR.or (h:CallR X f r)(h':CallR X f r'):CallR X f (λxs H Q=>r xs H Q\/r' xs H Q):=by
 intro pins s σ H xs us Q I rs q
 rcases q with q | q
 ·exact h pins s σ H xs us Q I rs q
 ·exact h' pins s σ H xs us Q I rs q
theorem wV:CallR X (.type "list") (λxs H Q=>∃p ys,xs=[.ref p]/\(SqL X.K H p ys\/SqT X.K H p ys)/\∀l,H l=none->Q (.ref l) (upd H l (.lst ys))):=by
 intro pins s σ H xs us Q I r h
 obtain⟨p,ys,rfl,hq,q⟩:=h
 obtain⟨u,rfl,rx⟩:=yG r
 cases rx
 have fin:∀(its:List Value),Vals ys its->ys.length<=bx->∀(h':Heap) (c':Nat),(∀b o',s.heap.get? b=some o'->h'.get? b=some o') ->
   h'.get? s.heap.objs.size=some { cls := .type "list",dict:=none,data := .seq its.toArray c',slots:=#[] }->EP X pins σ Q (.ref s.heap.objs.size) { s with heap:=h' }:=λits r' hz h' c' kp e=>
  ⟨.ref s.heap.objs.size,_,I.laid (t':=s.toks) kp (bc _) (show ObjOk X.prog X.w _ h' _ (.lst ys) from⟨hz,its,c',r',e⟩),rfl,q _ (I.hok.fresh (bc _))⟩
 rcases hq with hq | hq
 ·obtain⟨its,r',pl,hz⟩:=I.list hq
  have hlen:=r'.length
  obtain⟨o,ho,hc,n,hd⟩:=pl.isList
  exact call_list_seq p (.inl rfl) ho hc hd (λh' c' kp e=>fin its r' hz h' c' kp e) (by simp only[av] <;> lia)
 ·obtain⟨its,r',pl,hz⟩:=I.tuple hq
  have hlen:=r'.length
  obtain⟨o,ho,hc,n,hd⟩:=pl
  exact call_list_seq p (.inr rfl) ho hc hd (λh' c' kp e=>fin its r' hz h' c' kp e) (by simp only[av] <;> lia)
theorem vK:CallR X (.type "tuple") (λxs H Q=>∃p ys,xs=[.ref p]/\((SqL X.K H p ys/\∀l,H l=none->Q (.ref l) (upd H l (.tup ys)))\/(SqT X.K H p ys/\Q (.ref p) H))):=by
 intro pins s σ H xs us Q I r h
 obtain⟨p,ys,rfl,h⟩:=h
 obtain⟨u,rfl,rx⟩:=yG r
 cases rx
 rcases h with⟨hq,q⟩ | ⟨hq,q⟩
 ·obtain⟨its,r',pl,hz⟩:=I.list hq
  have hlen:=r'.length
  refine call_tuple_list pl.isList (λh' kp=>?_) (by simp only[av] <;> lia)
  have I1:Inv X pins σ H { s with heap:=h' }:=I.kept (t':=s.toks) kp
  have I2:Inv X pins σ (upd H h'.objs.size (.tup ys)) { s with heap:=h'.push { cls := .type "tuple",data := .seq its.toArray } }:=
   I1.laid (t':=s.toks) (λb o e=>ak _ e) (bc _) (show ObjOk X.prog X.w _ _ _ (.tup ys) from⟨hz,its,r',TupN.new _ _⟩)
  exact⟨.ref h'.objs.size,_,I2,rfl,q _ (I1.hok.fresh (bc _))⟩
 ·obtain⟨its,r',pl,hz⟩:=I.tuple hq
  exact call_tuple_same pl ⟨.ref p,H,I,rfl,q⟩
def tyV (K:aa)(T:String)(x:V)(H:Hp):Prop:=match x with
 | .str _=>T="str"
 | .int _=>T="int"
 | .ref p=>(T="list"/\∃xs,SqL K H p xs)\/(T="tuple"/\∃o,K.lookup p=some o/\o.cls = .type "tuple"/\o.dict=none) \/
   (T="dict"/\((∃kvs,H p=some (.dK kvs))\/∃kvs,H p=some (.dT kvs)))\/(T="set"/\∃S n,H p=some (.set S n))
 |_=>False
theorem aME {pins: List (Addr×Obj)}{σ: St}{H: Hp}{s: Shared}{T: String}{x: V}{v: Value}(I:Inv X pins σ H s)(r:RelV x v)(ty:tyV X.K T x H):
  s.TypeIs v T/\∀a,v = .ref a->∃ob,s.heap.get? a=some ob/\ob.dict=none:=by
 cases x with
 |str z=>
  obtain⟨t,rfl⟩:=r
  cases (show T="str" from ty)
  exact⟨typeIs_str s z t,λ_ e=>nomatch e⟩
 |int i=>
  obtain⟨t,rfl⟩:=r
  cases (show T="int" from ty)
  exact⟨typeIs_int s i t,λ_ e=>nomatch e⟩
 |ref p=>
  cases r
  rcases ty with⟨rfl,xs,hq⟩ | ⟨rfl,o,hk,hc,hd⟩ | ⟨rfl,hk⟩ | ⟨rfl,S,n,hk⟩
  ·obtain⟨its,_,pl,_⟩:=I.list hq
   refine⟨pl.isList.typeIs,λa e=>?_⟩
   cases e
   obtain⟨o,n,e,c,hd,_⟩:=pl
   exact⟨o,e,hd⟩
  ·refine⟨⟨o,I.kIn p o hk,hc⟩,λa e=>?_⟩
   cases e
   exact⟨o,I.kIn _ o hk,hd⟩
  ·have z:∃o,s.heap.get? p=some o/\o.ExactDict:=by
    rcases hk with⟨kvs,hk⟩ | ⟨kvs,hk⟩
    ·obtain⟨_,_,_,_,o,_,_,e,ex,_⟩:=I.hok p _ hk
     exact⟨o,e,ex⟩
    ·obtain⟨_,_,_,_,o,_,_,e,ex,_⟩:=I.hok p _ hk
     exact⟨o,e,ex⟩
   obtain⟨o,e,ex⟩:=z
   refine⟨⟨o,e,ex.1⟩,λa e2=>?_⟩
   cases e2
   exact⟨o,e,ex.2.1⟩
  ·obtain⟨o,_,_,_,e,ex,_⟩:=I.hok p _ hk
   refine⟨⟨o,e,ex.1⟩,λa e2=>?_⟩
   cases e2
   exact⟨o,e,ex.2.1⟩
 |_=>exact mj ty
def tBM (K:aa)(T:String)(r:V->List V->Hp->VK->Prop)(to:TE)(t:TA):TE:=λσ H Q=>to σ H λx H1=>tyV K T x H1/\t σ H1 λxs H2=>r x xs H2 Q
theorem aNH {o e: Expr}{es: List Expr}{to: TE}{t: TA}{name: Str}{apos cpos: Pos}{T id: String}{r: V->List V->Hp->VK->Prop}(pa:PlainAttrs T)(slot:Slot T name id)(hty:typeOf (.builtin id)=pure (.type "method_descriptor"))(hm:MtR X id r)(ho:PE X o to)(ha:PA X (e :: es) t)(hbase:attributeBase o name X.env (eval o X.env)=eval o X.env:=by rfl)(hfew:((wc cpos (ft (e :: es) X.env)).all (λx=>!x.1) && (backToKw cpos (keywordEach [] X.env)).all (λx=>x.1.isSome)
   && decide ((e :: es).length+([]:List Keyword).length+(if([]:List Keyword).isEmpty then 0 else 1)<30))=true:=by rfl)(hline:(apos.endLine == cpos.line)=true:=by rfl)(hs:ft (e :: es) X.env=(false,eval e X.env) :: ft es X.env:=by rfl)(hplain:(wc cpos (ft es X.env)).any (·.1)=false:=by rfl):
  PE X (.Call (.Attribute o name apos) (e :: es) [] cpos) (tBM X.K T r to t):=by
 intro pins s σ H Q I h
 refine wpAny_Call_method_late hbase hfew hline rfl (thn (ho pins s σ H _ I h) λv s1 ⟨x,H1,I1,r1,ty,q1⟩=>?_)
 obtain⟨h1,h2⟩:=aME I1 r1 ty
 refine⟨T,id,pa,slot,hty,h1,h2,?_⟩
 have hA:=ha cpos pins s1 σ H1 _ I1 q1
 rw[hs] at hA ⊢
 refine Calls.callWith_builtin (by show(false || (wc cpos (ft es X.env)).any (·.1))=false;rw[hplain] <;> rfl) (Ai ?_)
 exact thn hA λus s2 ⟨vs,H2,I2,r2,q2⟩=>hm pins s2 σ H2 x vs v us Q I2 r1 r2 q2
def MtM (X:Cx)(id:String)(r:V->List V->Hp->VK->Prop):Prop:=
 ∀(pins:List (Addr×Obj)) (s:Shared) (σ:St) (H:Hp) (x:V) (xs:List V) (v:Value) (us:List Value) (Q:VK),Inv X pins σ H s->RelV x v->Vals xs us->r x xs H Q ->
  wpAny (model X.prog X.w) X.A (call (.builtin id) (v :: us)) (EP X pins σ Q) X.xe s
theorem Vals.one:∀{x:V}{us:List Value},Vals [x] us->∃u,us=[u]/\RelV x u
 |_,_, .cons r .nil=>⟨_,rfl,r⟩
theorem Vals.two:∀{x y:V}{us:List Value},Vals [x,y] us->∃u v,us=[u,v]/\RelV x u/\RelV y v
 |_,_,_, .cons r (.cons q .nil)=>⟨_,_,rfl,r,q⟩
theorem Vals.eraseIdx:∀{xs:List V}{us:List Value} (i:Nat),Vals xs us->Vals (xs.eraseIdx i) (us.eraseIdx i)
 |_,_,_, .nil => .nil
 |_,_,0, .cons _ t=>t
 |_,_,i+1, .cons r t => .cons r (Vals.eraseIdx i t)
theorem Vals.rep (h:Vals xs us):∀k:Nat,Vals (dy k xs).flatten (dy k us).flatten
 |0 => .nil
 |k+1=>by
  rw[my,my,tf,tf]
  exact Vals.append h (Vals.rep h k)
theorem wI (its:List Value):∀(k:Nat) (acc:List Value),
  List.foldl (λx1 x2=>x1++x2) acc.toArray (dy k its.toArray)=(acc++(dy k its).flatten).toArray
 |0,acc=>by simp
 |k+1,acc=>by
  have e:acc.toArray++its.toArray=(acc++its).toArray:=by simp
  have e2:(acc++its)++(dy k its).flatten=acc++(dy (k+1) its).flatten:=by
   rw[my,tf,gq]
  rw[<- e2,<- wI its k (acc++its),<- e,my,List.foldl_cons]
theorem Inv.lset {pins: List (Addr×Obj)}{σ: St}{H: Hp}{s: Shared}{l: Addr}{xs ys: List V}{its its': List Value}{n: Nat}{f: Array Value->Array Value}{t': Nat}(I:Inv X pins σ H s)(hH:H l=some (.lst xs))(e:s.heap.get? l=some { cls := .type "list",data := .seq its.toArray n })(hf:f its.toArray=its'.toArray)(hv:Vals ys its')(hz:ys.length<=bx):
  Inv X pins σ (upd H l (.lst ys)) { s with heap:=s.heap.update l (i4 f),toks:=t' }:=by
 have q:=PySem.IsL.update e f
 rw[hf] at q
 refine I.write (x:=l) (e:=l) (by rw[hH];exact trivial) (.inl rfl) (λb' u hb hu=>(ky s.heap (i4 f) (gy hb)).trans hu) ⟨_,q⟩ ?_
 exact⟨hz,its',_,hv,q⟩
theorem Inv.lnew {pins: List (Addr×Obj)}{σ: St}{H: Hp}{s: Shared}{ys: List V}{its: List Value}{t': Nat}(I:Inv X pins σ H s)(hv:Vals ys its)(hz:ys.length<=bx):
  Inv X pins σ (upd H s.heap.objs.size (.lst ys)) { s with heap:=s.heap.push { cls := .type "list",data := .seq its.toArray },toks:=t' }:=
 I.laid (λ_ _ q=>ak _ q) (bc _) ⟨hz,its,0,hv,bp _ rfl⟩
theorem Inv.fresh {pins: List (Addr×Obj)}{σ: St}{H: Hp}{s: Shared}(I:Inv X pins σ H s):H s.heap.objs.size=none:=I.hok.fresh (bc _)
theorem Inv.lstM {pins: List (Addr×Obj)}{σ: St}{H: Hp}{s: Shared}{l: Addr}{xs: List V}(I:Inv X pins σ H s)(hH:H l=some (.lst xs)):xs.length<=bx/\∃(its:List Value) (n:Nat),Vals xs its/\xs.length=its.length/\s.heap.get? l=some { cls := .type "list",data := .seq its.toArray n }:=by
 obtain⟨z,its,n,r,e⟩:=I.hok l _ hH
 exact⟨z,its,n,r,r.length,e⟩
theorem aFE (h:n<=bx):qz n=false:=by
 unfold qz
 exact decide_eq_false (by lia)
def eA:V->List V->Hp->VK->Prop:=λx vs H Q=>∃l xs y,x = .ref l/\vs=[y]/\H l=some (.lst xs)/\xs.length<bx/\Q .non (upd H l (.lst (xs++[y])))
theorem iU:MtM X "list.append" eA:=by
 intro pins s σ H x vs v us Q I rx rv h
 obtain⟨l,xs,y,rfl,rfl,hH,hz,q⟩:=h
 cases rx
 obtain⟨u,rfl,ru⟩:=rv.one
 obtain⟨z,its,n,r,hl,e⟩:=I.lstM hH
 refine Bc F.slot_list_append ⟨_,e,rfl⟩ F.entry_list_append (F.args_list_append_2 _ _) (PySem.list_append l its.toArray n u (by rw[av];lia)) ⟨e,?_⟩
 refine⟨.non,_,I.lset (its':=its++[u]) hH e (by simp) (r.append (.cons ru .nil)) ?_,rfl,q⟩
 rw[au,oh]
 lia
def aOG:R2:=λx y H Q=>∃l b xs zs,x = .ref l/\y = .ref b/\H l=some (.lst xs)/\H b=some (.lst zs)/\xs.length+zs.length<=bx/\∀p,H p=none->Q (.ref p) (upd H p (.lst (xs++zs)))
theorem aLu:OpR X (mf .Add) aOG:=by
 intro pins s σ H x y v u Q I rx ry h
 obtain⟨l,b,xs,zs,rfl,rfl,hH,hB,hz,q⟩:=h
 cases rx
 cases ry
 obtain⟨z,its,n,r,hl,e⟩:=I.lstM hH
 obtain⟨z2,its2,n2,r2,hl2,e2⟩:=I.lstM hB
 refine PySem.P.add_list e e2 ?_ (by rw[av,av];lia)
 have ea:its.toArray++its2.toArray=(its++its2).toArray:=by simp
 rw[ea]
 exact⟨.ref _,_,I.lnew (t':=s.toks) (r.append r2) (by rw[au];lia),rfl,q _ I.fresh⟩
def aOU:R2:=λx y H Q=>∃l k xs,x = .ref l/\y = .int k/\H l=some (.lst xs)/\-(2 ^ 63)<=k/\k<2 ^ 63/\xs.length*k.toNat<=bx /\
 ∀p,H p=none->Q (.ref p) (upd H p (.lst (dy k.toNat xs).flatten))
theorem aKf {α: Type}(xs:List α)(k:Nat): (dy k xs).flatten.length=k*xs.length:=by
 induction k with
 |zero=>simp
 |succ k ih=>rw[my,tf,au,ih,Nat.succ_mul,zd]
theorem aLj:OpR X (mf .Mult) aOU:=by
 intro pins s σ H x y v u Q I rx ry h
 obtain⟨l,k,xs,rfl,rfl,hH,h1,h2,hz,q⟩:=h
 cases rx
 obtain⟨t,rfl⟩:=ry
 obtain⟨z,its,n,r,hl,e⟩:=I.lstM hH
 have hlen:its.toArray.size*k.toNat<=bx:=by rw[av,<- hl];exact hz
 have hcap:¬ its.toArray.size*k.toNat > (2 ^ 63 - 1) / 8:=by
  have:(bx:Nat)<=(2 ^ 63 - 1) / 8:=by decide
  lia
 have hfit:¬ (!Builtin.List.listFitsIndex k)=true:=by
  rw[fitsIndex_both h1 h2]
  exact cy
 have hlong:¬ qz (its.toArray.size*k.toNat)=true:=by
  rw[aFE hlen]
  exact cy
 have hnew:List.foldl (λx1 x2=>x1++x2) #[] (dy (if its.toArray.isEmpty=true then 0 else k.toNat) its.toArray)=(dy k.toNat its).flatten.toArray:=by
  have f0:∀m:Nat,List.foldl (λx1 x2=>x1++x2) #[] (dy m its.toArray)=(dy m its).flatten.toArray:=λm=>by
   have:=wI its m []
   rw[vd] at this
   exact this
  rw[f0]
  cases its with
  |nil=>simp
  |cons a r'=>rw[if_neg (by simp)]
 refine wpAny_binaryOp_repeat_ref (T:="list") (U:="int") (by decide) ⟨_,e,rfl⟩ (λs'=>typeIs_int s' k t) noFill_list_mul F.fills_int_mul F.slot_int_rmul repeat_list F.slot_int_index.lookup
  (Bc F.slot_int_rmul (typeIs_int s k t) F.entry_int_rmul (F.args_int_rmul_2 _ _) (int___rmul___int_list k t l its.toArray n)
   ⟨e,rfl,⟨_,e,rfl⟩,Bc F.slot_list_mul ⟨_,e,rfl⟩ F.entry_list_mul (F.args_list_mul_2 _ _) (AutoListH.list___mul___list_int_3 l its.toArray n k t hfit hcap hlong) ⟨e,?_⟩⟩)
 rw[hnew]
 exact⟨.ref _,_,I.lnew (t':=s.toks) (r.rep k.toNat) (by rw[aKf,Nat.mul_comm];exact hz),rfl,q _ I.fresh⟩
end L2
namespace Att
open PySem PySem.W PySem.Calls PyProof.Rows
theorem oW:∀(ns:List Int) (vs:List Value),WellAll P h vs (ns.map WData.int)->IntsAre vs ns:=by
 intro ns
 induction ns with
 |nil=>
  intro vs w
  rw[og] at w
  cases w
  exact .nil
 |cons n ns ih=>
  intro vs w
  rw[cf] at w
  cases w with
  |cons a b=>
   cases a
   exact .cons _ _ (ih _ b)
theorem aFx {l: OpenLaw}{n: Nat}(hn:l.most=some n){h: Heap}{args: List WData}{vals: List Value}(hpre:l.row.toRowW.claim.pre args=true)(hwl:WellAll P h vals args):
  ∃a vs ns,vals=[Value.ref a]/\args=[WData.list (ns.map WData.int)]/\h.get? a=some { cls := .type "list",data := .seq vs.toArray }/\IntsAre vs ns/\ns.length<=n:=by
 have hsh:WShape.hasAll [] args [.list .int]=true:=(pre_splitW hpre).1
 have hc:l.pre.holds [] { args:=args }=true:=(pre_splitW hpre).2
 obtain⟨d,r,rfl,h1,h2⟩:=hasAllW_cons hsh
 obtain rfl:=hasAllW_nil h2
 obtain⟨xs,rfl,h3⟩:=hasW_list h1
 obtain⟨ns,rfl⟩:=items_int h3
 have hlen:ns.length<=n:=by
  unfold OpenLaw.pre at hc
  have h4:(WTm.not (.lt (.lit (.int (n:Int))) (.len (.arg 0)))).holds [] { args:=[.list (ns.map .int)] }=true:=by
   have h4:=(holds_andW hc).1
   rw[hn] at h4
   exact h4
  have h5:=condW_of h4 (w_not (w_lt w_lit (w_len_list (w_arg rfl))))
  rw[ae] at h5
  refine Nat.le_of_not_lt λq=>?_
  have q':(n:Int)<((ns.length:Nat):Int):=by lia
  first
   | (rw[decide_eq_true q'] at h5;exact absurd h5 (by decide))
   | (simp at h5;lia)
 cases hwl with
 |cons w1 w2=>
  cases w2
  cases w1 with
  |list ho hall=>exact⟨_,_,ns,rfl,rfl,ho,oW ns _ hall,hlen⟩
theorem aCX (l:OpenLaw)(args:List WData):l.row.toRowW.claim.post args (.bool true) args=true:=
 postW_of (r:=l.row.toRowW) (X:=(true == true))
  (show WShape.has [] (.bool true) .bool=true by first | rfl | decide | simp[WShape.has,WShape.arms,WShape.armsAll])
  (show(WTm.eq .res (.lit (.bool true))).value [] { args:=args,res:=some (.bool true),after:=args }=some (.bool (true == true)) from w_eq_bool (w_res rfl) w_lit) rfl
theorem attach_call {l: OpenLaw}{n: Nat}{q: Program}{loose: List Str}{XP: (Str->Option Value)->Heap->Prop}{YP: World->Heap->Prop}{d: DefRec}(hn:l.most=some n)(hdf:d.params.defaults=[])(call:∀(w:World) (s₀ s₁:Shared) (mg mb:Str->Option Value) (fa:Addr) (o:Obj) (pm cd doc:Value) (a:Addr) (vs:List Value) (ns:List Int),
   Ground q loose [] XP w s₀ mg mb s₁.heap->YP w s₁.heap ->
   s₁.heap.get? fa=some o->o.data = .func (docDef d.name d.params d.body d.scope pm cd doc)->s₁.heap.CodeRec cd d.name->mg d.name=some (.ref fa) ->
   s₁.heap.get? a=some { cls := .type "list",data := .seq vs.toArray }->IntsAre vs ns->ns.length<=n->s₁.gens=#[] ->
   wz (model l.prog w) Bd (.call (.ref fa) ⟨[.ref a],[]⟩) (λr s'=>r = .ok (.ret (.bool true))/\OldK s₁.heap s'.heap/\s'.os=s₁.os/\xy s'.gens) s₁):
  WalkO q loose XP YP l.row.toRowW d [] (λf vs=>PySem.call f vs):=by
 intro w s₀ s₁ mg mb G Y fa o pm cd doc dV kV ho hd hcd hD hmg hg args vals as hpre hlay hrd hwl hlo
 obtain rfl:dV = .none:=Dflts.none hD hdf
 obtain rfl:kV = .none:=Dflts.noKw hD
 obtain⟨a,vs,ns,rfl,rfl,hobj,hints,hlen⟩:=aFx hn hpre hwl
 refine enter_call (lh (call w s₀ s₁ mg mb fa o pm cd doc a vs ns G Y ho (fd_plain hd) hcd hmg hobj hints hlen hg) λr s' hq=>?_)
 obtain⟨rfl,h2,h3,h4⟩:=hq
 exact⟨.inl ⟨.bool true, .bool true,[],rfl,λ_=>rfl, .bool true,aCX l _,λ_=>⟨List.Pairwise.nil,λ_ hm=>(nomatch hm)⟩⟩,h2,h3,h4⟩
end Att
namespace L2
open PySem PySem.Spec PyProof.Rows
theorem xU:∀{vs:List Value}{ns:List Int},IntsAre vs ns->Vals (ns.map V.int) vs
 |_,_, .nil => .nil
 |_,_, .cons n t h => .cons ⟨t,rfl⟩ (xU h)
def aNt (H:Hp):Prop:=∀b,H b=none\/∃o xs,H b=some (.frz o (.lst xs))
theorem aFI {K: aa}{mb: Str->Option Value}{CX: CXT}{k: Nat}{fa a: Addr}{fd: FuncData}{x: Str}{sp: Sp}{s₁: Shared}{vs: List Value}{ns: List Int}(KX:K.In s₁.heap)(hns:s₁.heap.Ns dr mg)(hb:s₁.heap.Ns A9 mb)(hbb:∀x:Str,x≠"__name__"->mb x=fz x)(hlim:s₁.heap.NoLimit)(hg:s₁.gens=#[])(ha:s₁.heap.get? a=some { cls := .type "list",data := .seq vs.toArray })(hi:IntsAre vs ns)(hl:ns.length<=bx)(hr:Room k Bd)(F:∀base:Heap,K.In base->base.Ns dr mg->FnOk P w K mg base CX k fa fd [x] sp)(hbind:∀(s:Shared) (u:Value),Ba s fd ⟨[u],[]⟩ [(x,u)])(hsp:∀H:Hp,aNt H->SqL K H a (ns.map V.int)->sp [.ref a] H (λv _=>v = .bl true) λ_ _ _=>False)(hCX:∀H e s',CX [] H s₁ (λ_ _ _=>False) e s'->False):
  wz (model P w) Bd (.call (.ref fa) ⟨[.ref a],[]⟩) (λr s'=>r = .ok (.ret (.bool true))/\OldK s₁.heap s'.heap/\s'.os=s₁.os/\xy s'.gens) s₁:=by
 have rv:=xU hi
 have lenV:=hi.length
 have core:∀H:Hp,aNt H->SqL K H a (ns.map V.int)->HOk P w H s₁.heap->(∀b,H b≠none->b=a)->(H a≠none->K.lookup a=none) ->
   wz (model P w) Bd (.call (.ref fa) ⟨[.ref a],[]⟩) (λr s'=>r = .ok (.ret (.bool true))/\OldK s₁.heap s'.heap/\s'.os=s₁.os/\xy s'.gens) s₁:=by
  intro H hO hS hok hA hK
  have base_of:∀{b:Addr}{o:Obj},s₁.heap.get? b=some o->H b=none->(aHe s₁.heap H).get? b=some o:=λe n=>aGs e n
  have noA:∀{b:Addr}{o:Obj}{es:Array DictEntry}{ep:Nat},s₁.heap.get? b=some o->o.data = .dict es ep->H b=none:=λ{b o es ep} e d=>by
   cases q:H b with
   |none=>rfl
   |some u=>
    have e':b=a:=hA b (by rw[q];simp)
    subst e'
    rw[ha] at e;cases e
    have d':Data.seq vs.toArray _=Data.dict es ep:=d
    cases d'
  have nsK:∀{b:Addr}{m:Str->Option Value},s₁.heap.Ns b m->(aHe s₁.heap H).Ns b m:=λ{b m} ⟨o,es,ep,e,d,r⟩=>⟨o,es,ep,base_of e (noA e d),d,r⟩
  have hKb:K.In (aHe s₁.heap H):=λb o e=>base_of (KX b o e) (by
   cases q:H b with
   |none=>rfl
   |some u=>
    have e':b=a:=hA b (by rw[q];simp)
    subst e'
    rw[hK (by rw[q];simp)] at e;cases e)
  have hM:Mod K mg (aHe s₁.heap H):=⟨hKb,nsK hns,⟨mb,nsK hb,hbb⟩,let⟨mc,h1,h2⟩:=hlim;⟨mc,nsK h1,h2⟩⟩
  have e0:aMS P w K mg (aHe s₁.heap H) Bd [] s₁ H:=⟨rfl,hM,λb o e=>aKh e,Nat.le_of_eq (aED _ _),trivial,λb hb=>absurd (show b∈([]:List Addr) from hb) (by simp),hok, .of_eq hg⟩
  refine lh ((F _ hKb (nsK hns)).run Bd [] s₁ H ⟨[.ref a],[]⟩ [.ref a] [.ref a] _ _ hr e0 (hbind s₁ (.ref a)) (.cons rfl .nil) (hsp H hO hS)) λr s' h=>?_
  cases r with
  |error e=>exact(hCX H e s' h).elim
  |ok fl=>
   cases fl with
   |next=>exact mj h
   |brk=>exact mj h
   |cont=>exact mj h
   |ret u=>
    obtain⟨v,H',os,bare,un,hok',r',q⟩:=h
    have q':v = .bl true:=q
    subst q'
    obtain rfl:u=Value.bool true:=r'
    refine⟨rfl,OldK.of_keep λb o e=>?_,os,bare⟩
    cases q:H b with
    |none=>exact un.keep b o e q (by intro z;exact absurd (show b∈([]:List Addr) from z) (by simp)) (by simp)
    |some u=>
     rcases hO b with z | ⟨ob,xs,z⟩
     ·rw[q] at z;cases z
     ·have z2:=un.frzs b ob _ z
      obtain⟨e1,_⟩:=hok b _ z
      obtain⟨e2,_⟩:=hok' b _ z2
      rw[e] at e1;cases e1
      exact e2
 cases hk:K.lookup a with
 |some o=>
  have e:=KX a o hk
  rw[ha] at e
  cases e
  refine core (λ_=>none) (λ_ => .inl rfl) (.inr ⟨_,vs.toArray,_,hk,rfl,rfl,rfl,by rw[av,lenV];exact hl,by simpa using rv⟩) (λb u z=>by have z':(none:Option HO)=some u:=z;cases z') (λb z=>absurd rfl z) λz=>absurd rfl z
 |none=>
  refine core (λb=>if b=a then some (.frz { cls := .type "list",data := .seq vs.toArray } (.lst (ns.map V.int))) else none) (λb=>?_) (.inl (.inr ⟨{ cls := .type "list",data := .seq vs.toArray },if_pos rfl⟩)) (λb u z=>?_) (λb z=>?_) λ_=>hk
  ·by_cases hb:b=a
   ·exact .inr ⟨_,_,if_pos hb⟩
   ·exact .inl (if_neg hb)
  ·by_cases hb:b=a
   ·have z':=(if_pos hb).symm.trans z
    cases z'
    subst hb
    exact⟨ha,by rw[ae];exact hl,vs,_,rv,ha⟩
   ·have z':=(if_neg hb).symm.trans z
    cases z'
  ·by_cases hb:b=a
   ·exact hb
   ·exact absurd (if_neg hb) z
theorem aJO {l: PySem.W.OpenLaw}{n k: Nat}{q: Program}{loose: List Str}{XP: (Str->Option Value)->Heap->Prop}{YP: World->Heap->Prop}{d: DefRec}{K: Params->aa}{CX: World->CXT}{sp: World->Sp}{x: Str}(hn:l.most=some n)(hn2:n<=bx)(hdf:d.params.defaults=[])(hr:Room k Bd)(hY:∀(w:World) (h:Heap),YP w h->(K w.params).In h)(F:∀(w:World) (mg:Str->Option Value) (fa:Addr) (h:Heap),(K w.params).In h->h.Ns dr mg->mg d.name=some (.ref fa) ->
   ∃fd:FuncData,(∀(s:Shared) (u:Value),Ba s fd ⟨[u],[]⟩ [(x,u)]) /\
    ∀base:Heap,(K w.params).In base->base.Ns dr mg->FnOk l.prog w (K w.params) mg base (CX w) k fa fd [x] (sp w))(hsp:∀(w:World) (H:Hp) (a:Addr) (ns:List Int),ns.length<=n->aNt H->SqL (K w.params) H a (ns.map V.int)->sp w [.ref a] H (λv _=>v = .bl true) λ_ _ _=>False)(hCX:∀(w:World) (H:Hp) (s:Shared) (e:Value) (s':Shared),CX w [] H s (λ_ _ _=>False) e s'->False):
  PySem.W.WalkO q loose XP YP l.row.toRowW d [] (λf vs=>PySem.call f vs):=by
 refine Att.attach_call hn hdf λw s₀ s₁ mg mb fa o pm cd doc a vs ns G Y ho hd hcd hmg hobj hints hlen hg=>?_
 have KX:=hY w _ Y
 obtain⟨fd,hb,hF⟩:=F w mg fa _ KX G.T.g hmg
 exact aFI KX G.T.g G.T.b G.T.builtins G.T.nolimit hg hobj hints (de hlen hn2) hr hF hb (λH hO hS=>hsp w H a ns hlen hO hS) λH e s'=>hCX w H s₁ e s'
def eY (s:Stmt):Arguments:=match s with
 | .FunctionDef _ a _ _ _ _ _ _ _ _=>a
 |_=>{ posonlyargs:=[],args:=[],vararg:=none,kwonlyargs:=[],kw_defaults:=[],kwarg:=none,defaults:=[] }
def cM (s:Stmt):List Stmt:=match s with
 | .FunctionDef _ _ b _ _ _ _ _ _ _=>b
 |_=>[]
def aX (s:Stmt):Scope:=match s with
 | .FunctionDef _ _ _ _ _ _ sc _ _ _=>sc
 |_=>{ kind := .function,names:=[],isGenerator:=false,isCoroutine:=false }
abbrev CX0:CXT:=λ_ _ _ _ _ _=>False
abbrev E0:XK:=λ_ _ _=>False
theorem aNh:pX CX0 X E0:=λ_ _ _ _ _ _ _ h=>h.elim
structure Fun (K:aa)(x qual:Str)(st:Stmt)(f:Addr)(fd:FuncData):Prop where
 ex:∃(oc:Value) (od:Option Addr) (kV doc pm:Value) (an:Option Addr) (cdv ct:Value) (osl:Array (Option Value)),
  fd=ku x qual (eY st) (cM st) (aX st) .none kV doc pm an cdv ct/\K.lookup f=some ⟨oc,od, .func fd,osl⟩/\w4 K cdv qual=true
 kp:qi K (.ref f)=true
theorem Fun.ok {K: aa}{x qual: Str}{st: Stmt}{f: Addr}{fd: FuncData}{N ps: List Str}{k: Nat}{sp: Sp}(F:Fun K x qual st f fd)(S:kX N ps (aX st))(len:∀vs H Q E,sp vs H Q E->vs.length=ps.length)(hbody:∀(cdv:Value) (A:Around) (outer:List Env) (s:Shared) (H:Hp) (vs:List V) (Q:VK) (E:XK),Room k (A.deeper (y9 qual (aX st) s.heap.objs.size f cdv))->sp vs H Q E ->
   ∃t,PSs (zF CX0 P w K mg base N qual (aX st) f cdv A outer s H E).nox (cM st) t/\t { nx:=λ_ H'=>Q .non H',rt:=Q } (aW N vs) H):FnOk P w K mg base CX0 (k+1) f fd ps sp:=by
 obtain⟨oc,od,kV,doc,pm,an,cdv,ct,osl,rfl,lk,hcd⟩:=F.ex
 refine aMd lk hcd S len λA outer s H vs Q E hr hsp=>?_
 obtain⟨t,h,q⟩:=hbody cdv A outer s H vs Q E hr hsp
 exact⟨t,h.nox,q⟩
theorem Fun.binds {K: aa}{x qual: Str}{st: Stmt}{f: Addr}{fd: FuncData}{ps: List Str}(F:Fun K x qual st f fd)(h:∀(kV doc pm:Value) (an:Option Addr) (cdv ct:Value) (us:List Value),us.length=ps.length->AO (ku x qual (eY st) (cM st) (aX st) .none kV doc pm an cdv ct) ⟨us,[]⟩=pure (ps.zip us)):Binds K fd ps []:=by
 obtain⟨oc,od,kV,doc,pm,an,cdv,ct,osl,rfl,lk,hcd⟩:=F.ex
 exact .all (h kV doc pm an cdv ct)
theorem aDS {K: aa}{x qual: Str}{st: Stmt}{f: Addr}{oc: Value}{od an: Option Addr}{osl: Array (Option Value)}{kV doc pm cdv ct: Value}(l:K.lookup f=some ⟨oc,od, .func (ku x qual (eY st) (cM st) (aX st) .none kV doc pm an cdv ct),osl⟩)(c:w4 K cdv qual=true)(k:qi K (.ref f)=true):Fun K x qual st f (ku x qual (eY st) (cM st) (aX st) .none kV doc pm an cdv ct):=⟨⟨oc,od,kV,doc,pm,an,cdv,ct,osl,rfl,l,c⟩,k⟩
theorem aJQ (hr:Room k A):A.units+1<cLine:=bh (Nat.add_le_add_left (by decide:1<=64) _) hr.units
theorem pv {X: Cx}(i:Nat){x: Str}{pos: Pos}(hN:X.N[i]?=some x:=by rfl)(hv:Vis X.env.scope x:=by first | exact Or.inl rfl | exact Or.inr (Or.inl rfl) | exact Or.inr (Or.inr rfl))(hd:(x == ("__debug__" : Str))=false:=by decide)(hcd:(x == ("__classdict__" : Str))=false:=by decide):PE X (.Name x pos) (aC i):=aMj hN hv hd hcd
theorem aPs {B: Prop}(h:B):if false=true then A else B:=by
 rw[if_neg cy]
 exact h
theorem zY {c B: Prop}[Decidable c](h1:c->A)(h2:¬ c->B):if c then A else B:=by
 by_cases h:c
 ·rw[if_pos h]
  exact h1 h
 ·rw[if_neg h]
  exact h2 h
def Same (H H':Hp):Prop:=∀b o,H b=some o->H' b=some o
theorem Same.refl (H:Hp):Same H H:=λ_ _ h=>h
theorem Same.trans (a:Same H H1)(b:Same H1 H2):Same H H2:=λc o h=>b c o (a c o h)
theorem Same.free (e:Same H H')(h:H' l=Option.none):H l=Option.none:=by
 cases q:H l with
 |none=>rfl
 |some o=>
  rw[e l o q] at h
  cases h
theorem Same.seq {K: aa}{H H': Hp}{a: Addr}{xs: List V}(e:Same H H')(h:SqL K H a xs):SqL K H' a xs:=by
 rcases h with(h | ⟨o,h⟩) | h
 ·exact .inl (.inl (e _ _ h))
 ·exact .inl (.inr ⟨o,e _ _ h⟩)
 ·exact .inr h
section
variable {κ:Type}[DecidableEq κ]
def qH (kvs:List (κ×V))(k:κ):Option V:=(kvs.find? λkv=>decide (kv.1=k)).map (·.2)
def aCh (kvs:List (κ×V))(k:κ)(v:V):List (κ×V):=
 if(kvs.any λkv=>decide (kv.1=k))=true then kvs.map (λkv=>if kv.1=k then(kv.1,v) else kv) else kvs++[(k,v)]
theorem cI {p: κ×V}{r: List (κ×V)}{k: κ}(e:p.1=k):qH (p :: r) k=some p.2:=by simp[qH,oo,e]
theorem cJ {p: κ×V}{r: List (κ×V)}{k: κ}(e:¬ p.1=k):qH (p :: r) k=qH r k:=by simp[qH,oo,e]
theorem nO (k:κ):∀kvs:List (κ×V),(kvs.any λkv=>decide (kv.1=k))=(qH kvs k).isSome
 |[]=>rfl
 |p :: r=>by
  rw[uw]
  by_cases e:p.1=k
  ·simp only[cI e,decide_eq_true e,Bool.true_or,Option.isSome_some]
  ·rw[cJ e,decide_eq_false e,AS];exact nO k r
theorem aBN (k j:κ)(y:V):∀kvs:List (κ×V),qH (kvs.map λkv=>if kv.1=k then(kv.1,y) else kv) j=(qH kvs j).map λx=>if j=k then y else x
 |[]=>rfl
 |p :: r=>by
  have ih:=aBN k j y r
  rw[cf]
  by_cases h:p.1=k
  ·rw[if_pos h]
   by_cases e:p.1=j
   ·rw[cI (p:=(p.1,y)) e,cI e,ve,if_pos (e.symm.trans h)]
   ·rw[cJ (p:=(p.1,y)) e,cJ e,ih]
  ·rw[if_neg h]
   by_cases e:p.1=j
   ·rw[cI (p:=p) e,cI e,ve,if_neg (λz=>h (e.trans z))]
   ·rw[cJ (p:=p) e,cJ e,ih]
theorem yI (k j:κ)(y:V):∀kvs:List (κ×V),qH kvs k=none->qH (kvs++[(k,y)]) j=if j=k then some y else qH kvs j
 |[],_=>by
  by_cases e:k=j
  ·rw[if_pos e.symm];exact cI (p:=(k,y)) e
  ·rw[if_neg (λz=>e z.symm)];exact cJ (p:=(k,y)) e
 |p :: r,hn=>by
  rw[List.cons_append]
  have hk:¬ p.1=k:=λz=>by rw[cI z] at hn;cases hn
  rw[cJ hk] at hn
  have ih:=yI k j y r hn
  by_cases e:p.1=j
  ·rw[cI e,cI e,if_neg (λz=>hk (e.trans z))]
  ·rw[cJ e,cJ e,ih]
theorem aGO (kvs:List (κ×V))(k j:κ)(y:V):qH (aCh kvs k y) j=if j=k then some y else qH kvs j:=by
 unfold aCh
 by_cases a:(kvs.any λkv=>decide (kv.1=k))=true
 ·rw[if_pos a,aBN]
  rw[nO] at a
  by_cases e:j=k
  ·obtain⟨x,hx⟩:=ja.mp a
   rw[if_pos e,e,hx,ve,if_pos rfl]
  ·rw[if_neg e]
   cases qH kvs j with
   |none=>rfl
   |some x=>rw[ve,if_neg e]
 ·rw[if_neg a]
  refine yI k j y kvs ?_
  rw[nO] at a
  cases q:qH kvs k with
  |none=>rfl
  |some x=>rw[q] at a;exact(a rfl).elim
theorem iR (kvs:List (κ×V))(k:κ)(v:V): (aCh kvs k v).length<=kvs.length+1:=by
 unfold aCh
 split
 ·rw[ae];lia
 ·rw[au,da,rn];lia
theorem RelO.isSome_eq (r:RelO o u):o.isSome=u.isSome:=by
 cases o with
 |none=>cases u with
  |none=>rfl
  |some _=>exact(show False from r).elim
 |some _=>cases u with
  |none=>exact(show False from r).elim
  |some _=>rfl
theorem KV.val (r:KV kvs vs)(k:κ):RelO (qH kvs k) (Be vs k):=by
 unfold KV at r
 induction r with
 |nil=>exact True.intro
 | @cons p q ps qs h t ih=>
  obtain⟨h1,h2⟩:=h
  by_cases e:p.1=k
  ·have e':q.1=k:=h1.symm.trans e
   have b:Be (q :: qs) k=some q.2:=by simp[Be,oo,e']
   rw[cI e,b];exact h2
  ·have e':¬ q.1=k:=λz=>e (h1.trans z)
   have b:Be (q :: qs) k=Be qs k:=by simp[Be,oo,e']
   rw[cJ e,b];exact ih
theorem KV.any (r:KV kvs vs)(k:κ): (kvs.any λkv=>decide (kv.1=k))=vs.any λkv=>decide (kv.1=k):=by
 unfold KV at r
 induction r with
 |nil=>rfl
 |cons h t ih=>rw[uw,uw,ih,h.1]
theorem KV.repl (r:KV kvs vs)(k:κ)(ry:RelV y u):
  KV (kvs.map λkv=>if kv.1=k then(kv.1,y) else kv) (vs.map λkv=>if kv.1=k then(kv.1,u) else kv):=by
 unfold KV at r ⊢
 induction r with
 |nil=>exact .nil
 | @cons p q ps qs h t ih=>
  rw[cf,cf]
  refine .cons ?_ ih
  obtain⟨h1,h2⟩:=h
  by_cases e:p.1=k
  ·rw[if_pos e,if_pos (h1.symm.trans e)];exact⟨h1,ry⟩
  ·rw[if_neg e,if_neg (λz=>e (h1.trans z))];exact⟨h1,h2⟩
theorem KV.put (r:KV kvs vs)(k:κ)(ry:RelV y u):KV (aCh kvs k y) (stored vs k u):=by
 unfold aCh stored
 rw[r.any k]
 by_cases e:(vs.any λkv=>decide (kv.1=k))=true
 ·rw[if_pos e,if_pos e];exact r.repl k ry
 ·rw[if_neg e,if_neg e];exact Paired.snoc r ⟨rfl,ry⟩
theorem KV.length {kvs: List (κ×V)}{vs: List (κ×Value)}(r:KV kvs vs):kvs.length=vs.length:=xx r
end
theorem aJR (r:RelV (kV k) u): (cG P w).is k u=true:=by
 cases k with
 |inl i=>obtain⟨t,e⟩:=(show ∃t,u=Value.int i t from r);subst e;exact aAo P w i t
 |inr x=>obtain⟨t,e⟩:=(show ∃t,u=Value.str x t from r);subst e;exact aAM P w x t
theorem yE:∀{ks:List Key}{us:List Value},Vals (ks.map kV) us->ItemsAre (cG P w) ks us
 |[],_,r=>by rw[og] at r;cases r;exact .nil
 |k :: ks,_,r=>by
  rw[cf] at r
  cases r with
  |cons h t=>exact .cons (aJR h) (yE t)
abbrev KT (H:Hp):List (List Key×V)->List (List Key×Addr×Value)->Prop:=Paired λp q=>p.1=q.1/\H q.2.1=some (.tup (p.1.map kV))/\RelV p.2 q.2.2
theorem KT.val (r:KT H kvs xs)(k:List Key):RelO (qH kvs k) ((atKey xs k).map (·.2)):=by
 induction r with
 |nil=>exact True.intro
 | @cons p q ps qs h t ih=>
  obtain⟨h1,_,h2⟩:=h
  by_cases e:p.1=k
  ·have e':q.1=k:=h1.symm.trans e
   have b:atKey (q :: qs) k=some q.2:=by simp[atKey,oo,e']
   rw[cI e,b];exact h2
  ·have e':¬ q.1=k:=λz=>e (h1.trans z)
   have b:atKey (q :: qs) k=atKey qs k:=by simp[atKey,oo,e']
   rw[cJ e,b];exact ih
theorem KT.repl (r:KT H kvs xs)(k:List Key)(ry:RelV y u):
  KT H (kvs.map λkv=>if kv.1=k then(kv.1,y) else kv) (xs.map (putAt k u)):=by
 induction r with
 |nil=>exact .nil
 | @cons p q ps qs h t ih=>
  rw[cf,cf]
  refine .cons ?_ ih
  obtain⟨h1,h2,h3⟩:=h
  unfold putAt
  by_cases e:p.1=k
  ·rw[if_pos e,if_pos (h1.symm.trans e)];exact⟨h1,h2,ry⟩
  ·rw[if_neg e,if_neg (λz=>e (h1.trans z))];exact⟨h1,h2,h3⟩
theorem KT.put (r:KT H kvs xs)(k:List Key)(hb:H b=some (.tup (k.map kV)))(ry:RelV y u):
  KT H (aCh kvs k y) (storedH xs k b u):=by
 have e:(kvs.any λkv=>decide (kv.1=k))=(atKey xs k).isSome:=by
  rw[nO,(r.val k).isSome_eq,Option.isSome_map]
 unfold aCh storedH
 rw[e]
 by_cases q:(atKey xs k).isSome=true
 ·rw[if_pos q,if_pos q];exact r.repl k ry
 ·rw[if_neg q,if_neg q];exact Paired.snoc r ⟨rfl,hb,ry⟩
theorem KT.keeps (r:KT H kvs xs)(ht:∀b ys,H b=some (.tup ys)->H' b=some (.tup ys)):KT H' kvs xs:=
 Paired.mapP r λ_ _ z=>⟨z.1,ht _ _ z.2.1,z.2.2⟩
theorem aMq (ok:HOk P w H h)(e:Rd H a u):ObjOk P w H h a u:=e.ok ok
theorem aIJ (ok:HOk P w H h)(e:Rd H a (.dK kvs)):kvs.length<=bx/\(a == qc)=false/\∃vs,KV kvs vs/\h.DictOf (cG P w) a vs:=
 show ObjOk P w H h a (.dK kvs) from aMq ok e
theorem aOg (ok:HOk P w H h)(e:H a=some (.dK kvs)):kvs.length<=bx/\(a == qc)=false/\∃vs,KV kvs vs/\h.DictOf (cG P w) a vs:=aIJ ok (.inl e)
theorem aEY (ok:HOk P w H h)(e:H a=some (.tup (ks.map kV))): (AL (cG P w)).is h ks a:=by
 obtain⟨_,its,r,o,h1,h2,⟨n,h3⟩,_⟩:=(show ObjOk P w H h a (.tup (ks.map kV)) from ok a _ e)
 exact⟨o,its.toArray,n,h1,h2,h3,by simpa using yE r⟩
theorem aKa (ok:HOk P w H h)(e:Rd H a (.dT kvs)):kvs.length<=bx/\(a == qc)=false /\
  ∃xs,KT H kvs xs/\h.DictOfH (AL (cG P w)) a xs:=by
 obtain⟨z,y,xs,r,o,es,ep,h1,h2,h3,h4,h5⟩:=(show ObjOk P w H h a (.dT kvs) from aMq ok e)
 refine⟨z,y,xs,r,o,es,ep,h1,h2,h3,h4,λx hx=>?_,h5⟩
 have all:∀{l:List (List Key×V)}{m:List (List Key×Addr×Value)},KT H l m->∀x∈m,(AL (cG P w)).is h x.1 x.2.1:=by
  intro l m q
  induction q with
  |nil=>intro x hx;exact nomatch hx
  | @cons p q ps qs hq t ih=>
   intro x hx
   rcases bq.mp hx with e | hx
   ·subst e
    exact aEY ok (by rw[<- hq.1];exact hq.2.1)
   ·exact ih x hx
 exact all r x hx
theorem aOt (ok:HOk P w H h)(e:H a=some (.dT kvs)):kvs.length<=bx/\(a == qc)=false /\
  ∃xs,KT H kvs xs/\h.DictOfH (AL (cG P w)) a xs:=aKa ok (.inl e)
def DGet (H:Hp)(a:Addr)(y:V)(r:Option V):Prop:=
 (∃kvs k,Rd H a (.dK kvs)/\y=kV k/\r=qH kvs k)\/∃kvs k b,Rd H a (.dT kvs)/\y = .ref b/\H b=some (.tup (k.map kV))/\r=qH kvs k
def DPut (H:Hp)(a:Addr)(y v:V)(H':Hp):Prop:=
 (∃kvs k,H a=some (.dK kvs)/\y=kV k/\kvs.length<bx/\H'=upd H a (.dK (aCh kvs k v))) \/
 ∃kvs k b,H a=some (.dT kvs)/\y = .ref b/\H b=some (.tup (k.map kV))/\kvs.length<bx/\H'=upd H a (.dT (aCh kvs k v))
theorem DGet.t (e:H a=some (.dT kvs))(eb:H b=some (.tup (k.map kV))):DGet H a (.ref b) (qH kvs k) := .inr ⟨kvs,k,b, .inl e,rfl,eb,rfl⟩
theorem DPut.t (e:H a=some (.dT kvs))(eb:H b=some (.tup (k.map kV)))(hl:kvs.length<bx):
  DPut H a (.ref b) v (upd H a (.dT (aCh kvs k v))) := .inr ⟨kvs,k,b,e,rfl,eb,hl,rfl⟩
theorem Inv.big {pins: List (Addr×Obj)}{σ: St}{H: Hp}{s: Shared}(I:Inv X pins σ H s):qc<s.heap.objs.size:=by
 have h:dr<s.heap.objs.size:=(I.mod.glob.keeps I.bk).lt
 exact Nat.lt_trans (by decide) h
theorem aEK {pins: List (Addr×Obj)}{σ: St}{H: Hp}{s: Shared}{a: Addr}{y v: V}{u: Value}(hu:A.units+1<cLine)(I:Inv X pins σ H s)(g:DGet H a y (some v))(ry:RelV y u)(h:∀w' s',Inv X pins σ H s'->RelV v w'->Q w' s'):
  wpAny (model X.prog X.w) A (yc (.ref a) u) Q E s:=by
 rcases g with⟨kvs,k,e,ey,l⟩ | ⟨kvs,k,b,e,ey,eb,l⟩
 ·subst ey
  obtain⟨z,hd,vs,rel,dd⟩:=aIJ I.hok e
  obtain⟨w',hw,rw'⟩:=RelO.some_of (v:=v) (o:=Be vs k) (by rw[l];exact rel.val k)
  exact wpAny_getItem_of (aJR ry) dd.mapOf hw (h w' _ (I.tok _) rw')
 ·subst ey
  cases (show u=Value.ref b from ry)
  obtain⟨z,hd,xs,rel,dd⟩:=aKa I.hok e
  obtain⟨w',hw,rw'⟩:=RelO.some_of (v:=v) (o:=(atKey xs k).map (·.2)) (by rw[l];exact rel.val k)
  obtain⟨p,hp,hp2⟩:=jm.mp hw
  refine wpAny_getItem_heap (tupleKind_room_in1 hu) (aEY I.hok eb) dd hp ?_
  rw[hp2]
  exact h w' _ (I.tok _) rw'
theorem aDq {pins: List (Addr×Obj)}{σ: St}{H: Hp}{s: Shared}{a: Addr}{h': Heap}{t': Nat}{ob: HO}(I:Inv X pins σ H s)(mu:Mut (H a))(hs:jb a s.heap h')(he:∃q,h'.get? a=some q)(new:ObjOk X.prog X.w (upd H a ob) h' a ob):
  Inv X pins σ (upd H a ob) { s with heap:=h',toks:=t' }:=
 I.write (x:=a) (e:=a) mu (.inl rfl) (λb q hb z=>(hs.2 b hb).trans z) he new
theorem aMy (z:kvs.length<=bx)(hd:(a == qc)=false)(rel:KV kvs vs)(dd:h'.DictOf (cG P w) a vs):
  ObjOk P w H' h' a (.dK kvs):=⟨z,hd,vs,rel,dd⟩
theorem aCR {pins: List (Addr×Obj)}{σ: St}{H: Hp}{s: Shared}{a: Addr}{y v: V}{u r: Value}{H': Hp}(hu:A.units+1<cLine)(I:Inv X pins σ H s)(g:DPut H a y v H')(ry:RelV y u)(rv:RelV v r)(h:∀s',Inv X pins σ H' s'->Q () s'):
  wpAny (model X.prog X.w) A (setItem (.ref a) u r) Q E s:=by
 rcases g with⟨kvs,k,e,ey,l,eH⟩ | ⟨kvs,k,b,e,ey,eb,l,eH⟩
 ·subst ey eH
  obtain⟨z,hd,vs,rel,dd⟩:=aOg I.hok e
  have hz:vs.length<=bx:=by rw[<- rel.length];exact z
  have hl:(aCh kvs k v).length<=bx:=by have:=iR kvs k v;lia
  refine wpAny_setItem_pairs (hsz:=hz) (aJR ry) dd λh' dd' hs=>h _ ?_
  have he:∃q,h'.get? a=some q:=let⟨q,_,_,hq,_⟩:=dd';⟨q,hq⟩
  exact aDq I (by rw[e];exact True.intro) hs he (aMy hl hd (rel.put k rv) dd')
 ·subst ey eH
  cases (show u=Value.ref b from ry)
  obtain⟨z,hd,xs,rel,dd⟩:=aOt I.hok e
  have hz:xs.length<=bx:=by rw[<- xx rel];exact z
  have hl:(aCh kvs k v).length<=bx:=by have:=iR kvs k v;lia
  refine wpAny_setItem_heap (hsz:=hz) (tupleKind_room_in1 hu) (aEY I.hok eb) dd λh' dd' hs=>h _ ?_
  obtain⟨q,es,ep,hq,h2,h3,h4,_,h5⟩:=dd'
  refine aDq I (by rw[e];exact True.intro) hs ⟨q,hq⟩ ⟨hl,hd,_,(rel.put k eb rv).keeps λc ys ec=>?_,q,es,ep,hq,h2,h3,h4,h5⟩
  rw[aK (ne_of ec e (λz=>nomatch z))]
  exact ec
def aOS (i:Expr):Prop:=∀ov iv,Ay i false ov iv=operate [ov,iv] (yc ov iv)
theorem aIW {s: Shared}{env: Env}{value slice: Expr}{pos: Pos}{T id: String}(hl:typeLookup (.type T) "__getitem__" = pure (some (.builtin id)))(hs:aOS slice)(h:wpAny (model prog w) A (eval value env) (λo s₁=>wpAny (model prog w) A (eval slice env) (λi s₂=>s₂.TypeIs o T/\wpAny (model prog w) A (yc o i) Q E s₂) E s₁) E s):
  wpAny (model prog w) A (eval (.Subscript value slice pos) env) Q E s:=by
 refine Subscript_ (i9 h (λo s₁ h₁=>i9 h₁ (λi s₂ h₂=>?_) λ_ _ x=>x) λ_ _ x=>x)
 obtain⟨hT,h₂⟩:=h₂
 unfold AR
 refine af ?_
 rw[getitemInPython_of_ne hT.not_modules]
 refine af (ze hT hl ?_)
 have fin:wpAny (model prog w) A (Ay slice false o i) (λr s₃=>wpAny (model prog w) A (letTemporaryGo value o r >>= λ_=>pure r) Q E s₃) E s₂:=by
  rw[hs o i]
  exact wpAny_operating (i9 h₂ (λr s₃ h₃=>af (wpAny_letTemporaryGo (aq h₃))) λ_ _ x=>x)
 first
  |exact aq (af fin)
  |exact af (aq (af fin))
  |exact af fin
theorem aAw {pins: List (Addr×Obj)}{σ: St}{H: Hp}{s: Shared}{a: Addr}{y: V}{o: Option V}(I:Inv X pins σ H s)(g:DGet H a y o):s.TypeIs (.ref a) "dict":=by
 rcases g with⟨kvs,k,e,_,_⟩ | ⟨kvs,k,b,e,_,_,_⟩
 ·obtain⟨_,_,vs,_,dd⟩:=aIJ I.hok e
  exact dd.typeIs
 ·obtain⟨_,_,xs,_,dd⟩:=aKa I.hok e
  exact dd.typeIs
def aFL (td ty:TE):TE:=λσ H Q=>td σ H λx H1=>ty σ H1 λy H2=>∃a v,x = .ref a/\DGet H2 a y (some v)/\Q v H2
def aJr (td ty tv:TE):TS:=λD σ H=>tv σ H λv H1=>td σ H1 λx H2=>ty σ H2 λy H3=>∃a H4,x = .ref a/\DPut H3 a y v H4/\D.nx σ H4
theorem aFe (hu:X.A.units+1<cLine)(ho:PE X o td)(hi:PE X i ty)(hs:aOS i):PE X (.Subscript o i pos) (aFL td ty):=by
 intro pins s σ H Q I h
 refine aIW PySem.F.slot_dict_getitem.lookup hs (thn (ho pins s σ H _ I h) λu s1 ⟨x,H1,I1,rx,q1⟩=>thn (hi pins s1 σ H1 _ I1 q1) λiv s2 ⟨y,H2,I2,ry,a,v,ex,g,q2⟩=>?_)
 subst ex
 obtain rfl:u=Value.ref a:=rx
 exact⟨aAw I2 g,aEK hu I2 g ry λw' s3 I3 rw'=>⟨v,H2,I3,rw',q2⟩⟩
theorem aJV (hu:X.A.units+1<cLine)(ho:PE X o td)(hi:PE X i ty)(hv:PE X value tv)(hs:AM value (some (.Subscript o i pos')) pos.line X.env=pure false):
  PS X (.Assign [.Subscript o i pos'] value pos) (aJr td ty tv):=by
 intro pins s σ H D I h
 refine wpAny_Assign_Subscript (thn (hv pins s σ H _ I h) λr s1 ⟨v,H1,I1,rv,q1⟩=>thn (ho pins s1 σ H1 _ I1 q1) λu s2 ⟨x,H2,I2,rx,q2⟩=>thn (hi pins s2 σ H2 _ I2 q2) λiv s3 ⟨y,H3,I3,ry,a,H4,ex,g,q3⟩=>?_) hs
 subst ex
 obtain rfl:u=Value.ref a:=rx
 exact aCR hu I3 g ry rv λs4 I4=>⟨σ,H4,I4,q3⟩
theorem aGN (h:Heap)(hb:qc<h.objs.size):ObjOk P w H (h.push { cls := .type "dict",data := .dict #[] }) h.objs.size (.dT []):=
 ⟨bg _,beq_eq_false_iff_ne.mpr (gy (dt hb)),[], .nil,_,#[],0,bp _ rfl,⟨rfl,rfl,rfl⟩,rfl,rfl,tx⟩
def aEy:TE:=λ_ H Q=>∀p,H p=none->Q (.ref p) (upd H p (.dT []))
theorem aGi:PE X (.Dict [] [] pos) aEy:=λpins s σ H Q I h=>
 wpAny_Dict_empty ⟨.ref s.heap.objs.size,_,I.laid (a:=s.heap.objs.size) (o := .dT []) (t':=s.toks) (λ_ _ q=>ak _ q) (bc _) (aGN s.heap I.big),rfl,h _ (I.hok.fresh (bc _))⟩
section
variable {κ:Type}[DecidableEq κ]
theorem aAv:∀{l:List κ}{k:κ},l.Nodup->¬ k∈l->(l++[k]).Nodup
 |[],k,_,_=>by simp
 |a :: r,k,h,hk=>by
  obtain⟨h1,h2⟩:=gg.mp h
  show(a :: (r++[k])).Nodup
  refine gg.mpr ⟨λm=>?_,aAv h2 λm=>hk (bq.mpr (Or.inr m))⟩
  rcases di.mp m with q | q
  ·exact h1 q
  ·exact hk (bq.mpr (Or.inl (cq.mp q).symm))
end
def cX (J:It)(g:TG)(tb:TS):TS:=λD σ H=>∃W:Nat->Nat->St->Hp->Prop,(∃m,W 0 m σ H)/\∀i m σ H,W i m σ H ->
 (J.stop i H/\D.nx σ H)\/(J.go i H/\∃N:St->Hp->Prop,(∀σ' H',N σ' H'->∃m',m'<m/\W (i+1) m' σ' H')/\∀x H',J.yld i H x H'->g x σ H' λσ2 H2=>tb { D with nx:=N,ct:=N,bk:=D.nx } σ2 H2)
def yB (elt:Expr)(gens:List Comprehension)(scope:Scope)(pos:Pos)(d:Nat)(acc:Value)(env:Env)(k:Sem Fin):Sem Fin:=
 match gens[d+1]? with
 |some g'=>eval g'.iter env >>= λx=>Aw g'.iter.pos >>= λ_=>kx g'.iter env x >>= λx=>yx [x] (Bj x) >>= λi=>
   runOwn (.compStart (.ListComp elt gens scope pos) (d+1) i acc env) env >>= λ_=>k
 |none=>(eval elt env >>= λx=>call (.builtin "list.append") [acc,x] >>= λ_=>pure ()) >>= λ_=>k
theorem aAh (it acc:Value)(env:Env)(hg:gens[d]?=some ⟨target,iter,ifs,0⟩)(hn:∀g',gens[d+1]?=some g'->g'.is_async=0):
  compTurn (.ListComp elt gens scope pos) d it acc env=(Aw iter.pos >>= λ_=>u9 it >>= λr=>match r with
   |none=>pure (.done .next)
   |some v=>vb target it v >>= λ_=>Bi target env v >>= λ_=>
    (forIn ifs true λc r=>if r=true then do let ok <- isTrue c env (eval c env);pure (ForInStep.yield ok) else pure (ForInStep.yield r)) >>= λok=>
     if ok=true then yB elt gens scope pos d acc env (again (.compLoop (.ListComp elt gens scope pos) d it acc env))
     else again (.compLoop (.ListComp elt gens scope pos) d it acc env)):=by
 unfold compTurn yB
 simp only[hg]
 cases h:gens[d+1]? with
 |none=>rfl
 |some g'=>
  obtain⟨t',i',f',a'⟩:=g'
  have e:a'=0:=hn _ h
  subst e
  rfl
def eE:List TT->TS->TS
 |[],tb=>tb
 |c :: r,tb=>cV c (eE r tb) aF
inductive PTs (X:Cx):List Expr->List TT->Prop
 |nil:PTs X [] []
 |cons {c:Expr}{cs:List Expr}{t:TT}{ts:List TT}:PT X c t->PTs X cs ts->PTs X (c :: cs) (t :: ts)
theorem aAL {X: Cx}{cs: List Expr}{s: Shared}{Q: Bool->Shared->Prop}{E: Value->Shared->Prop}(h:Q false s):
  wpAny (model X.prog X.w) X.A (forIn cs false λc r=>if r=true then do let ok <- isTrue c X.env (eval c X.env);pure (ForInStep.yield ok) else pure (ForInStep.yield r)) Q E s:=by
 induction cs with
 |nil=>rw[qk];exact aq h
 |cons c cs ih=>
  rw[rq,if_neg cy]
  exact af (aq ih)
theorem xE:∀{cs:List Expr}{ts:List TT},PTs X cs ts->∀{s:Shared}{σ:St}{H:Hp},Inv X pins σ H s->eE ts tb D σ H ->
  wpAny (model X.prog X.w) X.A (forIn cs true λc r=>if r=true then do let ok <- isTrue c X.env (eval c X.env);pure (ForInStep.yield ok) else pure (ForInStep.yield r))
   (λok s'=>∃H',Inv X pins σ H' s'/\if ok=true then tb D σ H' else D.nx σ H') X.xe s
 |_,_, .nil,s,σ,H,I,h=>by rw[qk];exact aq ⟨H,I,by rw[if_pos rfl];exact h⟩
 |_,_, .cons (cs:=cs) hc hr,s,σ,H,I,h=>by
  rw[rq,if_pos rfl]
  refine af (af (thn (hc pins s σ H _ I h) λb s1 ⟨H1,I1,q1⟩=>aq ?_))
  cases b with
  |true=>
   rw[if_pos rfl] at q1
   exact xE hr I1 q1
  |false=>
   rw[if_neg cy] at q1
   exact aAL ⟨H1,I1,by rw[if_neg cy];exact q1⟩
def PB (X:Cx)(elt:Expr)(gens:List Comprehension)(scope:Scope)(pos:Pos)(d:Nat)(acc:Addr)(t:TS):Prop:=
 ∀(pins:List (Addr×Obj)) (s:Shared) (σ:St) (H:Hp) (D:vS) (k:Sem Fin) (Q:Fin->Shared->Prop) (E:Value->Shared->Prop),Inv X pins σ H s->t D σ H ->
  (∀s' σ' H',Inv X pins σ' H' s'->D.nx σ' H'->wpAny (model X.prog X.w) X.A k Q E s')->wpAny (model X.prog X.w) X.A (yB elt gens scope pos d (.ref acc) X.env k) Q E s
def bF (te:TE)(acc:Addr):TS:=λD σ H=>te σ H λx H1=>∃xs,H1 acc=some (.lst xs)/\xs.length<bx/\D.nx σ (upd H1 acc (.lst (xs++[x])))
theorem kH (hx:X.xe=λ_ _=>False)(he:PE X elt te)(hl:gens[d+1]?=none):PB X elt gens scope pos d acc (bF te acc):=by
 intro pins s σ H D k Q E I h hk
 unfold yB
 rw[hl]
 refine af (af (i9 (he pins s σ H _ I h) (λv s1 ⟨x,H1,I1,r1,xs,ha,hz,q⟩=>?_) λ_ _ z=>by rw[hx] at z;exact z.elim))
 have hm:=iU (X:=X) pins s1 σ H1 (.ref acc) [x] (.ref acc) [v] (λv H'=>v = .non/\D.nx σ H') I1 rfl (.cons r1 .nil) ⟨acc,xs,x,rfl,rfl,ha,hz,rfl,q⟩
 refine af (i9 hm (λ_ s2 ⟨x2,H2,I2,r2,_,q2⟩=>aq (hk s2 σ H2 I2 q2)) λ_ _ z=>by rw[hx] at z;exact z.elim)
theorem wK {elt target iter: Expr}{ifs: List Expr}{gens: List Comprehension}{scope: Scope}{pos: Pos}{d: Nat}{acc it: Addr}{fp: List Addr}{tn: Nat->Heap->Prop}{J: It}{g: TG}{ts: List TT}{tb: TS}{D: vS}{pins: List (Addr×Obj)}{s: Shared}{σ: St}{H: Hp}(hx:X.xe=λ_ _=>False)(hc:X.calm=true)(hgd:gens[d]?=some ⟨target,iter,ifs,0⟩)(hn:∀g',gens[d+1]?=some g'->g'.is_async=0)(hg:PG X target g)(hts:PTs X ifs ts)(hb:PB X elt gens scope pos d acc tb)(T:aIp X.prog X.w X.K target J fp it tn)(I:Inv X pins σ H s)(st:tn 0 s.heap)(hf:∀b∈fp,zI X pins H b)(h:cX J g (eE ts tb) D σ H):
  wz (model X.prog X.w) X.A (.compStart (.ListComp elt gens scope pos) d (.ref it) (.ref acc) X.env) (λr s'=>∃f,r = .ok f/\∃σ' H',Inv X pins σ' H' s'/\D.nx σ' H') s:=by
 have stat:∀{H':Hp},(∀b∈fp,H' b=none)->∀b∈fp,zI X pins H' b:=λhn b hb=>⟨hn b hb,(hf b hb).2⟩
 obtain⟨W,⟨m0,w0⟩,turn⟩:=h
 have E0:∀(e:Value) (s':Shared),X.xe e s'->notedBy (model X.prog X.w) X.A X.env (λe s'=>∃f,(Except.error e:BH) = .ok f/\∃σ' H',Inv X pins σ' H' s'/\D.nx σ' H') e s':=λe s' z=>by rw[hx] at z;exact z.elim
 have loop:wz (model X.prog X.w) X.A (.compLoop (.ListComp elt gens scope pos) d (.ref it) (.ref acc) X.env) (λr s'=>∃f,r = .ok f/\∃σ' H',Inv X pins σ' H' s'/\D.nx σ' H') s:=by
  refine codeAny_loop rfl (λn s'=>∃i σ' H',Inv X pins σ' H' s'/\tn i s'.heap/\(∀b∈fp,H' b=none)/\W i n σ' H') ?_ m0 ⟨0,σ,H,I,st,λb hb=>(hf b hb).1,w0⟩
  rintro n s3 ⟨i,σ3,H3,I3,st3,fr3,w3⟩
  show wpAny _ X.A ((compTurn (.ListComp elt gens scope pos) d (.ref it) (.ref acc) X.env).onRaise (λx=>do noteFrame x X.env;theTreesLotGoes x)) _ _ s3
  refine wpAny_noted ?_
  rw[aAh _ _ _ hgd hn]
  refine af (rh (af ?_))
  rcases turn i n σ3 H3 w3 with⟨stop,qn⟩ | ⟨go,N,hN,step⟩
  ·refine i9 (T.done X rfl rfl rfl hc i pins s3 σ3 H3 (λ_ _=>False) I3 (stat fr3) st3 stop) (λr s4 ⟨hr,I4⟩=>?_) (λ_ _ z=>z.elim)
   subst hr
   exact aq ⟨.next,rfl,σ3,H3,I4,qn⟩
  ·refine i9 (T.item X rfl rfl rfl hc i pins s3 σ3 H3 (λ_ _=>False) I3 (stat fr3) st3 go) (λr s4 ⟨u,hr,h4⟩=>?_) (λ_ _ z=>z.elim)
   subst hr
   refine af (i9 h4 (λ_ s5 ⟨x,H5,I5,r5,y5,st5,fr5⟩=>?_) (λ_ _ z=>z.elim))
   have I5':=I5.pinned (stat fr5) (T.obj _ _ st5)
   refine af (i9 (hg _ s5 σ3 H5 x u _ I5' r5 (step x H5 y5)) (λ_ s6 ⟨σ6,H6,I6,q6⟩=>?_) E0)
   refine af (i9 (xE hts I6 q6) (λok s7 ⟨H7,I7,q7⟩=>?_) E0)
   have again:∀{σ7:St}{H7:Hp}{s7:Shared},Inv X (pins++wP fp s5.heap) σ7 H7 s7->N σ7 H7->∃m,m<n/\∃i σ' H',Inv X pins σ' H' s7/\tn i s7.heap/\(∀b∈fp,H' b=none)/\W i m σ' H':=λ{σ7 H7 s7} I7 n7=>by
    obtain⟨m',hm,w7⟩:=hN σ7 H7 n7
    refine⟨m',hm,i+1,σ7,H7,I7.unpinned,T.keep _ _ _ st5 λb hb o e=>(I7.pin (b,o) (df _ (df _ (gR hb e)))).1,λb hb=>?_,w7⟩
    obtain⟨o,e,d⟩:=T.obj _ _ st5 b hb
    exact(I7.pin (b,o) (df _ (df _ (gR hb e)))).2.1
   cases ok with
   |false=>
    rw[if_neg cy] at q7 ⊢
    exact aq ⟨rfl,again I7 q7⟩
   |true=>
    rw[if_pos rfl] at q7 ⊢
    exact hb _ s7 σ6 H7 _ _ _ _ I7 q7 λs8 σ8 H8 I8 q8=>aq ⟨rfl,again I8 q8⟩
 refine zg ?_
 show wpAny _ _ ((compStart (.ListComp elt gens scope pos) d (.ref it) (.ref acc) X.env).onRaise (λx=>do noteFrame x X.env;Aw theWindowsPlace)) _ _ s
 refine wpAny_notedAt ?_
 have hcl:clausesOf (.ListComp elt gens scope pos)=gens:=rfl
 unfold compStart
 rw[hcl,hgd]
 show wpAny _ _ (ask >>= _) _ _ s
 refine af (nk (wpAny_ite ?_))
 split
 ·first
   |exact af (aq (aq (And.intro rfl loop)))
   |exact aq (And.intro rfl loop)
 ·refine af (u5 ?_)
  show wpAny _ _ (Aw iter.pos >>= _) _ _ s
  exact af (rh (af (T.self X.A 0 s _ _ st (aq (And.intro rfl loop)))))
theorem aIN (hx:X.xe=λ_ _=>False)(hc:X.calm=true)(hgd:gens[d+1]?=some ⟨target,iter,ifs,0⟩)(hn:∀g',gens[d+2]?=some g'->g'.is_async=0)(hi:PI X target iter wi)(hg:PG X target g)(hts:PTs X ifs ts)(hb:PB X elt gens scope pos (d+1) acc tb)(hs:∀x,kx iter X.env x=pure x:=by intro _;rfl):
  PB X elt gens scope pos d acc (gQ wi g (eE ts tb)):=by
 intro pins s σ H D k Q E I h hk
 unfold yB
 rw[hgd]
 have EX:∀(e:Value) (s':Shared),X.xe e s'->E e s':=λe s' z=>by rw[hx] at z;exact z.elim
 refine af (i9 (hi pins s σ H (λJ H1=>cX J g (eE ts tb) D σ H1) I h) (λv s1 h1=>?_) EX)
 refine af (rh (af (vf (hs v) (af (gj (i9 h1 (λitv s2 h2=>?_) EX))))))
 obtain⟨it,fp,tn,J,H2,e,I2,T,st2,f2,q2⟩:=h2
 subst e
 refine af (wpAny_runOwn (lh (wK hx hc hgd hn hg hts hb T I2 st2 f2 q2) λr s3 ⟨f,hr,σ3,H3,I3,q3⟩=>?_))
 subst hr
 exact hk s3 σ3 H3 I3 q3
def dL (cells:List (Str×Addr)):List (Str×NameKind)->List (Str×Addr)->List (Str×Addr)
 |[],acc=>acc
 | (n,k) :: r,acc=>if k == .free then dL cells r ((n,(cells.lookup n).getD 0) :: acc) else dL cells r acc
theorem sE (h:∀x∈scope.names,x.2 = .free->(env.cells.lookup x.1).isSome=true):closureFor scope env=pure (dL env.cells scope.names []):=by
 have go:∀(names:List (Str×NameKind)) (acc:List (Str×Addr)),(∀x∈names,x.2 = .free->(env.cells.lookup x.1).isSome=true) ->
   (forIn names acc λx (r:List (Str×Addr))=>if x.2 == NameKind.free then(do let c <- cellOf env x.1;pure (ForInStep.yield ((x.1,c) :: r))) else pure (ForInStep.yield r):Sem (List (Str×Addr)))=pure (dL env.cells names acc):=by
  intro names
  induction names with
  |nil=>intro acc _;rw[qk];rfl
  |cons x r ih=>
   intro acc hh
   obtain⟨n,k⟩:=x
   rw[rq]
   unfold dL
   cases hk:k == NameKind.free with
   |false=>
    rw[if_neg cy,if_neg cy]
    exact ih acc λy hy=>hh y (ay _ hy)
   |true=>
    rw[if_pos rfl,if_pos rfl]
    obtain⟨c,hc⟩:=ja.mp (hh (n,k) cv (by simpa using hk))
    have e:cellOf env n=pure c:=by
     unfold cellOf
     rw[show env.cells.lookup n=some c from hc]
    show(do let x <- (do let c <- cellOf env n;pure (ForInStep.yield ((n,c) :: acc)));_)=_
    rw[e]
    rw[show((env.cells.lookup n).getD 0)=c by rw[show env.cells.lookup n=some c from hc];rfl]
    exact ih ((n,c) :: acc) λy hy=>hh y (ay _ hy)
 have:=go scope.names [] h
 unfold closureFor
 refine Eq.trans ?_ (congrArg (λm=>m >>= λr=>pure r) this |>.trans rfl)
 rfl
theorem qF:∀(names:List (Str×NameKind)) (acc:List (Str×Addr)),(x,NameKind.free)∉names->(dL cells names acc).lookup x=acc.lookup x
 |[],_,_=>rfl
 | (n,k) :: r,acc,h=>by
  unfold dL
  have hr:(x,NameKind.free)∉r:=λz=>h (ay _ z)
  cases hk:k == NameKind.free with
  |false=>rw[if_neg cy];exact qF r acc hr
  |true=>
   rw[if_pos rfl,qF r _ hr,iw]
   have e:k = .free:=by simpa using hk
   have ne:(x == n)=false:=by
    cases q:x == n with
    |false=>rfl
    |true=>exact absurd (by rw[beq_iff_eq.mp q,e];exact cv) h
   rw[ne]
theorem oB (hc:cells.lookup x=some c):∀(names:List (Str×NameKind)) (acc:List (Str×Addr)),(x,NameKind.free)∈names->(dL cells names acc).lookup x=some c
 |[],_,h=>by simp at h
 | (n,k) :: r,acc,h=>by
  unfold dL
  by_cases hr:(x,NameKind.free)∈r
  ·cases hk:k == NameKind.free with
   |false=>rw[if_neg cy];exact oB hc r acc hr
   |true=>rw[if_pos rfl];exact oB hc r _ hr
  ·rcases bq.mp h with e | e
   ·cases e
    rw[if_pos (by decide),qF r _ hr,iw]
    simp[hc]
   ·exact absurd e hr
theorem kK:∀(names:List (Str×NameKind)) (acc:List (Str×Addr)),(∀y∈names,y.2 = .free->(cells.lookup y.1).isSome=true)->(x,c)∈dL cells names acc ->
  (x,c)∈acc\/((x,NameKind.free)∈names/\cells.lookup x=some c)
 |[],_,_,h => .inl h
 | (n,k) :: r,acc,hh,h=>by
  unfold dL at h
  have hr:∀y∈r,y.2 = .free->(cells.lookup y.1).isSome=true:=λy hy=>hh y (ay _ hy)
  cases hk:k == NameKind.free with
  |false=>
   rw[hk,if_neg cy] at h
   exact(kK r acc hr h).imp id λz=>⟨ay _ z.1,z.2⟩
  |true=>
   rw[hk,if_pos rfl] at h
   have ek:k = .free:=by simpa using hk
   rcases kK r _ hr h with z | z
   ·rcases bq.mp z with z | z
    ·cases z
     obtain⟨d,hd⟩:=ja.mp (hh (x,k) cv ek)
     exact .inr ⟨by rw[ek];exact cv,by rw[hd];rfl⟩
    ·exact .inl z
   ·exact .inr ⟨ay _ z.1,z.2⟩
theorem iP (inj:∀x y c,cells.lookup x=some c->cells.lookup y=some c->x=y):∀(names:List (Str×NameKind)) (acc:List (Str×Addr)),(names.map (·.1)).Nodup ->
  (∀y∈names,y.2 = .free->(cells.lookup y.1).isSome=true)->(∀p∈acc,cells.lookup p.1=some p.2/\p.1∉names.map (·.1))->(acc.Pairwise λx y=>x.2≠y.2)->(dL cells names acc).Pairwise λx y=>x.2≠y.2
 |[],_,_,_,_,h=>h
 | (n,k) :: r,acc,nd,hh,ha,h=>by
  unfold dL
  have hr:∀y∈r,y.2 = .free->(cells.lookup y.1).isSome=true:=λy hy=>hh y (ay _ hy)
  obtain⟨n1,n2⟩:=gg.mp nd
  cases hk:k == NameKind.free with
  |false=>
   rw[if_neg cy]
   exact iP inj r acc n2 hr (λp hp=>⟨(ha p hp).1,λz=>(ha p hp).2 (ay _ z)⟩) h
  |true=>
   rw[if_pos rfl]
   have ek:k = .free:=by simpa using hk
   obtain⟨d,hd⟩:=ja.mp (hh (n,k) cv ek)
   have hd':cells.lookup n=some d:=hd
   refine iP inj r _ n2 hr (λp hp=>?_) (wj.mpr ⟨λp hp e=>?_,h⟩)
   ·rcases bq.mp hp with e | hp
    ·subst e;exact⟨by rw[hd'];rfl,n1⟩
    ·exact⟨(ha p hp).1,λz=>(ha p hp).2 (ay _ z)⟩
   ·rw[hd'] at e
    have e':d=p.2:=e
    have:n=p.1:=inj n p.1 d hd' (by rw[e'];exact(ha p hp).1)
    exact(ha p hp).2 (by rw[<- this];exact cv)
theorem eB:∀(names:List (Str×NameKind)) (n:Nat) (acc:List (Str×Addr)),(x,c)∈km n names acc->(n<=c/\(x,NameKind.cell)∈names)\/(x,c)∈acc
 |[],_,_,h => .inr h
 | (y,k) :: r,n,acc,h=>by
  unfold km at h
  cases hk:k == NameKind.cell with
  |false=>
   rw[hk,if_neg cy] at h
   exact(eB r n acc h).imp (λz=>⟨z.1,ay _ z.2⟩) id
  |true=>
   rw[hk,if_pos rfl] at h
   have ek:k = .cell:=by simpa using hk
   rcases eB r (n+1) _ h with z | z
   ·exact .inl ⟨by lia,ay _ z.2⟩
   ·rcases bq.mp z with z | z
    ·cases z
     exact .inl ⟨bc _,by rw[ek];exact cv⟩
    ·exact .inr z
theorem dG:∀(names:List (Str×NameKind)) (n:Nat) (acc:List (Str×Addr)),(∀p∈acc,p.2<n)->(acc.Pairwise λx y=>x.2≠y.2)->(km n names acc).Pairwise λx y=>x.2≠y.2
 |[],_,_,_,h=>h
 | (y,k) :: r,n,acc,hl,h=>by
  unfold km
  cases hk:k == NameKind.cell with
  |false=>rw[if_neg cy];exact dG r n acc hl h
  |true=>
   rw[if_pos rfl]
   refine dG r (n+1) _ (λp hp=>?_) (wj.mpr ⟨λp hp e=>?_,h⟩)
   ·rcases bq.mp hp with e | hp
    ·subst e;exact k9 _
    ·exact i5 (hl p hp)
   ·have e':n=p.2:=e
    exact kn _ (e' ▸ hl p hp)
theorem eU:∀(names:List (Str×NameKind)) (n:Nat) (acc:List (Str×Addr)),(x,NameKind.cell)∉names->(km n names acc).lookup x=acc.lookup x
 |[],_,_,_=>rfl
 | (y,k) :: r,n,acc,h=>by
  unfold km
  have hr:(x,NameKind.cell)∉r:=λz=>h (ay _ z)
  cases hk:k == NameKind.cell with
  |false=>rw[if_neg cy];exact eU r n acc hr
  |true=>
   rw[if_pos rfl,eU r _ _ hr,iw]
   have e:k = .cell:=by simpa using hk
   have ne:(x == y)=false:=by
    cases q:x == y with
    |false=>rfl
    |true=>exact absurd (by rw[beq_iff_eq.mp q,e];exact cv) h
   rw[ne]
theorem dH:∀(names:List (Str×NameKind)) (h:Heap) (acc:List (Str×Addr)),(x,c)∈km h.objs.size names acc->(x,c)∈acc\/(By h names).IsCell c none
 |[],_,_,hm => .inl hm
 | (y,k) :: r,h,acc,hm=>by
  unfold km at hm
  unfold By
  cases hk:k == NameKind.cell with
  |false=>
   rw[hk,if_neg cy] at hm
   rw[if_neg cy]
   exact dH r h acc hm
  |true=>
   rw[hk,if_pos rfl] at hm
   rw[if_pos rfl]
   have:=dH (x:=x) (c:=c) r (h.push { cls := .type "cell",data := .cell none }) ((y,h.objs.size) :: acc) (by rw[gm];exact hm)
   rcases this with z | z
   ·rcases bq.mp z with z | z
    ·cases z
     exact .inr ⟨_,zh r _ _ _ (bp _ rfl),rfl⟩
    ·exact .inl z
   ·exact .inr z
theorem bZ:∀{names:List (Str×NameKind)},(names.map (·.1)).Nodup->(x,k)∈names->names.lookup x=some k
 |[],_,h=>by simp at h
 | (y,j) :: r,nd,h=>by
  obtain⟨n1,n2⟩:=gg.mp nd
  rw[iw]
  rcases bq.mp h with e | e
  ·cases e;simp
  ·have ne:(x == y)=false:=by
    cases q:x == y with
    |false=>rfl
    |true=>exact absurd (b6.mpr ⟨(x,k),e,beq_iff_eq.mp q⟩) n1
   rw[ne]
   exact bZ n2 e
theorem jD: (Bf scope env).names.lookup x=some k->(k = .cell\/k = .free)->scope.names.lookup x=some .cell\/scope.names.lookup x=some .free:=by
 unfold Bf
 show(scope.names.map _).lookup x=some k->_
 induction scope.names with
 |nil=>intro h;simp at h
 |cons p r ih=>
  obtain⟨n,j⟩:=p
  intro h hk
  rw[cf] at h
  rw[iw]
  by_cases hc:(j == NameKind.free && env.scope.kind == .function && env.kindOf n == some .cell)=true
  ·simp only[hc,if_true] at h
   rw[iw] at h
   cases q:x == n with
   |true=>
    have:j = .free:=by
     have:=(uk.mp (uk.mp hc).1).1
     simpa using this
    simp[this]
   |false=>rw[q] at h;simpa using ih h hk
  ·simp only[hc,gc,if_false] at h
   rw[iw] at h
   cases q:x == n with
   |true=>
    rw[q] at h
    simp only[Option.some.injEq] at h
    subst h
    rcases hk with e | e <;> simp[e]
   |false=>rw[q] at h;simpa using ih h hk
theorem xY (hf:env.scope.kind = .function):scope.names.lookup x=some .free->(Bf scope env).names.lookup x=some .cell\/(Bf scope env).names.lookup x=some .free:=by
 unfold Bf
 show _->(scope.names.map _).lookup x=_\/(scope.names.map _).lookup x=_
 induction scope.names with
 |nil=>intro h;simp at h
 |cons p r ih=>
  obtain⟨n,j⟩:=p
  intro h
  rw[iw] at h
  rw[cf]
  cases q:x == n with
  |true=>
   rw[q] at h
   simp only[Option.some.injEq] at h
   subst h
   by_cases hc:(NameKind.free == NameKind.free && env.scope.kind == .function && env.kindOf n == some .cell)=true
   ·left;simp only[hc,if_true];rw[iw,q]
   ·right;simp only[hc,gc,if_false];rw[iw,q]
  |false=>
   rw[q] at h
   by_cases hc:(j == NameKind.free && env.scope.kind == .function && env.kindOf n == some .cell)=true
   ·simp only[hc,if_true];rw[iw,q];exact ih h
   ·simp only[hc,gc,if_false];rw[iw,q];exact ih h
def bV (X:Cx)(N:List Str)(scope:Scope)(s:Shared)(H:Hp)(fp:List Addr):Cx where
 prog:=X.prog
 w:=X.w
 K:=X.K
 mg:=X.mg
 base:=X.base
 A:=X.A
 N:=N
 s₀:=s
 H₀:=H
 env:=compEnvC scope (km (s.heap.objs.size+1) scope.names (dL X.env.cells scope.names [])) s.heap.objs.size X.env
 outer:=X.stack
 stack:=X.stack
 ex:=fp
 fn:=λx=>scope.names.lookup x == some .cell
 calm:=X.calm
 pn:=[]
 xe:=λ_ _=>False
def aMW (σ:St):Option Nat->Option V
 |none=>none
 |some j=>(σ[j]?).join
def gG (N:List Str)(names encl:List (Str×NameKind))(N':List Str)(ix:List (Option Nat)):Bool:=
 decide ((names.map (·.1)).Nodup) && names.all (λp=>!(p.2 == NameKind.free) || (encl.lookup p.1 == some NameKind.cell || encl.lookup p.1 == some NameKind.free)) && ix.length == N'.length &&
  ((N'.zip ix).all λp=>match p.2 with
   |none=>true
   |some j=>N[j]? == some p.1 && names.lookup p.1 == some NameKind.free)
def bI (ix:List (Option Nat))(wi:TI)(g:TG)(ts:List TT)(tb:Addr->TS):TE:=λσ H Q=>wi σ H λJ H1=>∀acc,H1 acc=none ->
 cX J g (eE ts (tb acc)) { nx:=λ_ H'=>Q (.ref acc) H',rt:=λ_ _=>False } (ix.map (aMW σ)) (upd H1 acc (.lst []))
theorem aCA {scope: Scope}{N': List Str}{ix: List (Option Nat)}{pins: List (Addr×Obj)}{σ: St}{H: Hp}{s: Shared}{fp: List Addr}(I:Inv X pins σ H s)(hok:gG X.N scope.names X.env.scope.names N' ix=true)(hk:scope.kind = .function)(hf:∀b∈fp,zI X pins H b)(hfo:∀b∈fp,∃o,s.heap.get? b=some o)(h:∀s',(∀b o,s.heap.get? b=some o->s'.heap.get? b=some o)->Inv (bV X N' scope s H fp) [] (ix.map (aMW σ)) H s'->Q (newEnv scope s.heap.objs.size X.env.globals (km (s.heap.objs.size+1) scope.names (dL X.env.cells scope.names [])) X.env.qual none .none (some X.env) A9) s'):
  wpAny (model X.prog X.w) X.A (Aq scope X.env.globals (dL X.env.cells scope.names []) [] X.env.qual none .none (some X.env)) Q E s:=by
 have hok2:=hok
 simp only[gG,dn,decide_eq_true_eq,e9] at hok
 obtain⟨⟨⟨nd,hfr⟩,hlen⟩,hix⟩:=hok
 have hlen:ix.length=N'.length:=by simpa using hlen
 have isF:∀y∈scope.names,y.2 = .free->X.env.kindOf y.1=some .cell\/X.env.kindOf y.1=some .free:=λy hy e=>by
  have:=hfr y hy
  have:X.env.scope.names.lookup y.1=some .cell\/X.env.scope.names.lookup y.1=some .free:=by simpa[e] using this
  exact this
 have hasC:∀y∈scope.names,y.2 = .free->(X.env.cells.lookup y.1).isSome=true:=λy hy e=>by
  obtain⟨c,hc⟩:=I.ok.has y.1 (isF y hy e)
  rw[hc];rfl
 have oldC:∀x c,(x,c)∈dL X.env.cells scope.names []->(x,NameKind.free)∈scope.names/\X.env.cells.lookup x=some c:=λx c hm=>(kK _ _ hasC hm).resolve_left (by simp)
 have ltC:∀x c,X.env.cells.lookup x=some c->c<s.heap.objs.size:=λx c e=>by obtain⟨v,q⟩:=I.cell x c e;exact q.lt
 have apart:(km (s.heap.objs.size+1) scope.names (dL X.env.cells scope.names [])).Pairwise λx y=>x.2≠y.2:=
  dG _ _ _ (λp hp=>i5 (ltC p.1 p.2 (oldC p.1 p.2 hp).2)) (iP I.ok.inj _ _ nd hasC (by simp) List.Pairwise.nil)
 have fromC:∀x c,(km (s.heap.objs.size+1) scope.names (dL X.env.cells scope.names [])).lookup x=some c->(s.heap.objs.size+1<=c/\(x,NameKind.cell)∈scope.names)\/((x,NameKind.free)∈scope.names/\X.env.cells.lookup x=some c):=λx c e=>
  (eB _ _ _ (gv e)).imp id λz=>oldC x c z
 have sz1:(s.heap.push { cls := .type "dict",data := .dict #[] }).objs.size=s.heap.objs.size+1:=gm ..
 simp only[Aq,Option.isSome_some,if_true]
 refine af (wpAny_alloc ?_)
 refine af (wpAny_layCells _ (λname kind cells=>by cases hkc:kind == NameKind.cell <;> simp[hkc]) _ _ _ _ ?_)
 rw[show({ s with heap:=s.heap.push { cls := .type "dict",data := .dict #[] } }:Shared).heap.objs.size=s.heap.objs.size+1 from sz1]
 refine af ?_
 rw[qk]
 refine aq (aq ?_)
 have keep:∀b o,s.heap.get? b=some o->(By (s.heap.push { cls := .type "dict",data := .dict #[] }) scope.names).get? b=some o:=λb o e=>zh _ _ b o (ak _ e)
 refine h _ keep ?_
 have kk:∀x:Str,(bV X N' scope s H fp).env.kindOf x=(Bf scope X.env).names.lookup x:=λ_=>rfl
 have emptyC:∀x c,(km (s.heap.objs.size+1) scope.names (dL X.env.cells scope.names [])).lookup x=some c->∃v,(By (s.heap.push { cls := .type "dict",data := .dict #[] }) scope.names).IsCell c v:=λx c e=>by
  have:=dH (x:=x) (c:=c) scope.names (s.heap.push { cls := .type "dict",data := .dict #[] }) (dL X.env.cells scope.names []) (by rw[sz1];exact gv e)
  rcases this with z | z
  ·obtain⟨v,q⟩:=I.cell x c (oldC x c z).2
   exact⟨v,q.keeps keep⟩
  ·exact⟨none,z⟩
 refine⟨⟨I.ok.mod,hk,I.ok.glob,I.ok.blt,bc _,λy z c h1 h2=>?_,λy hy=>?_,λy c hy e=>?_,I.ok.hd,I.ok.frames, .inl rfl,λb hb=>⟨?_,λx c e=>?_⟩,I.bs,de I.ok.bsz I.sz,λb o e hb=>?_,λb hb hs=>?_,I.stack,I.stkFree⟩,
  rfl,I.bare,Un.kept keep,⟨λ_=>none,(Heap.Ns.new s.heap (.type "dict")).keeps (zh _ _),λi x v e1 e2 e3=>?_⟩,emptyC,I.hok.fresh (bc _),λy c e=>?_,λp hp=>absurd (show p∈([]:List (Addr×Obj)) from hp) (by simp),I.hok.kept keep,by rw[ae];exact hlen⟩
 ·exact name_of_addr apart (gv h1) (gv h2)
 ·rw[kk] at hy
  have hy':scope.names.lookup y=some .cell\/scope.names.lookup y=some .free:=by
   rcases hy with q | q
   ·exact jD q (.inl rfl)
   ·exact jD q (.inr rfl)
  refine ja.mp (sf _ _ _ ?_)
  rcases hy' with q | q
  ·exact .inl q
  ·have hm:=gv q
   obtain⟨c,hc⟩:=ja.mp (hasC _ hm rfl)
   exact .inr (by rw[oB hc _ _ hm];rfl)
 ·have hy:scope.names.lookup y=some .cell:=by simpa using(show(scope.names.lookup y == some NameKind.cell)=true from hy)
  rcases fromC y c e with z | z
  ·exact xi z.1
  ·have:=bZ nd z.1
   rw[hy] at this;cases this
 ·obtain⟨o,ho⟩:=hfo b hb
  exact dt (bu ho)
 ·rcases fromC x c e with z | z
  ·obtain⟨o,ho⟩:=hfo b hb
   exact kr (cg (bu ho) (xi z.1))
  ·exact(hf b hb).2.2.2.2.1 x c z.2
 ·rcases(hf b hb).2.2.2.1 with z | z
  ·exact I.ok.noex b o e z
  ·exact absurd (cg (bu (I.ok.bs b o e).1) z) (kn _)
 ·rcases bq.mp (I.stkSub b hs) with z | z
  ·exact(hf b hb).2.1 z
  ·exact(hf b hb).2.2.1 z
 ·rw[aw] at e2
  cases hj:ix[i]? with
  |none=>rw[hj] at e2;cases e2
  |some oj=>
   rw[hj] at e2
   have e2:aMW σ oj=some v:=by simpa using e2
   cases oj with
   |none=>cases e2
   |some j=>
    have hv:σ[j]?=some (some v):=by
     have e2':(σ[j]?).join=some v:=e2
     cases q:σ[j]? with
     |none=>rw[q] at e2';cases e2'
     |some w=>rw[q] at e2';have:w=some v:=e2';rw[this]
    have hz:(x,some j)∈N'.zip ix:=by
     refine ar (i:=i) ?_
     rw[List.getElem?_zip_eq_some]
     exact⟨e1,hj⟩
    have:=hix _ hz
    simp only[dn,beq_iff_eq] at this
    obtain⟨n1,n2⟩:=this
    have hm:=gv n2
    obtain⟨m,hn,hl⟩:=I.loc
    have kf:=isF (x, .free) hm rfl
    have vis:Vis X.env.scope x:=by
     rcases kf with q | q
     ·exact .inr (.inl q)
     ·exact .inr (.inr q)
    obtain⟨u,r,l⟩:=hl j x v n1 hv vis
    refine⟨u,r, .inr ?_⟩
    rcases l with⟨k1,_⟩ | ⟨_,c,hc,hcell⟩
    ·rcases kf with q | q <;> (rw[show X.env.kindOf x=some NameKind.local from k1] at q;cases q)
    ·refine⟨?_,c,?_,hcell.keeps keep⟩
     ·rw[kk];exact xY I.ok.kind n2
     ·show(km _ _ _).lookup x=some c
      rw[eU,oB hc _ _ hm]
      intro z
      have:=bZ nd z
      rw[n2] at this;cases this
 ·rcases fromC y c e with z | z
  ·exact I.hok.fresh (xi z.1)
  ·exact I.freeC y c z.2
theorem tK {elt target iter: Expr}{ifs: List Expr}{rest: List Comprehension}{scope: Scope}{pos: Pos}{N': List Str}{ix: List (Option Nat)}{g: TG}{ts: List TT}{tb: Addr->TS}{pins: List (Addr×Obj)}{σ: St}{H: Hp}{s: Shared}{it: Addr}{fp: List Addr}{tn: Nat->Heap->Prop}{J: It}{RR: Value->Addr->BH->Shared->Prop}{D: Addr->vS}(hc:X.calm=true)(hok:gG X.N scope.names X.env.scope.names N' ix=true)(hk:scope.kind = .function)(hn:∀g',rest[0]?=some g'->g'.is_async=0)(hg:∀s H fp,PG (bV X N' scope s H fp) target g)(hts:∀s H fp,PTs (bV X N' scope s H fp) ifs ts)(hb:∀s H fp acc,PB (bV X N' scope s H fp) elt (⟨target,iter,ifs,0⟩ :: rest) scope pos 0 acc (tb acc))(I:Inv X pins σ H s)(T:aIp X.prog X.w X.K target J fp it tn)(st:tn 0 s.heap)(hf:∀b∈fp,zI X pins H b)(h:∀acc,H acc=none->cX J g (eE ts (tb acc)) (D acc) (ix.map (aMW σ)) (upd H acc (.lst [])))(hR:∀acc C s' H' σ',H acc=none->s.heap.objs.size<=C->Inv X pins σ H' s'->zI X pins H' C->(∃m,s'.heap.Ns C m)->(D acc).nx σ' H'->RR (.ref acc) C (.ok .next) s'):
  wpAny (model X.prog X.w) X.A (newList []) (λacc s₃=>wpAny (model X.prog X.w) X.A (Aq scope X.env.globals (dL X.env.cells scope.names []) [] X.env.qual none .none (some X.env)) (λcenv s₄=>
   wz (model X.prog X.w) X.A (.compStart (.ListComp elt (⟨target,iter,ifs,0⟩ :: rest) scope pos) 0 (.ref it) acc { cenv with scope:=Bf scope X.env }) (λr s'=>∃f,r = .ok f/\RR acc cenv.locals (.ok .next) s') s₄) E s₃) E s:=by
 refine gn ?_
 have hnone:H s.heap.objs.size=none:=I.hok.fresh (bc _)
 have I3:Inv X pins σ (upd H s.heap.objs.size (.lst [])) { s with heap:=s.heap.push { cls := .type "list",data := .seq ([]:List Value).toArray } }:=
  I.laid (t':=s.toks) (λb u e=>ak _ e) (bc _) ⟨bg _,[],0, .nil,bp _ rfl⟩
 have hlt:∀b∈fp,b<s.heap.objs.size:=λb hb=>by obtain⟨o,ho,_⟩:=T.obj 0 _ st b hb;exact bu ho
 have hf3:∀b∈fp,zI X pins (upd H s.heap.objs.size (.lst [])) b:=λb hb=>⟨by rw[aK (dt (hlt b hb))];exact(hf b hb).1,(hf b hb).2⟩
 refine aCA (fp:=fp) I3 hok hk hf3 (λb hb=>?_) λs4 keep I4=>?_
 ·obtain⟨o,ho,_⟩:=T.obj 0 _ st b hb
  exact⟨o,ak _ ho⟩
 have st4:tn 0 s4.heap:=T.keep 0 _ _ st λb hb o e=>keep b o (ak _ e)
 have size3:({ s with heap:=s.heap.push { cls := .type "list",data := .seq ([]:List Value).toArray } }:Shared).heap.objs.size=s.heap.objs.size+1:=gm ..
 have hf4:∀b∈fp,zI (bV X N' scope { s with heap:=s.heap.push { cls := .type "list",data := .seq ([]:List Value).toArray } } (upd H s.heap.objs.size (.lst [])) fp) [] (upd H s.heap.objs.size (.lst [])) b:=λb hb=>
  ⟨(hf3 b hb).1,(I4.ok.exf b hb).1,I4.ok.exfs b hb, .inl hb,(I4.ok.exf b hb).2,λp hp=>absurd (show p∈([]:List (Addr×Obj)) from hp) (by simp)⟩
 refine lh (wK (X:=bV X N' scope { s with heap:=s.heap.push { cls := .type "list",data := .seq ([]:List Value).toArray } } (upd H s.heap.objs.size (.lst [])) fp) rfl hc (d:=0) (gens:=⟨target,iter,ifs,0⟩ :: rest) rfl hn (hg _ _ _) (hts _ _ _) (hb _ _ _ _) T I4 st4 hf4 (h _ hnone)) λr s5 ⟨f,hr,σ5,H5,I5,q5⟩=>⟨f,hr,?_⟩
 have I6:Inv X pins σ H5 s5:=I3.call' (ch:=fp) (I5.os.trans rfl) I5.base I5.hok I5.bare λb hb=>⟨(hf3 b hb).2.2.2.1,(hf3 b hb).2.1,(hf3 b hb).2.2.2.2.1,(hf3 b hb).2.2.2.2.2⟩
 have hC:s.heap.objs.size<=(bV X N' scope { s with heap:=s.heap.push { cls := .type "list",data := .seq ([]:List Value).toArray } } (upd H s.heap.objs.size (.lst [])) fp).env.locals:=by
  show s.heap.objs.size<=_
  exact de (tj _) (Nat.le_of_eq size3.symm)
 refine hR _ _ s5 H5 σ5 hnone hC I6 (I3.fpOk (bc _) I5.free) ?_ q5
 obtain⟨m,hm,_⟩:=I5.loc
 exact⟨m,hm⟩
theorem lP {X: Cx}{scope: Scope}{N': List Str}{ix: List (Option Nat)}(hok:gG X.N scope.names X.env.scope.names N' ix=true):∀x∈scope.names,x.2 = .local->scope.names.lookup x.1=some .local:=by
 simp only[gG,dn,decide_eq_true_eq,e9] at hok
 intro x hx e
 obtain⟨n,k⟩:=x
 have e:k = .local:=e
 subst e
 exact bZ hok.1.1.1 hx
theorem pT {scope: Scope}{N': List Str}{ix: List (Option Nat)}{pins: List (Addr×Obj)}{σ: St}{H: Hp}{s: Shared}(I:Inv X pins σ H s)(hok:gG X.N scope.names X.env.scope.names N' ix=true):closureFor scope X.env=pure (dL X.env.cells scope.names []):=by
 refine sE λy hy e=>?_
 simp only[gG,dn,decide_eq_true_eq,e9] at hok
 have:=hok.1.1.2 y hy
 have:X.env.scope.names.lookup y.1=some .cell\/X.env.scope.names.lookup y.1=some .free:=by simpa[e] using this
 obtain⟨c,hc⟩:=I.ok.has y.1 this
 rw[hc];rfl
theorem kE (hok:gG X.N scope.names X.env.scope.names N' ix=true)(hk:scope.kind = .function)(hc:X.calm=true)(hi:PI X target iter wi)(hg:∀s H fp,PG (bV X N' scope s H fp) target g)(hts:∀s H fp,PTs (bV X N' scope s H fp) ifs ts)(hb:∀s H fp acc,PB (bV X N' scope s H fp) elt (⟨target,iter,ifs,0⟩ :: rest) scope pos 0 acc (tb acc))(hn:∀g',rest[0]?=some g'->g'.is_async=0:=by intro _ h;first | cases h;rfl | cases h)(hs:∀x,kx iter X.env x=pure x:=by intro _;rfl):
  PE X (.ListComp elt (⟨target,iter,ifs,0⟩ :: rest) scope pos) (bI ix wi g ts tb):=by
 intro pins s σ H Q I h
 rw[eval_ListComp]
 refine xj (use:=none) rfl hs (pT I hok) hk (lP hok) (thn (hi pins s σ H _ I h) λxv s₁ h₁=>thn h₁ λitv s₂ h₂=>?_)
 obtain⟨it,fp,tn,J,H2,e,I2,T,st2,f2,q2⟩:=h₂
 subst e
 refine thn (tK (RR:=λacc C r s'=>compPost (model X.prog X.w) X.A X.xe none (EP X pins σ Q) acc C r s') hc hok hk hn hg hts hb I2 T st2 f2 q2 λacc C s' H' σ' ha hC I' fC hns q=>?_) λacc s3 h3=>thn h3 λcenv s4 h4=>lh h4 λr s5 ⟨f,hr,h5⟩=>?_
 ·obtain⟨m,hm⟩:=hns
  refine⟨m,hm,λh' hs'=>⟨.ref acc,H',I'.turned (t':=s'.toks) (λb o hb e=>(hs'.2 b hb).trans e) fC.1 fC.2.1 fC.2.2.2.1 fC.2.2.2.2.1 fC.2.2.2.2.2,rfl,q⟩⟩
 ·subst hr
  exact h5
theorem aCd {elt target iter: Expr}{ifs: List Expr}{rest: List Comprehension}{scope: Scope}{pos: Pos}{N': List Str}{ix: List (Option Nat)}{wi: TI}{g: TG}{ts: List TT}{tb: Addr->TS}{i: Nat}{x: Str}{pos' spos: Pos}(hN:X.N.Nodup)(hix:X.N[i]?=some x)(hx:Loc X.env.scope x)(hok:gG X.N scope.names X.env.scope.names N' ix=true)(hk:scope.kind = .function)(hc:X.calm=true)(hi:PI X target iter wi)(hg:∀s H fp,PG (bV X N' scope s H fp) target g)(hts:∀s H fp,PTs (bV X N' scope s H fp) ifs ts)(hb:∀s H fp acc,PB (bV X N' scope s H fp) elt (⟨target,iter,ifs,0⟩ :: rest) scope pos 0 acc (tb acc))(hsw:AM (.ListComp elt (⟨target,iter,ifs,0⟩ :: rest) scope pos) (some (.Name x pos')) spos.line X.env=pure true:=by rfl)(hf:X.fn x=true\/X.env.scope.names.lookup x=some .local:=by first | exact .inl rfl | exact .inr rfl | assumption)(hn:∀g',rest[0]?=some g'->g'.is_async=0:=by intro _ h;first | cases h;rfl | cases h)(hs:∀x,kx iter X.env x=pure x:=by intro _;rfl):
  PS X (.Assign [.Name x pos'] (.ListComp elt (⟨target,iter,ifs,0⟩ :: rest) scope pos) spos) (aQ (bI ix wi g ts tb) (aE i)):=by
 intro pins s σ H D I h
 rw[exec_Assign_Name_used _ _ _ _ hsw]
 refine af (rh (af ?_))
 show wpAny _ X.A (do let _ <- comprehension (.ListComp elt (⟨target,iter,ifs,0⟩ :: rest) scope pos) scope X.env _ (newList []) false (eval iter X.env) (some (Bi (.Name x pos') X.env))) _ _ s
 refine af (i9 (xj (use:=some (Bi (.Name x pos') X.env)) (Q:=λ_ s'=>SP X pins D .next s') rfl hs (pT I hok) hk (lP hok) (thn (hi pins s σ H _ I h) λxv s₁ h₁=>thn h₁ λitv s₂ h₂=>?_)) (λ_ s' hq=>aq (aq hq)) λ_ _ e=>e)
 obtain⟨it,fp,tn,J,H2,e,I2,T,st2,f2,q2⟩:=h₂
 subst e
 refine thn (tK (RR:=λacc C r s'=>compPost (model X.prog X.w) X.A X.xe (some (Bi (.Name x pos') X.env)) (λ_ s'=>SP X pins D .next s') acc C r s') hc hok hk hn hg hts hb I2 T st2 f2 q2 λacc C s' H' σ' ha hC I' fC hns q=>?_) λacc s3 h3=>thn h3 λcenv s4 h4=>lh h4 λr s5 ⟨f,hr,h5⟩=>?_
 ·obtain⟨m,hm⟩:=hns
  show wpAny _ X.A (Bi (.Name x pos') X.env (.ref acc)) _ _ _
  refine wpAny_assign_Name (yN I' hN hix hx (v := .ref acc) rfl (λs6 I6 ⟨a,hsb,ha6⟩=>?_) hf)
  have hCa:C≠a:=by
   rcases ha6 with z | z
   ·rw[z];exact fC.2.1
   ·exact(fC.2.2.2.2.1 x a z).symm
  refine⟨m,hm.sameBut hsb hCa,λh' hs'=>⟨_,H',I6.turned (t':=s6.toks) (λb o hb e=>(hs'.2 b hb).trans e) fC.1 fC.2.1 fC.2.2.2.1 fC.2.2.2.2.1 fC.2.2.2.2.2,q⟩⟩
 ·subst hr
  exact h5
theorem Same.tup {K: aa}{H H': Hp}{a: Addr}{xs: List V}(e:Same H H')(h:SqT K H a xs):SqT K H' a xs:=by
 rcases h with(h | ⟨o,h⟩) | h
 ·exact .inl (.inl (e _ _ h))
 ·exact .inl (.inr ⟨o,e _ _ h⟩)
 ·exact .inr h
inductive Dt where
 |non | bl (b:Bool) | int (i:Int) | str (x:Str) | tup (ds:List Dt) | lst (ds:List Dt)
mutual
def Sh (K:aa)(H:Hp):Dt->V->Prop
 | .non,v=>v = .non
 | .bl b,v=>v = .bl b
 | .int i,v=>v = .int i
 | .str x,v=>v = .str x
 | .tup ds,v=>∃a xs,v = .ref a/\SqT K H a xs/\ShL K H ds xs
 | .lst ds,v=>∃a xs,v = .ref a/\SqL K H a xs/\ShL K H ds xs
def ShL (K:aa)(H:Hp):List Dt->List V->Prop
 |[],xs=>xs=[]
 |d :: ds,xs=>∃x r,xs=x :: r/\Sh K H d x/\ShL K H ds r
end
mutual
def eqD:Dt->Dt->Bool
 | .non, .non=>true
 | .bl a, .bl b=>a == b
 | .int a, .int b=>a == b
 | .str a, .str b=>a == b
 | .bl a, .int b=>(if a then 1 else 0) == b
 | .int a, .bl b=>a == (if b then 1 else 0)
 | .tup ds, .tup es=>eqL ds es
 | .lst ds, .lst es=>eqL ds es
 |_,_=>false
def eqL:List Dt->List Dt->Bool
 |[],[]=>true
 |d :: ds,e :: es=>eqD d e && eqL ds es
 |_,_=>false
end
mutual
def dep:Dt->Nat
 | .tup ds=>vJ ds+1
 | .lst ds=>vJ ds+1
 |_=>0
def vJ:List Dt->Nat
 |[]=>0
 |d :: ds=>max (dep d) (vJ ds)
end
section
variable {K:aa}{H H':Hp}
mutual
theorem Sh.same (e:Same H H'):∀{d:Dt}{v:V},Sh K H d v->Sh K H' d v
 | .non,_,h=>h
 | .bl _,_,h=>h
 | .int _,_,h=>h
 | .str _,_,h=>h
 | .tup ds,_,⟨a,xs,h1,h2,h3⟩=>⟨a,xs,h1,e.tup h2,ShL.same e h3⟩
 | .lst ds,_,⟨a,xs,h1,h2,h3⟩=>⟨a,xs,h1,e.seq h2,ShL.same e h3⟩
theorem ShL.same (e:Same H H'):∀{ds:List Dt}{xs:List V},ShL K H ds xs->ShL K H' ds xs
 |[],_,h=>h
 |d :: ds,_,⟨x,r,h1,h2,h3⟩=>⟨x,r,h1,Sh.same e h2,ShL.same e h3⟩
end
theorem ShL.length:∀{ds:List Dt}{xs:List V},ShL K H ds xs->ds.length=xs.length
 |[],_,h=>by rw[show _=[] from h];rfl
 |d :: ds,_,⟨x,r,h1,h2,h3⟩=>by rw[h1,da,da,ShL.length h3]
theorem ShL.get:∀{ds:List Dt}{xs:List V}{j:Nat}{d:Dt},ShL K H ds xs->ds[j]?=some d->∃x,xs[j]?=some x/\Sh K H d x
 |[],_,_,_,_,h=>by simp at h
 |d :: ds,_,0,e,⟨x,r,h1,h2,h3⟩,h=>by
  have:d=e:=by simpa using h
  subst this
  exact⟨x,by rw[h1];rfl,h2⟩
 |d :: ds,_,j+1,e,⟨x,r,h1,h2,h3⟩,h=>by
  obtain⟨y,h4,h5⟩:=ShL.get (j:=j) h3 (by simpa using h)
  exact⟨y,by rw[h1];simpa using h4,h5⟩
theorem ShL.ints:∀(ns:List Int),ShL K H (ns.map Dt.int) (ns.map V.int)
 |[]=>rfl
 |n :: ns=>⟨.int n,ns.map V.int,rfl,rfl,ShL.ints ns⟩
theorem ShL.of_ints:∀{ns:List Int}{xs:List V},ShL K H (ns.map Dt.int) xs->xs=ns.map V.int
 |[],_,h=>h
 |n :: ns,_,⟨x,r,h1,h2,h3⟩=>by rw[h1,ShL.of_ints h3,show x=V.int n from h2];rfl
end
mutual
theorem jE:∀d:Dt,eqD d d=true
 | .non=>by unfold eqD;rfl
 | .bl b=>by unfold eqD;simp
 | .int b=>by unfold eqD;simp
 | .str b=>by unfold eqD;simp
 | .tup ds=>by unfold eqD;exact cZ ds
 | .lst ds=>by unfold eqD;exact cZ ds
theorem cZ:∀ds:List Dt,eqL ds ds=true
 |[]=>by unfold eqL;rfl
 |d :: ds=>by unfold eqL;rw[jE d,cZ ds];rfl
end
theorem lA:∀{ds es:List Dt},eqL ds es=true->ds.length=es.length
 |[],[],_=>rfl
 |[],_ :: _,h=>by unfold eqL at h;cases h
 |_ :: _,[],h=>by unfold eqL at h;cases h
 |d :: ds,e :: es,h=>by
  unfold eqL at h
  rw[da,da,lA (uk.mp h).2]
theorem hZ (n:Nat)(f:Nat->Bool): (ao (n+1)).all f=(f 0 && (ao n).all λj=>f (j+1)):=by
 rw[so,uv,Bn]
 rfl
theorem kU:∀(ds es:List Dt),((ao (min ds.length es.length)).all (λj=>eqD (ds.getD j .non) (es.getD j .non)) && ds.length == es.length)=eqL ds es
 |[],[]=>by unfold eqL;rfl
 |[],e :: es=>by unfold eqL;simp
 |d :: ds,[]=>by unfold eqL;simp
 |d :: ds,e :: es=>by
  have ih:=kU ds es
  unfold eqL
  rw[<- ih,da,da,Nat.succ_min_succ,hZ,Bool.and_assoc]
  congr 1
  congr 1
  simp
theorem vB {ds: List Dt}{j: Nat}{d: Dt}(h:ds[j]?=some d):dep d<=vJ ds:=by
 induction ds generalizing j with
 |nil=>simp at h
 |cons e es ih=>
  unfold vJ
  cases j with
  |zero=>
   have:e=d:=by simpa using h
   subst this
   exact Nat.le_max_left _ _
  |succ j=>exact de (ih (by simpa using h)) (Nat.le_max_right _ _)
section
variable {X:Cx}{pins:List (Addr×Obj)}{σ:St}{H:Hp}{s:Shared}
theorem Inv.tl_ne (I:Inv X pins σ H s)(h:SqT X.K H a xs)(h':SqL X.K H a ys):False:=by
 obtain⟨its,r,⟨o,e,c,n,d⟩,_⟩:=I.tuple h
 obtain⟨its',r',⟨o',n',e',c',_,d'⟩,_⟩:=I.list h'
 rw[e] at e';cases e'
 rw[c] at c';simp at c'
mutual
theorem Inv.sh_inj (I:Inv X pins σ H s):∀{d e:Dt}{v:V},Sh X.K H d v->Sh X.K H e v->d=e
 | .non,e,v,h,h'=>by
  have h:v = .non:=h
  subst h
  cases e <;> first | rfl | (exact absurd (show V.non=_ from h') (λz=>nomatch z)) | (obtain⟨_,_,z,_⟩:=h';cases z)
 | .bl b,e,v,h,h'=>by
  have h:v = .bl b:=h
  subst h
  cases e <;> first | (cases (show V.bl b=V.bl _ from h');rfl) | (exact absurd (show V.bl b=_ from h') (λz=>nomatch z)) | (obtain⟨_,_,z,_⟩:=h';cases z)
 | .int b,e,v,h,h'=>by
  have h:v = .int b:=h
  subst h
  cases e <;> first | (cases (show V.int b=V.int _ from h');rfl) | (exact absurd (show V.int b=_ from h') (λz=>nomatch z)) | (obtain⟨_,_,z,_⟩:=h';cases z)
 | .str b,e,v,h,h'=>by
  have h:v = .str b:=h
  subst h
  cases e <;> first | (cases (show V.str b=V.str _ from h');rfl) | (exact absurd (show V.str b=_ from h') (λz=>nomatch z)) | (obtain⟨_,_,z,_⟩:=h';cases z)
 | .tup ds,e,v,⟨a,xs,h1,h2,h3⟩,h'=>by
  subst h1
  cases e with
  |tup es=>
   obtain⟨a',xs',z,h2',h3'⟩:=h'
   cases z
   rw[I.tuple_inj h2' h2] at h3'
   rw[Inv.shL_inj I h3 h3']
  |lst es=>
   obtain⟨a',xs',z,h2',h3'⟩:=h'
   cases z
   exact(I.tl_ne h2 h2').elim
  |_=>exact absurd (show V.ref a=_ from h') (λz=>nomatch z)
 | .lst ds,e,v,⟨a,xs,h1,h2,h3⟩,h'=>by
  subst h1
  cases e with
  |lst es=>
   obtain⟨a',xs',z,h2',h3'⟩:=h'
   cases z
   rw[I.list_inj h2' h2] at h3'
   rw[Inv.shL_inj I h3 h3']
  |tup es=>
   obtain⟨a',xs',z,h2',h3'⟩:=h'
   cases z
   exact(I.tl_ne h2' h2).elim
  |_=>exact absurd (show V.ref a=_ from h') (λz=>nomatch z)
theorem Inv.shL_inj (I:Inv X pins σ H s):∀{ds es:List Dt}{xs:List V},ShL X.K H ds xs->ShL X.K H es xs->ds=es
 |[],[],_,_,_=>rfl
 |[],e :: es,_,h,⟨x,r,h1,_⟩=>by rw[show _=[] from h] at h1;cases h1
 |d :: ds,[],_,⟨x,r,h1,_⟩,h=>by rw[show _=[] from h] at h1;cases h1
 |d :: ds,e :: es,_,⟨x,r,h1,h2,h3⟩,⟨x',r',h1',h2',h3'⟩=>by
  rw[h1] at h1'
  cases h1'
  rw[Inv.sh_inj I h2 h2',Inv.shL_inj I h3 h3']
end
end
section
open PySem.SeqAt
theorem nQ {X: Cx}{H: Hp}{s: Shared}{ds es: List Dt}{xs ys: List V}{us vs: List Value}(hs:ShL X.K H ds xs)(hr:Vals xs us)(hs':ShL X.K H es ys)(hr':Vals ys vs)(h:∀(d e:Dt) (x y:V) (u v:Value),(∃j:Nat,ds[j]?=some d)->RelV x u->RelV y v->Sh X.K H d x->Sh X.K H e y->EqAt A s u v (eqD d e)):
  ∀j (h1:j<us.toArray.size) (h2:j<vs.toArray.size),EqAt A s us.toArray[j] vs.toArray[j] (eqD (ds.getD j .non) (es.getD j .non)):=by
 intro j h1 h2
 have l1:=hs.length
 have l2:=hr.length
 have l3:=hs'.length
 have l4:=hr'.length
 have g1:j<us.length:=by simpa using h1
 have g2:j<vs.length:=by simpa using h2
 have e1:ds[j]?=some (ds.getD j .non):=by rw[aj,ah (by lia)];rfl
 have e2:es[j]?=some (es.getD j .non):=by rw[aj,ah (by lia)];rfl
 obtain⟨x,hx,sx⟩:=hs.get e1
 obtain⟨y,hy,sy⟩:=hs'.get e2
 obtain⟨u,hu,ru⟩:=hr.get hx
 obtain⟨v,hv,rv⟩:=hr'.get hy
 have q1:us.toArray[j]=u:=by
  rw[ah g1] at hu
  simpa using hu
 have q2:vs.toArray[j]=v:=by
  rw[ah g2] at hv
  simpa using hv
 rw[q1,q2]
 exact h _ _ x y u v ⟨j,e1⟩ ru rv sx sy
theorem Inv.eq_sh {pins: List (Addr×Obj)}{σ: St}{H: Hp}{s: Shared}(I:Inv X pins σ H s):∀(n:Nat) (A:Around) (d e:Dt) (x y:V) (u v:Value),dep d<=n->A.units+n<cLine->RelV x u->RelV y v->Sh X.K H d x->Sh X.K H e y->RcAt A s u v (eqD d e)/\EqAt A s u v (eqD d e):=by
 intro n
 induction n with
 |zero=>
  intro A d e x y u v hd hu rx ry hx hy
  have hu0:A.units<cLine:=by lia
  cases d with
  |tup ds=>unfold dep at hd;lia
  |lst ds=>unfold dep at hd;lia
  |non=>
   obtain rfl:x = .non:=hx
   obtain rfl:u=Value.none:=rx
   cases e with
   |non=>obtain rfl:y = .non:=hy;obtain rfl:v=Value.none:=ry;unfold eqD;exact⟨RcAt.none_none,EqAt.same _⟩
   |bl b=>obtain rfl:y = .bl b:=hy;obtain rfl:v=Value.bool b:=ry;unfold eqD;exact⟨RcAt.none_bool b,EqAt.none_bool b⟩
   |int b=>obtain rfl:y = .int b:=hy;obtain⟨t,rfl⟩:=ry;unfold eqD;exact⟨RcAt.none_int b t,EqAt.none_int b t⟩
   |str b=>obtain rfl:y = .str b:=hy;obtain⟨t,rfl⟩:=ry;unfold eqD;exact⟨RcAt.none_str b t,EqAt.none_str b t⟩
   |tup es=>obtain⟨b,ys,rfl,hq,_⟩:=hy;obtain rfl:v=Value.ref b:=ry;obtain⟨its,_,p,_⟩:=I.tuple hq;unfold eqD;exact⟨RcAt.none_tuple (show s.heap.IsTuple b its.toArray from p) hu0,EqAt.none_tuple (show s.heap.IsTuple b its.toArray from p) hu0⟩
   |lst es=>obtain⟨b,ys,rfl,hq,_⟩:=hy;obtain rfl:v=Value.ref b:=ry;obtain⟨its,_,p,_⟩:=I.list hq;unfold eqD;exact⟨RcAt.none_list p.isList hu0,EqAt.none_list p.isList hu0⟩
  |bl a=>
   obtain rfl:x = .bl a:=hx
   obtain rfl:u=Value.bool a:=rx
   cases e with
   |non=>obtain rfl:y = .non:=hy;obtain rfl:v=Value.none:=ry;unfold eqD;exact⟨RcAt.bool_none a,EqAt.bool_none a⟩
   |bl b=>obtain rfl:y = .bl b:=hy;obtain rfl:v=Value.bool b:=ry;unfold eqD;exact⟨RcAt.bool_bool a b,EqAt.bool_bool a b⟩
   |int b=>obtain rfl:y = .int b:=hy;obtain⟨t,rfl⟩:=ry;unfold eqD;exact⟨RcAt.bool_int a b t,EqAt.bool_int a b t⟩
   |str b=>obtain rfl:y = .str b:=hy;obtain⟨t,rfl⟩:=ry;unfold eqD;exact⟨RcAt.bool_str a b t,EqAt.bool_str a b t⟩
   |tup es=>obtain⟨b,ys,rfl,hq,_⟩:=hy;obtain rfl:v=Value.ref b:=ry;obtain⟨its,_,p,_⟩:=I.tuple hq;unfold eqD;exact⟨RcAt.bool_tuple a (show s.heap.IsTuple b its.toArray from p) hu0,EqAt.bool_tuple a (show s.heap.IsTuple b its.toArray from p) hu0⟩
   |lst es=>obtain⟨b,ys,rfl,hq,_⟩:=hy;obtain rfl:v=Value.ref b:=ry;obtain⟨its,_,p,_⟩:=I.list hq;unfold eqD;exact⟨RcAt.bool_list a p.isList hu0,EqAt.bool_list a p.isList hu0⟩
  |int a=>
   obtain rfl:x = .int a:=hx
   obtain⟨t0,rfl⟩:=rx
   cases e with
   |non=>obtain rfl:y = .non:=hy;obtain rfl:v=Value.none:=ry;unfold eqD;exact⟨RcAt.int_none a t0,EqAt.int_none a t0⟩
   |bl b=>obtain rfl:y = .bl b:=hy;obtain rfl:v=Value.bool b:=ry;unfold eqD;exact⟨RcAt.int_bool a t0 b,EqAt.int_bool a t0 b⟩
   |int b=>obtain rfl:y = .int b:=hy;obtain⟨t,rfl⟩:=ry;unfold eqD;exact⟨RcAt.int_int a t0 b t,EqAt.int_int a t0 b t⟩
   |str b=>obtain rfl:y = .str b:=hy;obtain⟨t,rfl⟩:=ry;unfold eqD;exact⟨RcAt.int_str a t0 b t,EqAt.int_str a t0 b t⟩
   |tup es=>obtain⟨b,ys,rfl,hq,_⟩:=hy;obtain rfl:v=Value.ref b:=ry;obtain⟨its,_,p,_⟩:=I.tuple hq;unfold eqD;exact⟨RcAt.int_tuple a t0 (show s.heap.IsTuple b its.toArray from p) hu0,EqAt.int_tuple a t0 (show s.heap.IsTuple b its.toArray from p) hu0⟩
   |lst es=>obtain⟨b,ys,rfl,hq,_⟩:=hy;obtain rfl:v=Value.ref b:=ry;obtain⟨its,_,p,_⟩:=I.list hq;unfold eqD;exact⟨RcAt.int_list a t0 p.isList hu0,EqAt.int_list a t0 p.isList hu0⟩
  |str a=>
   obtain rfl:x = .str a:=hx
   obtain⟨t0,rfl⟩:=rx
   cases e with
   |non=>obtain rfl:y = .non:=hy;obtain rfl:v=Value.none:=ry;unfold eqD;exact⟨RcAt.str_none a t0,EqAt.str_none a t0⟩
   |bl b=>obtain rfl:y = .bl b:=hy;obtain rfl:v=Value.bool b:=ry;unfold eqD;exact⟨RcAt.str_bool a t0 b,EqAt.str_bool a t0 b⟩
   |int b=>obtain rfl:y = .int b:=hy;obtain⟨t,rfl⟩:=ry;unfold eqD;exact⟨RcAt.str_int a t0 b t,EqAt.str_int a t0 b t⟩
   |str b=>obtain rfl:y = .str b:=hy;obtain⟨t,rfl⟩:=ry;unfold eqD;exact⟨RcAt.str_str a t0 b t,EqAt.str_str a t0 b t⟩
   |tup es=>obtain⟨b,ys,rfl,hq,_⟩:=hy;obtain rfl:v=Value.ref b:=ry;obtain⟨its,_,p,_⟩:=I.tuple hq;unfold eqD;exact⟨RcAt.str_tuple a t0 (show s.heap.IsTuple b its.toArray from p) hu0,EqAt.str_tuple a t0 (show s.heap.IsTuple b its.toArray from p) hu0⟩
   |lst es=>obtain⟨b,ys,rfl,hq,_⟩:=hy;obtain rfl:v=Value.ref b:=ry;obtain⟨its,_,p,_⟩:=I.list hq;unfold eqD;exact⟨RcAt.str_list a t0 p.isList hu0,EqAt.str_list a t0 p.isList hu0⟩
 |succ n ih=>
  intro A d e x y u v hd hu rx ry hx hy
  have hu0:A.units<cLine:=by lia
  by_cases hd0:dep d<=n
  ·exact ih A d e x y u v hd0 (by lia) rx ry hx hy
  cases d with
  |non=>exact absurd (bg _) hd0
  |bl a=>exact absurd (bg _) hd0
  |int a=>exact absurd (bg _) hd0
  |str a=>exact absurd (bg _) hd0
  |tup ds=>
   have hdd:vJ ds<=n:=by unfold dep at hd;lia
   have hx0:=hx
   obtain⟨a,xs,rfl,hq,hl⟩:=hx
   obtain rfl:u=Value.ref a:=rx
   obtain⟨its,rv,p,_⟩:=I.tuple hq
   have p:s.heap.IsTuple a its.toArray:=p
   cases e with
   |non=>obtain rfl:y = .non:=hy;obtain rfl:v=Value.none:=ry;unfold eqD;exact⟨RcAt.tuple_none p hu0,EqAt.tuple_none p hu0⟩
   |bl b=>obtain rfl:y = .bl b:=hy;obtain rfl:v=Value.bool b:=ry;unfold eqD;exact⟨RcAt.tuple_bool b p hu0,EqAt.tuple_bool b p hu0⟩
   |int b=>obtain rfl:y = .int b:=hy;obtain⟨t,rfl⟩:=ry;unfold eqD;exact⟨RcAt.tuple_int b t p hu0,EqAt.tuple_int b t p hu0⟩
   |str b=>obtain rfl:y = .str b:=hy;obtain⟨t,rfl⟩:=ry;unfold eqD;exact⟨RcAt.tuple_str b t p hu0,EqAt.tuple_str b t p hu0⟩
   |lst es=>obtain⟨b,ys,rfl,hq',_⟩:=hy;obtain rfl:v=Value.ref b:=ry;obtain⟨its',_,p',_⟩:=I.list hq';unfold eqD;exact⟨RcAt.tuple_list p p'.isList hu0,EqAt.tuple_list p p'.isList hu0⟩
   |tup es=>
    have hy0:=hy
    obtain⟨b,ys,rfl,hq',hl'⟩:=hy
    obtain rfl:v=Value.ref b:=ry
    obtain⟨its',rv',p',_⟩:=I.tuple hq'
    have p':s.heap.IsTuple b its'.toArray:=p'
    have he:=nQ (A:=A.in1) (s:=s) hl rv hl' rv' (λd e x y u v ⟨j,hj⟩ r1 r2 s1 s2=>(ih A.in1 d e x y u v (de (vB hj) hdd) (by show A.units+1+n<cLine;lia) r1 r2 s1 s2).2)
    have rc:=RcAt.tuples p p' hu0 he
    have l1:=hl.length
    have l2:=rv.length
    have l3:=hl'.length
    have l4:=rv'.length
    rw[av,av,<- l2,<- l4,<- l1,<- l3,kU] at rc
    unfold eqD
    refine⟨rc,?_⟩
    by_cases hab:a=b
    ·subst hab
     have:=I.sh_inj hx0 hy0
     cases this
     rw[cZ]
     exact EqAt.same _
    ·exact EqAt.of_refs hab rc
  |lst ds=>
   have hdd:vJ ds<=n:=by unfold dep at hd;lia
   have hx0:=hx
   obtain⟨a,xs,rfl,hq,hl⟩:=hx
   obtain rfl:u=Value.ref a:=rx
   obtain⟨its,rv,p,_⟩:=I.list hq
   have p:=p.isList
   cases e with
   |non=>obtain rfl:y = .non:=hy;obtain rfl:v=Value.none:=ry;unfold eqD;exact⟨RcAt.list_none p hu0,EqAt.list_none p hu0⟩
   |bl b=>obtain rfl:y = .bl b:=hy;obtain rfl:v=Value.bool b:=ry;unfold eqD;exact⟨RcAt.list_bool b p hu0,EqAt.list_bool b p hu0⟩
   |int b=>obtain rfl:y = .int b:=hy;obtain⟨t,rfl⟩:=ry;unfold eqD;exact⟨RcAt.list_int b t p hu0,EqAt.list_int b t p hu0⟩
   |str b=>obtain rfl:y = .str b:=hy;obtain⟨t,rfl⟩:=ry;unfold eqD;exact⟨RcAt.list_str b t p hu0,EqAt.list_str b t p hu0⟩
   |tup es=>obtain⟨b,ys,rfl,hq',_⟩:=hy;obtain rfl:v=Value.ref b:=ry;obtain⟨its',_,p',_⟩:=I.tuple hq';unfold eqD;exact⟨RcAt.list_tuple p (show s.heap.IsTuple b its'.toArray from p') hu0,EqAt.list_tuple p (show s.heap.IsTuple b its'.toArray from p') hu0⟩
   |lst es=>
    have hy0:=hy
    obtain⟨b,ys,rfl,hq',hl'⟩:=hy
    obtain rfl:v=Value.ref b:=ry
    obtain⟨its',rv',p',_⟩:=I.list hq'
    have p':=p'.isList
    have l1:=hl.length
    have l2:=rv.length
    have l3:=hl'.length
    have l4:=rv'.length
    have rc:RcAt A s (.ref a) (.ref b) (eqL ds es):=by
     by_cases hz:ds.length=es.length
     ·have he:=nQ (A:=A.in1) (s:=s) hl rv hl' rv' (λd e x y u v ⟨j,hj⟩ r1 r2 s1 s2=>(ih A.in1 d e x y u v (de (vB hj) hdd) (by show A.units+1+n<cLine;lia) r1 r2 s1 s2).2)
      have rc:=RcAt.lists p p' (by rw[av,av];lia) hu0 he
      rw[av,<- l2,<- l1] at rc
      have q:=kU ds es
      rw[<- hz,Nat.min_self,beq_self_eq_true,AU] at q
      rw[<- q]
      exact rc
     ·have q:eqL ds es=false:=by
       cases q:eqL ds es with
       |false=>rfl
       |true=>exact absurd (lA q) hz
      rw[q]
      exact RcAt.lists_lengths p p' (by rw[av,av];simp;lia) hu0
    unfold eqD
    refine⟨rc,?_⟩
    by_cases hab:a=b
    ·subst hab
     have:=I.sh_inj hx0 hy0
     cases this
     rw[cZ]
     exact EqAt.same _
    ·exact EqAt.of_refs hab rc
def gB (K:aa):R2:=λx y H Q=>∃d e,dep d<=100/\Sh K H d x/\Sh K H e y/\Q (.bl (eqD d e)) H
theorem aLi (hu:X.A.units+100<cLine):OpR X (jd .Eq) (gB X.K):=by
 intro pins s σ H x y v u Q I rx ry ⟨d,e,hd,hx,hy,q⟩
 exact(I.eq_sh 100 X.A d e x y v u hd hu rx ry hx hy).1 X.prog X.w X.xe _ ⟨.bl _,H,I,rfl,q⟩
end
section
open PySem.SeqAt
theorem Inv.ne_sh {pins: List (Addr×Obj)}{σ: St}{H: Hp}{s: Shared}(I:Inv X pins σ H s)(d e:Dt)(x y:V)(u v:Value)(hd:dep d<=100)(hu:A.units+101<cLine)(rx:RelV x u)(ry:RelV y v)(hx:Sh X.K H d x)(hy:Sh X.K H e y):RcNeAt A s u v (!eqD d e):=by
 have hu0:A.units<cLine:=by lia
 cases d with
 |non=>
  obtain rfl:x = .non:=hx
  obtain rfl:u=Value.none:=rx
  cases e with
  |non=>obtain rfl:y = .non:=hy;obtain rfl:v=Value.none:=ry;unfold eqD;exact RcNeAt.none_none
  |bl b=>obtain rfl:y = .bl b:=hy;obtain rfl:v=Value.bool b:=ry;unfold eqD;exact RcNeAt.none_bool b
  |int b=>obtain rfl:y = .int b:=hy;obtain⟨t,rfl⟩:=ry;unfold eqD;exact RcNeAt.none_int b t
  |str b=>obtain rfl:y = .str b:=hy;obtain⟨t,rfl⟩:=ry;unfold eqD;exact RcNeAt.none_str b t
  |tup es=>obtain⟨b,ys,rfl,hq,_⟩:=hy;obtain rfl:v=Value.ref b:=ry;obtain⟨its,_,p,_⟩:=I.tuple hq;unfold eqD;exact RcNeAt.none_tuple (show s.heap.IsTuple b its.toArray from p) hu0
  |lst es=>obtain⟨b,ys,rfl,hq,_⟩:=hy;obtain rfl:v=Value.ref b:=ry;obtain⟨its,_,p,_⟩:=I.list hq;unfold eqD;exact RcNeAt.none_list p.isList hu0
 |bl a=>
  obtain rfl:x = .bl a:=hx
  obtain rfl:u=Value.bool a:=rx
  cases e with
  |non=>obtain rfl:y = .non:=hy;obtain rfl:v=Value.none:=ry;unfold eqD;exact RcNeAt.bool_none a
  |bl b=>obtain rfl:y = .bl b:=hy;obtain rfl:v=Value.bool b:=ry;unfold eqD;exact RcNeAt.bool_bool a b
  |int b=>obtain rfl:y = .int b:=hy;obtain⟨t,rfl⟩:=ry;unfold eqD;exact RcNeAt.bool_int a b t
  |str b=>obtain rfl:y = .str b:=hy;obtain⟨t,rfl⟩:=ry;unfold eqD;exact RcNeAt.bool_str a b t
  |tup es=>obtain⟨b,ys,rfl,hq,_⟩:=hy;obtain rfl:v=Value.ref b:=ry;obtain⟨its,_,p,_⟩:=I.tuple hq;unfold eqD;exact RcNeAt.bool_tuple a (show s.heap.IsTuple b its.toArray from p) hu0
  |lst es=>obtain⟨b,ys,rfl,hq,_⟩:=hy;obtain rfl:v=Value.ref b:=ry;obtain⟨its,_,p,_⟩:=I.list hq;unfold eqD;exact RcNeAt.bool_list a p.isList hu0
 |int a=>
  obtain rfl:x = .int a:=hx
  obtain⟨t0,rfl⟩:=rx
  cases e with
  |non=>obtain rfl:y = .non:=hy;obtain rfl:v=Value.none:=ry;unfold eqD;exact RcNeAt.int_none a t0
  |bl b=>obtain rfl:y = .bl b:=hy;obtain rfl:v=Value.bool b:=ry;unfold eqD;exact RcNeAt.int_bool a t0 b
  |int b=>obtain rfl:y = .int b:=hy;obtain⟨t,rfl⟩:=ry;unfold eqD;exact RcNeAt.int_int a t0 b t
  |str b=>obtain rfl:y = .str b:=hy;obtain⟨t,rfl⟩:=ry;unfold eqD;exact RcNeAt.int_str a t0 b t
  |tup es=>obtain⟨b,ys,rfl,hq,_⟩:=hy;obtain rfl:v=Value.ref b:=ry;obtain⟨its,_,p,_⟩:=I.tuple hq;unfold eqD;exact RcNeAt.int_tuple a t0 (show s.heap.IsTuple b its.toArray from p) hu0
  |lst es=>obtain⟨b,ys,rfl,hq,_⟩:=hy;obtain rfl:v=Value.ref b:=ry;obtain⟨its,_,p,_⟩:=I.list hq;unfold eqD;exact RcNeAt.int_list a t0 p.isList hu0
 |str a=>
  obtain rfl:x = .str a:=hx
  obtain⟨t0,rfl⟩:=rx
  cases e with
  |non=>obtain rfl:y = .non:=hy;obtain rfl:v=Value.none:=ry;unfold eqD;exact RcNeAt.str_none a t0
  |bl b=>obtain rfl:y = .bl b:=hy;obtain rfl:v=Value.bool b:=ry;unfold eqD;exact RcNeAt.str_bool a t0 b
  |int b=>obtain rfl:y = .int b:=hy;obtain⟨t,rfl⟩:=ry;unfold eqD;exact RcNeAt.str_int a t0 b t
  |str b=>obtain rfl:y = .str b:=hy;obtain⟨t,rfl⟩:=ry;unfold eqD;exact RcNeAt.str_str a t0 b t
  |tup es=>obtain⟨b,ys,rfl,hq,_⟩:=hy;obtain rfl:v=Value.ref b:=ry;obtain⟨its,_,p,_⟩:=I.tuple hq;unfold eqD;exact RcNeAt.str_tuple a t0 (show s.heap.IsTuple b its.toArray from p) hu0
  |lst es=>obtain⟨b,ys,rfl,hq,_⟩:=hy;obtain rfl:v=Value.ref b:=ry;obtain⟨its,_,p,_⟩:=I.list hq;unfold eqD;exact RcNeAt.str_list a t0 p.isList hu0
 |tup ds=>
  have hdd:vJ ds<=100:=by unfold dep at hd;lia
  obtain⟨a,xs,rfl,hq,hl⟩:=hx
  obtain rfl:u=Value.ref a:=rx
  obtain⟨its,rv,p,_⟩:=I.tuple hq
  have p:s.heap.IsTuple a its.toArray:=p
  cases e with
  |non=>obtain rfl:y = .non:=hy;obtain rfl:v=Value.none:=ry;unfold eqD;exact RcNeAt.tuple_none p hu0
  |bl b=>obtain rfl:y = .bl b:=hy;obtain rfl:v=Value.bool b:=ry;unfold eqD;exact RcNeAt.tuple_bool b p hu0
  |int b=>obtain rfl:y = .int b:=hy;obtain⟨t,rfl⟩:=ry;unfold eqD;exact RcNeAt.tuple_int b t p hu0
  |str b=>obtain rfl:y = .str b:=hy;obtain⟨t,rfl⟩:=ry;unfold eqD;exact RcNeAt.tuple_str b t p hu0
  |lst es=>obtain⟨b,ys,rfl,hq',_⟩:=hy;obtain rfl:v=Value.ref b:=ry;obtain⟨its',_,p',_⟩:=I.list hq';unfold eqD;exact RcNeAt.tuple_list p p'.isList hu0
  |tup es=>
   obtain⟨b,ys,rfl,hq',hl'⟩:=hy
   obtain rfl:v=Value.ref b:=ry
   obtain⟨its',rv',p',_⟩:=I.tuple hq'
   have p':s.heap.IsTuple b its'.toArray:=p'
   have he:=nQ (A:=A.in1) (s:=s) hl rv hl' rv' (λd e x y u v ⟨j,hj⟩ r1 r2 s1 s2=>(I.eq_sh 100 A.in1 d e x y u v (de (vB hj) hdd) (by show A.units+1+100<cLine;lia) r1 r2 s1 s2).2)
   have rc:=RcNeAt.tuples p p' hu0 he
   have l1:=hl.length
   have l2:=rv.length
   have l3:=hl'.length
   have l4:=rv'.length
   rw[av,av,<- l2,<- l4,<- l1,<- l3,kU] at rc
   unfold eqD
   exact rc
 |lst ds=>
  have hdd:vJ ds<=100:=by unfold dep at hd;lia
  obtain⟨a,xs,rfl,hq,hl⟩:=hx
  obtain rfl:u=Value.ref a:=rx
  obtain⟨its,rv,p,_⟩:=I.list hq
  have p:=p.isList
  cases e with
  |non=>obtain rfl:y = .non:=hy;obtain rfl:v=Value.none:=ry;unfold eqD;exact RcNeAt.list_none p hu0
  |bl b=>obtain rfl:y = .bl b:=hy;obtain rfl:v=Value.bool b:=ry;unfold eqD;exact RcNeAt.list_bool b p hu0
  |int b=>obtain rfl:y = .int b:=hy;obtain⟨t,rfl⟩:=ry;unfold eqD;exact RcNeAt.list_int b t p hu0
  |str b=>obtain rfl:y = .str b:=hy;obtain⟨t,rfl⟩:=ry;unfold eqD;exact RcNeAt.list_str b t p hu0
  |tup es=>obtain⟨b,ys,rfl,hq',_⟩:=hy;obtain rfl:v=Value.ref b:=ry;obtain⟨its',_,p',_⟩:=I.tuple hq';unfold eqD;exact RcNeAt.list_tuple p (show s.heap.IsTuple b its'.toArray from p') hu0
  |lst es=>
   obtain⟨b,ys,rfl,hq',hl'⟩:=hy
   obtain rfl:v=Value.ref b:=ry
   obtain⟨its',rv',p',_⟩:=I.list hq'
   have p':=p'.isList
   have l1:=hl.length
   have l2:=rv.length
   have l3:=hl'.length
   have l4:=rv'.length
   unfold eqD
   by_cases hz:ds.length=es.length
   ·have he:=nQ (A:=A.in1) (s:=s) hl rv hl' rv' (λd e x y u v ⟨j,hj⟩ r1 r2 s1 s2=>(I.eq_sh 100 A.in1 d e x y u v (de (vB hj) hdd) (by show A.units+1+100<cLine;lia) r1 r2 s1 s2).2)
    have rc:=RcNeAt.lists p p' (by rw[av,av];lia) hu0 he
    rw[av,<- l2,<- l1] at rc
    have q:=kU ds es
    rw[<- hz,Nat.min_self,beq_self_eq_true,AU] at q
    rw[<- q]
    exact rc
   ·have q:eqL ds es=false:=by
     cases q:eqL ds es with
     |false=>rfl
     |true=>exact absurd (lA q) hz
    rw[q]
    exact RcNeAt.lists_lengths p p' (by rw[av,av];simp;lia) hu0
def zH (K:aa):R2:=λx y H Q=>∃d e,dep d<=100/\Sh K H d x/\Sh K H e y/\Q (.bl (!eqD d e)) H
theorem aKT (hu:X.A.units+101<cLine):OpR X (jd .NotEq) (zH X.K):=by
 intro pins s σ H x y v u Q I rx ry ⟨d,e,hd,hx,hy,q⟩
 exact(I.ne_sh d e x y v u hd hu rx ry hx hy) X.prog X.w X.xe _ ⟨.bl _,H,I,rfl,q⟩
def aKI:Dt->String->Bool
 | .non,_=>false
 | .bl _,T=>T == "bool" || T == "int"
 | .int _,T=>T == "int"
 | .str _,T=>T == "str"
 | .tup _,T=>T == "tuple"
 | .lst _,T=>T == "list"
def aFD (K:aa):List V->Hp->VK->Prop:=λvs H Q=>∃x d T,vs=[x, .ty T]/\(T="int"\/T="bool"\/T="tuple"\/T="list"\/T="str")/\Sh K H d x/\Q (.bl (aKI d T)) H
theorem aGW:CallR X (.builtin "isinstance") (aFD X.K):=by
 intro pins s σ H xs us Q I r ⟨x,d,T,e,hT,hx,q⟩
 subst e
 obtain⟨u,w',rfl,rx,rt⟩:=r.two
 obtain rfl:w'=Value.type T:=rt
 have fin:∀(b:Bool) (t:Nat),aKI d T=b->EP X pins σ Q (.bool b) { s with toks:=t }:=λb t e=>⟨.bl b,H,I.tok t,rfl,by rw[<- e];exact q⟩
 have fin0:∀(b:Bool),aKI d T=b->EP X pins σ Q (.bool b) s:=λb e=>⟨.bl b,H,I,rfl,by rw[<- e];exact q⟩
 cases d with
 |non=>
  obtain rfl:x = .non:=hx
  obtain rfl:u=Value.none:=rx
  rcases hT with rfl | rfl | rfl | rfl | rfl
  ·exact IsiPair.NoneType_int (fin _ _ rfl)
  ·exact IsiPair.NoneType_bool (fin _ _ rfl)
  ·exact IsiPair.NoneType_tuple (fin _ _ rfl)
  ·exact IsiPair.NoneType_list (fin _ _ rfl)
  ·exact IsiPair.NoneType_str (fin _ _ rfl)
 |bl b=>
  obtain rfl:x = .bl b:=hx
  obtain rfl:u=Value.bool b:=rx
  rcases hT with rfl | rfl | rfl | rfl | rfl
  ·exact IsiPair.bool_int (fin0 _ rfl)
  ·exact IsiPair.bool_bool (fin0 _ rfl)
  ·exact IsiPair.bool_tuple (fin _ _ rfl)
  ·exact IsiPair.bool_list (fin _ _ rfl)
  ·exact IsiPair.bool_str (fin _ _ rfl)
 |int b=>
  obtain rfl:x = .int b:=hx
  obtain⟨t,rfl⟩:=rx
  rcases hT with rfl | rfl | rfl | rfl | rfl
  ·exact IsiPair.int_int (fin0 _ rfl)
  ·exact IsiPair.int_bool (fin _ _ rfl)
  ·exact IsiPair.int_tuple (fin _ _ rfl)
  ·exact IsiPair.int_list (fin _ _ rfl)
  ·exact IsiPair.int_str (fin _ _ rfl)
 |str b=>
  obtain rfl:x = .str b:=hx
  obtain⟨t,rfl⟩:=rx
  rcases hT with rfl | rfl | rfl | rfl | rfl
  ·exact IsiPair.str_int (fin _ _ rfl)
  ·exact IsiPair.str_bool (fin _ _ rfl)
  ·exact IsiPair.str_tuple (fin _ _ rfl)
  ·exact IsiPair.str_list (fin _ _ rfl)
  ·exact IsiPair.str_str (fin0 _ rfl)
 |tup ds=>
  obtain⟨a,ys,rfl,hq,_⟩:=hx
  obtain rfl:u=Value.ref a:=rx
  obtain⟨its,_,⟨o,ho,hc,_⟩,_⟩:=I.tuple hq
  rcases hT with rfl | rfl | rfl | rfl | rfl
  ·exact IsiPair.tuple_int ho hc (fin _ _ rfl)
  ·exact IsiPair.tuple_bool ho hc (fin _ _ rfl)
  ·exact IsiPair.tuple_tuple ho hc (fin0 _ rfl)
  ·exact IsiPair.tuple_list ho hc (fin _ _ rfl)
  ·exact IsiPair.tuple_str ho hc (fin _ _ rfl)
 |lst ds=>
  obtain⟨a,ys,rfl,hq,_⟩:=hx
  obtain rfl:u=Value.ref a:=rx
  obtain⟨its,_,p,_⟩:=I.list hq
  obtain⟨o,ho,hc,_⟩:=p.isList
  rcases hT with rfl | rfl | rfl | rfl | rfl
  ·exact IsiPair.list_int ho hc (fin _ _ rfl)
  ·exact IsiPair.list_bool ho hc (fin _ _ rfl)
  ·exact IsiPair.list_tuple ho hc (fin _ _ rfl)
  ·exact IsiPair.list_list ho hc (fin0 _ rfl)
  ·exact IsiPair.list_str ho hc (fin _ _ rfl)
theorem aAA (hh:A.handled=none)(It ax:Addr)(hne:ax≠It)(items:Array Value):
  Walks prog w A It [It,ax] [It] items.size (λi v=>items[i]?=some v) (λi h=>h.IsTupleIter It ax i/\h.IsTuple ax items) where
 sub:=λb hb=>by simp at hb;simp[hb]
 frame:=λ_ _ _ st hk=>⟨st.1.at λo e=>hk It (by simp) o e,let⟨o,e,r⟩:=st.2;⟨o,hk ax (by simp) o e,r⟩⟩
 item:=λi s Q E hi st hQ=>by
  refine ya st.1 st.2 (x:=items[i]) (by simp[hi]) λh' hit' hs'=>?_
  refine hQ _ h' s.toks (by simp[hi]) ⟨hit',?_⟩ λb o hb e=>hs'.extBut b o (λh=>hb (by simp[h])) e
  obtain⟨o,e,r⟩:=st.2
  exact⟨o,hs'.extBut _ _ hne e,r⟩
 done:=λs Q E st hQ=>yq hh st.1 st.2 (by simp) λh' he'=>hQ h' s.toks λb o hb e=>he' b o (λh=>hb (by simp[h])) e
 self:=λ_ _ _ _ st hQ=>yr st.1 hQ
def Sq (K:aa)(H:Hp)(a:Addr)(xs:List V):Prop:=SqL K H a xs\/SqT K H a xs
theorem nY {pins: List (Addr×Obj)}{σ: St}{H: Hp}{s: Shared}{a: Addr}{xs: List V}(hh:A.handled=none)(I:Inv X pins σ H s)(h:Sq X.K H a xs)(hq:∀(its:List Value) (It:Addr) (fp wr:List Addr) (S:Nat->Heap->Prop) (s2:Shared),Vals xs its->xs.length<=bx->Walks X.prog X.w A It fp wr its.length (λi v=>its[i]?=some v) S->S 0 s2.heap->(∀b∈fp,b<s2.heap.objs.size) ->
   (∀h' tk,(∀b o,b∉wr->s2.heap.get? b=some o->h'.get? b=some o)->Inv X pins σ H { s2 with heap:=h',toks:=tk })->Q (.ref It) s2):wpAny (model X.prog X.w) A (Bj (.ref a)) Q E s:=by
 rcases h with h | h
 ·obtain⟨its,rv,p,hz⟩:=I.list h
  refine tm p.isList ?_
  have ha:a<s.heap.objs.size:=by obtain⟨o,e,_⟩:=p.isList;exact bu e
  refine hq its s.heap.objs.size [s.heap.objs.size,a] [s.heap.objs.size] (λi h=>h.IsListIter s.heap.objs.size a i/\h.IsList a its.toArray) _ rv hz (by simpa using Walks.list (prog:=X.prog) (w:=X.w) hh s.heap.objs.size a (dt ha) its.toArray) ⟨⟨_,bp _ rfl,rfl,rfl⟩,?_⟩ (λb hb=>?_) λh' tk hk=>?_
  ·obtain⟨o,e,r⟩:=p.isList
   exact⟨o,ak _ e,r⟩
  ·simp at hb
   show b<(s.heap.push _).objs.size
   rw[gm]
   rcases hb with rfl | rfl
   ·exact k9 _
   ·exact i5 ha
  ·exact I.kept λb o e=>hk b o (by simpa using dt (bu e)) (ak _ e)
 ·obtain⟨its,rv,p,hz⟩:=I.tuple h
  have p:s.heap.IsTuple a its.toArray:=p
  refine wk p ?_
  have ha:a<s.heap.objs.size:=by obtain⟨o,e,_⟩:=p;exact bu e
  refine hq its s.heap.objs.size [s.heap.objs.size,a] [s.heap.objs.size] (λi h=>h.IsTupleIter s.heap.objs.size a i/\h.IsTuple a its.toArray) _ rv hz (by simpa using aAA (prog:=X.prog) (w:=X.w) hh s.heap.objs.size a (dt ha) its.toArray) ⟨⟨_,bp _ rfl,rfl,rfl⟩,?_⟩ (λb hb=>?_) λh' tk hk=>?_
  ·obtain⟨o,e,r⟩:=p
   exact⟨o,ak _ e,r⟩
  ·simp at hb
   show b<(s.heap.push _).objs.size
   rw[gm]
   rcases hb with rfl | rfl
   ·exact k9 _
   ·exact i5 ha
  ·exact I.kept λb o e=>hk b o (by simpa using dt (bu e)) (ak _ e)
theorem Vals.getR:∀{xs:List V}{us:List Value}{i:Nat}{u:Value},Vals xs us->us[i]?=some u->∃x,xs[i]?=some x/\RelV x u
 |_,_,_,_, .nil,e=>by simp at e
 |_,_,0,_, .cons r _,e=>by simp at e;subst e;exact⟨_,rfl,r⟩
 |_,_,i+1,u, .cons _ t,e=>by
  obtain⟨x,h1,h2⟩:=Vals.getR (i:=i) (u:=u) t (by simpa using e)
  exact⟨x,by simpa using h1,h2⟩
theorem aGB (hc:X.calm=true):CallR X (.builtin "all") (λvs H Q=>∃(a:Addr) (bs:List Bool),vs=[.ref a]/\Sq X.K H a (bs.map V.bl)/\Q (.bl (bs.all id)) H):=by
 intro pins s σ H xs us Q I r ⟨a,bs,e,hq,q⟩
 subst e
 obtain⟨u,rfl,ru⟩:=r.one
 obtain rfl:u=Value.ref a:=ru
 refine call_all_walk (nY (I.ok.hd hc) I hq λits It fp wr S s2 rv hz W st hf hI=>?_)
 refine⟨It,fp,wr,its.length,_,S,λj=>bs.getD j false,rfl,W,st,λi v s' Q' E' hv hQ'=>?_,λh' tk hk=>?_⟩
 ·obtain⟨x,hx,rx⟩:=rv.getR hv
  rw[aw] at hx
  cases hb:bs[i]? with
  |none=>rw[hb] at hx;cases hx
  |some b=>
   rw[hb] at hx
   obtain rfl:V.bl b=x:=by simpa using hx
   obtain rfl:v=Value.bool b:=rx
   have:bs.getD i false=b:=by rw[aj,hb];rfl
   have hQ':Q' (bs.getD i false) s':=hQ'
   rw[this] at hQ'
   exact ia hQ'
 ·refine⟨.bl (bs.all id),H,hI h' tk hk,?_,q⟩
  show Value.bool _=Value.bool _
  congr 1
  have hl:its.length=bs.length:=by rw[<- rv.length,ae]
  rw[hl]
  clear q hq rv hl hz
  induction bs with
  |nil=>rfl
  |cons b bs ih=>rw[da,hZ,uv];exact congrArg (λz=>b && z) ih
theorem oS:∀(ns:List Int) (k:Nat),k<=ns.length->preSum (λj=>ns.getD j 0) k=(ns.take k).sum
 |ns,0,_=>by simp[preSum]
 |ns,k+1,h=>by
  have e:ns.take (k+1)=ns.take k++[ns[k]]:=by
   rw[e8,ah (by lia)];rfl
  have g:ns.getD k 0=ns[k]:=by rw[aj,ah (by lia)];rfl
  rw[preSum,oS ns k (by lia),e,List.sum_append_int,g]
  simp
theorem aFT (hc:X.calm=true):CallR X (.builtin "sum") (λvs H Q=>∃(a:Addr) (ns:List Int),vs=[.ref a]/\Sq X.K H a (ns.map V.int)/\Q (.int ns.sum) H):=by
 intro pins s σ H xs us Q I r ⟨a,ns,e,hq,q⟩
 subst e
 obtain⟨u,rfl,ru⟩:=r.one
 obtain rfl:u=Value.ref a:=ru
 refine call_sum_walkG (nY (I.ok.hd hc) I hq λits It fp wr S s2 rv hz W st hf hI=>?_)
 refine⟨It,fp,wr,its.length,_,S,λj=>ns.getD j 0,rfl,W,st,hf,λi v hv=>?_,λh' tk t' hk=>?_⟩
 ·obtain⟨x,hx,rx⟩:=rv.getR hv
  rw[aw] at hx
  cases hb:ns[i]? with
  |none=>rw[hb] at hx;cases hx
  |some b=>
   rw[hb] at hx
   obtain rfl:V.int b=x:=by simpa using hx
   obtain⟨t,rfl⟩:=rx
   exact⟨t,by show Value.int b t=Value.int (ns.getD i 0) t;rw[aj,hb];rfl⟩
 ·have hl:its.length=ns.length:=by rw[<- rv.length,ae]
  refine⟨.int ns.sum,H,hI h' tk hk,⟨t',?_⟩,q⟩
  rw[hl,oS ns ns.length (bc _),fc]
theorem sS:∀k,oq bt k<=k
 |0=>bc _
 |k+1=>by
  unfold oq
  split
  ·exact bc _
  ·exact Nat.le_succ_of_le (sS k)
theorem jJ {ns: List Int}:∀(k:Nat),∀j,j<=k->ns.getD (oq (λi j=>decide (ns.getD i 0<ns.getD j 0)) k) 0<=ns.getD j 0
 |0,j,h=>by
  have:j=0:=by lia
  subst this
  exact ij _
 |k+1,j,h=>by
  have ih:=jJ (ns:=ns) k
  unfold oq
  by_cases c:ns.getD (k+1) 0<ns.getD (oq (λi j=>decide (ns.getD i 0<ns.getD j 0)) k) 0
  ·rw[if_pos (decide_eq_true c)]
   by_cases e:j=k+1
   ·subst e;exact ij _
   ·have:=ih j (by lia);lia
  ·rw[if_neg (by simpa using c)]
   by_cases e:j=k+1
   ·subst e;lia
   ·exact ih j (by lia)
theorem aHf (hc:X.calm=true):CallR X (.builtin "min") (λvs H Q=>∃(a:Addr) (ns:List Int),vs=[.ref a]/\Sq X.K H a (ns.map V.int)/\ns≠[]/\∀m:Int,m∈ns->(∀k∈ns,m<=k)->Q (.int m) H):=by
 intro pins s σ H xs us Q I r ⟨a,ns,e,hq,hne,q⟩
 subst e
 obtain⟨u,rfl,ru⟩:=r.one
 obtain rfl:u=Value.ref a:=ru
 refine call_min_walk (nY (I.ok.hd hc) I hq λits It fp wr S s2 rv hz W st hf hI=>?_)
 have hl:its.length=ns.length:=by rw[<- rv.length,ae]
 have hpos:0<ns.length:=vg.mpr hne
 have item:∀(i:Nat) (v:Value),its[i]?=some v->∃t,v = .int (ns.getD i 0) t:=λi v hv=>by
  obtain⟨x,hx,rx⟩:=rv.getR hv
  rw[aw] at hx
  cases hb:ns[i]? with
  |none=>rw[hb] at hx;cases hx
  |some b=>
   rw[hb] at hx
   obtain rfl:V.int b=x:=by simpa using hx
   obtain⟨t,rfl⟩:=rx
   exact⟨t,by rw[aj,hb];rfl⟩
 refine⟨It,fp,wr,its.length,_,S,λi j=>decide (ns.getD i 0<ns.getD j 0),rfl,W,st,hf,by lia,λi j vi vj s' Q' E' hi hj hQ'=>?_,λv h' tk hv hk=>?_⟩
 ·obtain⟨t,rfl⟩:=item i vi hi
  obtain⟨t',rfl⟩:=item j vj hj
  exact(lt_int hQ':wpAny (model X.prog X.w) X.A.in1 (jd .Lt _ _) Q' E' s')
 ·obtain⟨t,rfl⟩:=item _ v hv
  have hb:=sS (bt:=λi j=>decide (ns.getD i 0<ns.getD j 0)) (its.length - 1)
  refine⟨.int _,H,hI h' tk hk,⟨t,rfl⟩,q _ ?_ λk hk=>?_⟩
  ·rw[aj,ah (by lia)]
   exact fv _
  ·obtain⟨j,hj,rfl⟩:=List.mem_iff_getElem.mp hk
   have:=jJ (ns:=ns) (its.length - 1) j (by lia)
   rw[aj (l:=ns) (i:=j),ah hj] at this
   exact this
end
def aLD (K:aa):R2:=λx y H Q=>∃a b xs ys,x = .ref a/\y = .ref b/\SqT K H a xs/\SqT K H b ys/\xs.length+ys.length<=bx /\
 ∀p H',((p=a/\H'=H/\ys=[])\/(p=b/\H'=H/\xs=[])\/(H p=none/\H'=upd H p (.tup (xs++ys))))->SqT K H' p (xs++ys)->Same H H'->Q (.ref p) H'
theorem aD (h:H p=none)(o:HO):Same H (upd H p o):=λb u q=>by rw[aK (aJ q h)];exact q
theorem aIH:OpR X (mf .Add) (aLD X.K):=by
 intro pins s σ H x y v u Q I rx ry ⟨a,b,xs,ys,ex,ey,ha,hb,hz,q⟩
 subst ex ey
 obtain rfl:v=Value.ref a:=rx
 obtain rfl:u=Value.ref b:=ry
 by_cases hx:xs=[]
 ·obtain⟨its,r1,p1,_⟩:=I.tuple ha
  obtain⟨its2,r2,p2,_⟩:=I.tuple hb
  have he:its=[]:=r1.nil_iff.mpr hx
  obtain⟨⟨cls,dd,data,sl⟩,ho,hc,n,hd⟩:=id p1
  obtain⟨⟨cls2,dd2,data2,sl2⟩,ho2,hc2,n2,hd2⟩:=id p2
  simp only at hc hd hc2 hd2
  subst hc hd hc2 hd2
  refine Bk ⟨_,ho,rfl⟩ ⟨_,ho2,rfl⟩ yn AQ sk rk (qy _ _)
   (tuple_addW0 a b its.toArray its2.toArray n n2 dd dd2 sl sl2 (by simp[he])) ⟨ho,ho2,?_⟩
  exact⟨.ref b,H,I,rfl,q b H (.inr (.inl ⟨rfl,rfl,hx⟩)) (by rw[hx];exact hb) (Same.refl H)⟩
 ·refine aJu (X:=X) pins s σ H (.ref a) (.ref b) (.ref a) (.ref b) Q I rfl rfl ⟨a,b,xs,ys,rfl,rfl,ha,hb,hx,hz,λhy=>?_,λhy p hp=>?_⟩
  ·exact q a H (.inl ⟨rfl,rfl,hy⟩) (by rw[hy,iq];exact ha) (Same.refl H)
  ·exact q p _ (.inr (.inr ⟨hp,rfl⟩)) (.of aA) (aD hp _)
def bC (K:aa):R2:=λx y H Q=>match x,y with
 | .int i, .int j=>Q (.int (i+j)) H
 | .str i, .str j=>i.length+j.length<=bx/\Q (.str (i++j)) H
 | .ref a, .ref b=>aOG (.ref a) (.ref b) H Q\/aLD K (.ref a) (.ref b) H Q
 |_,_=>False
theorem aIX:OpR X (mf .Add) (bC X.K):=by
 intro pins s σ H x y v u Q I rx ry h
 unfold bC at h
 split at h
 ·exact aLc (X:=X) pins s σ H _ _ v u Q I rx ry ⟨_,_,rfl,rfl,h⟩
 ·exact aCm (X:=X) pins s σ H _ _ v u Q I rx ry ⟨_,_,rfl,rfl,h.1,h.2⟩
 ·rcases h with h | h
  ·exact aLu (X:=X) pins s σ H _ _ v u Q I rx ry h
  ·exact aIH (X:=X) pins s σ H _ _ v u Q I rx ry h
 ·exact h.elim
theorem aNw:IxR X (λx y H Q=>aMY X.K x y H Q\/aMU X.K x y H Q):=aIG.or aMc
theorem Vals.of_get:∀{xs:List V}{us:List Value},xs.length=us.length->(∀(i:Nat) x u,xs[i]?=some x->us[i]?=some u->RelV x u)->Vals xs us
 |[],[],_,_ => .nil
 |[],_ :: _,h,_=>by simp at h
 |_ :: _,[],h,_=>by simp at h
 |x :: xs,u :: us,h,hr => .cons (hr 0 x u rfl rfl) (Vals.of_get (by simpa using h) λi y w h1 h2=>hr (i+1) y w (by simpa using h1) (by simpa using h2))
theorem aDo:CallR X (.type "range") (λvs H Q=>∃n:Int,vs=[.int n]/\∀p,H p=none->Q (.ref p) (upd H p (.rng 0 n))):=by
 intro pins s σ H xs us Q I r ⟨n,e,q⟩
 subst e
 obtain⟨u,rfl,ru⟩:=r.one
 obtain⟨t,rfl⟩:=ru
 refine call_range_1 ⟨.ref s.heap.objs.size,_,I.laid (a:=s.heap.objs.size) (o := .rng 0 n) (λb o e=>ak _ e) (bc _) ⟨_,_,_,bp _ rfl⟩,rfl,q _ (I.hok.fresh (bc _))⟩
theorem aFa:CallR X (.type "range") (λvs H Q=>∃m n:Int,vs=[.int m, .int n]/\∀p,H p=none->Q (.ref p) (upd H p (.rng m n))):=by
 intro pins s σ H xs us Q I r ⟨m,n,e,q⟩
 subst e
 obtain⟨u,u',rfl,ru,ru'⟩:=r.two
 obtain⟨t,rfl⟩:=ru
 obtain⟨t',rfl⟩:=ru'
 refine call_range_2 ⟨.ref s.heap.objs.size,_,I.laid (a:=s.heap.objs.size) (o := .rng m n) (λb o e=>ak _ e) (bc _) ⟨_,_,_,bp _ rfl⟩,rfl,q _ (I.hok.fresh (bc _))⟩
theorem aGU:CallR X (.type "range") (λvs H Q=>(∃n:Int,vs=[.int n]/\∀p,H p=none->Q (.ref p) (upd H p (.rng 0 n)))\/∃m n:Int,vs=[.int m, .int n]/\∀p,H p=none->Q (.ref p) (upd H p (.rng m n))):=aDo.or aFa
def aFg (lo hi:Int):List Int:=(ao (hi - lo).toNat).map λi:Nat=>lo+(i:Int)
theorem vF (hc:X.calm=true):CallR X (.type "list") (λvs H Q=>∃(a:Addr) (lo hi:Int),vs=[.ref a]/\H a=some (.rng lo hi)/\(-(2 ^ 62)<=lo/\lo<2 ^ 62/\-(2 ^ 62)<=hi/\hi<2 ^ 62/\hi - lo<=1000000) /\
  ∀p,H p=none->Q (.ref p) (upd H p (.lst ((aFg lo hi).map V.int)))):=by
 intro pins s σ H xs us Q I r ⟨a,lo,hi,e,ha,⟨b1,b2,b3,b4,b5⟩,q⟩
 subst e
 obtain⟨u,rfl,ru⟩:=r.one
 obtain rfl:u=Value.ref a:=ru
 obtain⟨t,u,v,hr⟩:=I.hok a _ ha
 refine call_list_range (a:=lo) (b:=hi) (c:=1) (n:=(hi - lo).toNat) (I.ok.hd hc) hr (small_one b1 b2 b3 b4) (by rw[rangeSize_one];split <;> lia) (by lia) λh' tk acc' c' hk hS hI=>?_
 refine⟨.ref s.heap.objs.size,_,I.laid (a:=s.heap.objs.size) (o := .lst ((aFg lo hi).map V.int)) hk (bc _) ⟨?_,acc'.toList,c',?_,by simpa using hS⟩,rfl,q _ (I.hok.fresh (bc _))⟩
 ·rw[ae];unfold aFg;rw[ae,br]
  exact de (show(hi - lo).toNat<=1000000 by lia) (by decide)
 ·refine Vals.of_get ?_ λi x u hx hu=>?_
  ·have el:acc'.toList.length=(hi - lo).toNat:=by rw[<- hI.1];simp
   rw[ae,el];unfold aFg;rw[ae,br]
  ·obtain⟨t,rfl⟩:=hI.2 i u (by simpa using hu)
   rw[aw] at hx
   unfold aFg at hx
   rw[aw] at hx
   cases hi':(ao (hi - lo).toNat)[i]? with
   |none=>rw[hi'] at hx;cases hx
   |some j=>
    rw[hi'] at hx
    have:j=i:=by
     obtain⟨h1,h2⟩:=ai.mp hi'
     simpa using h2.symm
    subst this
    obtain rfl:V.int (lo+(j:Int))=x:=by simpa using hx
    exact⟨t,by rw[jc]⟩
theorem uL (hc:X.calm=true):CallR X (.type "list") (λvs H Q=>(∃p ys,vs=[.ref p]/\(SqL X.K H p ys\/SqT X.K H p ys)/\∀l,H l=none->Q (.ref l) (upd H l (.lst ys))) \/
  ∃(a:Addr) (lo hi:Int),vs=[.ref a]/\H a=some (.rng lo hi)/\(-(2 ^ 62)<=lo/\lo<2 ^ 62/\-(2 ^ 62)<=hi/\hi<2 ^ 62/\hi - lo<=1000000)/\∀p,H p=none->Q (.ref p) (upd H p (.lst ((aFg lo hi).map V.int)))):=wV.or (vF hc)
def eD (K:aa)(tl:TE):TI:=λσ H R=>tl σ H λx H1=>∃a,x = .ref a/\(((∃xs,SqL K H1 a xs)/\R (Itl K a) H1)\/((∃xs,SqT K H1 a xs)/\R (Itt K a) H1))
theorem aKR (hl:PE X l tl):PI X tg l (eD X.K tl):=by
 intro pins s σ H R I h
 refine thn (hl pins s σ H _ I h) λv s1 ⟨x,H1,I1,r1,q1⟩=>?_
 obtain⟨a,e,q⟩:=q1
 subst e
 cases r1
 rcases q with⟨⟨xs,hq⟩,q⟩ | ⟨⟨xs,hq⟩,q⟩
 ·obtain⟨its,rv,p,hz⟩:=I1.list hq
  refine tm p.isList ?_
  refine⟨s1.heap.objs.size,[s1.heap.objs.size],_,_,H1,rfl,I1.kept (t':=s1.toks) λb o e=>ak _ e,aEe a _,⟨_,bp _ rfl,rfl,rfl⟩,λb hb=>?_,q⟩
  have e:b=s1.heap.objs.size:=by simpa using hb
  subst e
  exact I1.fpOk (bc _) (I1.hok.fresh (bc _))
 ·obtain⟨its,rv,p,hz⟩:=I1.tuple hq
  refine wk (show s1.heap.IsTuple a its.toArray from p) ?_
  refine⟨s1.heap.objs.size,[s1.heap.objs.size],_,_,H1,rfl,I1.kept (t':=s1.toks) λb o e=>ak _ e,aCr a _,⟨_,bp _ rfl,rfl,rfl⟩,λb hb=>?_,q⟩
  have e:b=s1.heap.objs.size:=by simpa using hb
  subst e
  exact I1.fpOk (bc _) (I1.hok.fresh (bc _))
structure Def (P:Program)(w:World)(K:aa)(mg:Str->Option Value)(base:Heap)(x:Str)(k:Nat)(ps:List Str)(sp:Sp):Prop where
 ex:∃(f:Addr) (fd:FuncData),FnOk P w K mg base CX0 k f fd ps sp/\mg x=some (.ref f)/\qi K (.ref f)=true/\Binds K fd ps []
theorem Def.mono {K: aa}{x: Str}{j k: Nat}{ps: List Str}{sp: Sp}(D:Def P w K mg base x j ps sp)(h:j<=k):Def P w K mg base x k ps sp:=by
 obtain⟨f,fd,F,r⟩:=D.ex
 exact⟨f,fd,F.mono h,r⟩
theorem aHT {x: Str}{k: Nat}{ps: List Str}{sp: Sp}{p pos: Pos}{e: Expr}{es: List Expr}{t: TA}(D:Def X.prog X.w X.K X.mg X.base x k ps sp)(hr:Room k X.A)(hg:Gl X x)(ha:PA X (e :: es) t)(hdb:(x == ("__debug__" : Str))=false:=by decide)(he:ft (e :: es) X.env=(false,eval e X.env) :: ft es X.env:=by rfl)(hpl:(wc pos (ft es X.env)).any (·.1)=false:=by rfl):
  PE X (.Call (.Name x p) (e :: es) [] pos) (aO sp [] E0 t):=by
 obtain⟨f,fd,F,hm,hk,hb⟩:=D.ex
 exact aCY F hr hg hm hk hb .nil aNh ha hdb he hpl
def SameX (acc:Addr)(H H':Hp):Prop:=∀b o,b≠acc->H b=some o->H' b=some o
theorem SameX.refl (acc:Addr)(H:Hp):SameX acc H H:=λ_ _ _ h=>h
theorem SameX.trans (a:SameX acc H H1)(b:SameX acc H1 H2):SameX acc H H2:=λc o n h=>b c o n (a c o n h)
theorem Same.x (e:Same H H'):SameX acc H H':=λb o _ h=>e b o h
theorem SameX.put (o:HO):SameX acc H (upd H acc o):=λb u n h=>by rw[aK n];exact h
def Agree (vars:List Nat)(σ σ':St):Prop:=∀k,k∉vars->σ'[k]?=σ[k]?
theorem Agree.refl (vars:List Nat)(σ:St):Agree vars σ σ:=λ_ _=>rfl
theorem Agree.trans (a:Agree vars σ σ1)(b:Agree vars σ1 σ2):Agree vars σ σ2:=λk h=>(b k h).trans (a k h)
theorem Agree.set (h:j∈vars)(v:Option V):Agree vars σ (σ.set j v):=λk hk=>fk (λe:j=k=>hk (by rw[<- e];exact h))
theorem cS {σ: St}{j: Nat}{v: Option V}(h:j<σ.length): (σ.set j v)[j]?=some v:=j9 h
def Emits (vars:List Nat)(tb:TS)(acc:Addr)(σ:St)(H:Hp)(L:List V):Prop:=
 ∀(D:vS) (pre:List V),H acc=some (.lst pre)->pre.length+L.length<=1000000->(∀σ' H',σ'.length=σ.length->Agree vars σ σ'->SameX acc H H'->H' acc=some (.lst (pre++L))->D.nx σ' H')->tb D σ H
theorem cH (h:∀Q:VK,(∀H',Same H H'->Q x H')->te σ H Q):Emits vars (bF te acc) acc σ H [x]:=by
 intro D pre ha hz hd
 refine h _ λH' e=>⟨pre,e _ _ ha,?_,hd σ _ rfl (Agree.refl _ _) (e.x.trans (SameX.put _)) aA⟩
 exact bh (show pre.length<=1000000 by simp at hz;lia) (by decide)
theorem aI {α: Type}(f:Nat->List α)(i:Nat): (ao (i+1)).flatMap f=(ao i).flatMap f++f i:=by
 rw[ot,List.flatMap_append]
 simp
theorem bD {α: Type}(f:Nat->List α){i n: Nat}(h:i<=n): ((ao i).flatMap f).length<=((ao n).flatMap f).length:=by
 induction h with
 |refl=>exact bc _
 |step _ ih=>rw[aI,au];lia
theorem gS {vars: List Nat}{tb: TS}{acc: Addr}{σ: St}{H: Hp}{lo: Int}{n j: Nat}{L: Nat->List V}(hj:j∈vars)(hjl:j<σ.length)(h:∀i σ' H',i<n->σ'.length=σ.length->Agree vars σ σ'->σ'[j]?=some (some (.int (lo+(i:Int))))->SameX acc H H'->(∃pre,H' acc=some (.lst pre))->Emits vars tb acc σ' H' (L i)):
  Emits vars (cX (Itr lo n) (aE j) tb) acc σ H ((ao n).flatMap L):=by
 intro D pre ha hz hd
 refine bH (lo:=lo) (n:=n) (g:=aE j) (D:=D) (λi σ' H'=>i<=n/\σ'.length=σ.length/\Agree vars σ σ'/\SameX acc H H'/\H' acc=some (.lst (pre++(ao i).flatMap L))) ⟨bg _,rfl,Agree.refl _ _,SameX.refl _ _,by simpa using ha⟩ (λi σ1 H1 hi ⟨_,hl1,ag1,sx1,h1⟩=>?_) λσ1 H1 ⟨_,hl1,ag1,sx1,h1⟩=>hd σ1 H1 hl1 ag1 sx1 h1
 have hle:=bD L (show i+1<=n from hi)
 rw[aI,au] at hle
 have fin:∀σ' H',σ'.length=σ1.length->Agree vars (σ1.set j (some (.int (lo+(i:Int))))) σ'->SameX acc H1 H'->H' acc=some (.lst ((pre++(ao i).flatMap L)++L i)) ->
   (i+1<=n/\σ'.length=σ.length/\Agree vars σ σ'/\SameX acc H H'/\H' acc=some (.lst (pre++(ao (i+1)).flatMap L))):=λσ' H' hl ag sx h2=>
  ⟨hi,hl.trans hl1,(ag1.trans (Agree.set hj _)).trans ag,sx1.trans sx,by rw[h2,aI,gq]⟩
 refine h i (σ1.set j (some (.int (lo+(i:Int))))) H1 hi (by rw[c8];exact hl1) (ag1.trans (Agree.set hj _)) (cS (by lia)) sx1 ⟨_,h1⟩ _ _ h1 (by rw[au];lia) λσ' H' hl ag sx h2=>fin σ' H' (hl.trans (c8 ..)) ag sx h2
theorem yO {vars: List Nat}{ta: TA}{tb: TS}{acc: Addr}{σ: St}{H: Hp}{n j: Nat}{L: Nat->List V}(hj:j∈vars)(hjl:j<σ.length)(hn:n<=1000000)(hta:∀Q:List V->Hp->Prop,(∀H',Same H H'->Q [.int (n:Int)] H')->ta σ H Q)(h:∀i σ' H',i<n->σ'.length=σ.length->Agree vars σ σ'->σ'[j]?=some (some (.int (i:Int)))->SameX acc H H'->(∃pre,H' acc=some (.lst pre))->Emits vars tb acc σ' H' (L i)):
  Emits vars (gQ (eZ ta) (aE j) tb) acc σ H ((ao n).flatMap L):=by
 intro D pre ha hz hd
 refine hta _ λH' e=>⟨(n:Int),rfl,by lia,by lia,?_⟩
 rw[dh]
 refine gS (L:=L) hj hjl (λi σ' H2 hi hl ag hs sx hp=>h i σ' H2 hi hl ag (by rw[hs];simp) (e.x.trans sx) hp) D pre (e _ _ ha) hz λσ' H2 hl ag sx h2=>hd σ' H2 hl ag (e.x.trans sx) h2
theorem xH {K: aa}{vars: List Nat}{tb: TS}{acc a: Addr}{σ: St}{H: Hp}{xs: List V}{j: Nat}{L: Nat->List V}(hj:j∈vars)(hjl:j<σ.length)(hs:∀H',SameX acc H H'->SqL K H' a xs)(h:∀i x σ' H',xs[i]?=some x->σ'.length=σ.length->Agree vars σ σ'->σ'[j]?=some (some x)->SameX acc H H'->(∃pre,H' acc=some (.lst pre))->Emits vars tb acc σ' H' (L i)):
  Emits vars (cX (Itl K a) (aE j) tb) acc σ H ((ao xs.length).flatMap L):=by
 intro D pre ha hz hd
 refine aS (K:=K) (a:=a) (xs:=xs) (g:=aE j) (D:=D) (λi σ' H'=>i<=xs.length/\σ'.length=σ.length/\Agree vars σ σ'/\SameX acc H H'/\H' acc=some (.lst (pre++(ao i).flatMap L))) ⟨bg _,rfl,Agree.refl _ _,SameX.refl _ _,by simpa using ha⟩ (λi σ1 H1 _ ⟨_,_,_,sx1,_⟩=>hs H1 sx1) (λi x σ1 H1 hx ⟨_,hl1,ag1,sx1,h1⟩=>?_) λσ1 H1 ⟨_,hl1,ag1,sx1,h1⟩=>hd σ1 H1 hl1 ag1 sx1 h1
 have hi:i<xs.length:=(ai.mp hx).1
 have hle:=bD L (show i+1<=xs.length from hi)
 rw[aI,au] at hle
 have fin:∀σ' H',σ'.length=σ1.length->Agree vars (σ1.set j (some x)) σ'->SameX acc H1 H'->H' acc=some (.lst ((pre++(ao i).flatMap L)++L i)) ->
   (i+1<=xs.length/\σ'.length=σ.length/\Agree vars σ σ'/\SameX acc H H'/\H' acc=some (.lst (pre++(ao (i+1)).flatMap L))):=λσ' H' hl ag sx h2=>
  ⟨hi,hl.trans hl1,(ag1.trans (Agree.set hj _)).trans ag,sx1.trans sx,by rw[h2,aI,gq]⟩
 refine h i x (σ1.set j (some x)) H1 hx (by rw[c8];exact hl1) (ag1.trans (Agree.set hj _)) (cS (by lia)) sx1 ⟨_,h1⟩ _ _ h1 (by rw[au];lia) λσ' H' hl ag sx h2=>fin σ' H' (hl.trans (c8 ..)) ag sx h2
theorem wJ:fz "len" = some (.builtin "len"):=by decide+kernel
theorem aMk:fz "all" = some (.builtin "all"):=by decide+kernel
theorem xV:fz "min" = some (.builtin "min"):=by decide+kernel
theorem aHV:fz "max" = some (.builtin "max"):=by decide+kernel
theorem aLU:fz "sum" = some (.builtin "sum"):=by decide+kernel
theorem aLm:fz "isinstance" = some (.builtin "isinstance"):=by decide+kernel
theorem pY:fz "sorted" = some (.builtin "sorted"):=by decide+kernel
theorem nX:fz "tuple" = some (.type "tuple"):=by decide+kernel
theorem aEL:fz "list" = some (.type "list"):=by decide+kernel
theorem aGK:fz "range" = some (.type "range"):=by decide+kernel
theorem aKK:fz "int" = some (.type "int"):=by decide+kernel
theorem aKb:fz "bool" = some (.type "bool"):=by decide+kernel
structure Blt (mg:Str->Option Value):Prop where
 len:mg "len" = none
 all:mg "all" = none
 min:mg "min" = none
 max:mg "max" = none
 sum:mg "sum" = none
 isi:mg "isinstance" = none
 sorted:mg "sorted" = none
 tuple:mg "tuple" = none
 list:mg "list" = none
 range:mg "range" = none
 int:mg "int" = none
 bool:mg "bool" = none
end L2
namespace L2
open PySem
theorem aNV (hr:Room k A):A.units+100<cLine:=by have:=hr.un;lia
theorem aKz (hr:Room k A):A.units+101<cLine:=by have:=hr.un;lia
end L2
namespace L2
open PySem PySem.Spec PyProof.Rows
theorem fW {K: aa}(hK:X.K=K):IxR X (λx y H Q=>aMY K x y H Q\/aMU K x y H Q):=by subst hK;exact aNw
theorem aEf {K: aa}(hK:X.K=K):OpR X (mf .Add) (bC K):=by subst hK;exact aIX
theorem aMC {K: aa}{k: Nat}(hK:X.K=K)(hr:Room k X.A):OpR X (jd .Eq) (gB K):=by subst hK;exact aLi (aNV hr)
theorem aFn {K: aa}{k: Nat}(hK:X.K=K)(hr:Room k X.A):OpR X (jd .NotEq) (zH K):=by subst hK;exact aKT (aKz hr)
theorem aIq {K: aa}(hK:X.K=K):OpR X (jd .In) (rIn K false):=by subst hK;exact aEA
theorem xZ {K: aa}(hK:X.K=K):OpR X (jd .NotIn) (rIn K true):=by subst hK;exact xP
theorem aFu {K: aa}(hK:X.K=K):CallR X (.builtin "isinstance") (aFD K):=by subst hK;exact aGW
def eP (K:aa):List V->Hp->VK->Prop:=λxs H Q=>∃p ys,xs=[.ref p]/\(SqL K H p ys\/SqT K H p ys)/\Q (.int ys.length) H
theorem fV {K: aa}(hK:X.K=K):CallR X (.builtin "len") (eP K):=by subst hK;exact xL
def aNg (K:aa):List V->Hp->VK->Prop:=λvs H Q=>∃(a:Addr) (bs:List Bool),vs=[.ref a]/\Sq K H a (bs.map V.bl)/\Q (.bl (bs.all id)) H
theorem aEr {K: aa}(hK:X.K=K)(hc:X.calm=true):CallR X (.builtin "all") (aNg K):=by subst hK;exact aGB hc
def aJg (K:aa):List V->Hp->VK->Prop:=λvs H Q=>∃(a:Addr) (ns:List Int),vs=[.ref a]/\Sq K H a (ns.map V.int)/\Q (.int ns.sum) H
theorem aEX {K: aa}(hK:X.K=K)(hc:X.calm=true):CallR X (.builtin "sum") (aJg K):=by subst hK;exact aFT hc
def aOO (K:aa):List V->Hp->VK->Prop:=λvs H Q=>∃(a:Addr) (ns:List Int),vs=[.ref a]/\Sq K H a (ns.map V.int)/\ns≠[]/\∀m:Int,m∈ns->(∀k∈ns,m<=k)->Q (.int m) H
theorem aCQ {K: aa}(hK:X.K=K)(hc:X.calm=true):CallR X (.builtin "min") (aOO K):=by subst hK;exact aHf hc
def lT:List V->Hp->VK->Prop:=λxs H Q=>∃i j:Int,xs=[.int i, .int j]/\Q (.int (if j<i then j else i)) H
theorem sZ (hc:X.calm=true):CallR X (.builtin "min") lT:=aDP hc
def aGY:List V->Hp->VK->Prop:=λxs H Q=>∃i j:Int,xs=[.int i, .int j]/\Q (.int (if j > i then j else i)) H
theorem tO (hc:X.calm=true):CallR X (.builtin "max") aGY:=aFd hc
def gH (K:aa):List V->Hp->VK->Prop:=λxs H Q=>∃p ys,xs=[.ref p]/\((SqL K H p ys/\∀l,H l=none->Q (.ref l) (upd H l (.tup ys)))\/(SqT K H p ys/\Q (.ref p) H))
theorem iC {K: aa}(hK:X.K=K):CallR X (.type "tuple") (gH K):=by subst hK;exact vK
def aCj (K:aa):List V->Hp->VK->Prop:=λvs H Q=>(∃p ys,vs=[.ref p]/\(SqL K H p ys\/SqT K H p ys)/\∀l,H l=none->Q (.ref l) (upd H l (.lst ys))) \/
  ∃(a:Addr) (lo hi:Int),vs=[.ref a]/\H a=some (.rng lo hi)/\(-(2 ^ 62)<=lo/\lo<2 ^ 62/\-(2 ^ 62)<=hi/\hi<2 ^ 62/\hi - lo<=1000000)/\∀p,H p=none->Q (.ref p) (upd H p (.lst ((aFg lo hi).map V.int)))
theorem aCy {K: aa}(hK:X.K=K)(hc:X.calm=true):CallR X (.type "list") (aCj K):=by subst hK;exact uL hc
theorem uI {K: aa}{tg l: Expr}{tl: TE}(hK:X.K=K)(hl:PE X l tl):PI X tg l (eD K tl):=by subst hK;exact aKR hl
theorem kT {K: aa}{es: List Expr}{k: Nat}{t: TGs}{n: Nat}{pos: Pos}(hK:X.K=K)(hc:X.calm=true)(h:PGs X es t)(hn:(su es X.env).length=n:=by rfl)(hst:(su es X.env).findIdx? (·.1)=none:=by rfl):PG X (.Tuple es k pos) (gE K n t):=by
 subst hK;exact aKC hc h hn hst
abbrev yLt:R2:=rI0 λi j => .bl (decide (i<j))
abbrev yLe:R2:=rI0 λi j => .bl (decide (i<=j))
abbrev yGt:R2:=rI0 λi j => .bl (decide (j<i))
abbrev yGe:R2:=rI0 λi j => .bl (decide (j<=i))
abbrev jY:R2:=rI0 λi j => .int (i - j)
abbrev zD:R2:=rI (λ_ j=>0<j) λi j => .int (i % j)
abbrev aFR:R2:=rI aOZ λi j => .int (i ^ j.toNat)
abbrev wZ:V->Hp->VK->Prop:=rU λi => .int (-i)
abbrev aL (K:aa):R2:=λx y H Q=>aMY K x y H Q\/aMU K x y H Q
def aMV:List V->Hp->VK->Prop:=λvs H Q=>(∃n:Int,vs=[.int n]/\∀p,H p=none->Q (.ref p) (upd H p (.rng 0 n)))\/∃m n:Int,vs=[.int m, .int n]/\∀p,H p=none->Q (.ref p) (upd H p (.rng m n))
theorem aEZ:CallR X (.type "range") aMV:=aGU
end L2
namespace L2
open PySem
def uF (T:List (List Int)):Dt := .tup (T.map λr => .tup (r.map .int))
structure Quad (T:List (List Int))(n:Nat):Prop where
 len:T.length=n
 row:∀r∈T,r.length=n
def at2 (T:List (List Int))(i j:Nat):Int:=(T.getD i []).getD j 0
theorem ShL.rows:∀{T:List (List Int)}{rs:List V},ShL K H (T.map λr=>Dt.tup (r.map Dt.int)) rs->rs.length=T.length/\∀(i:Nat) (row:List Int),T[i]?=some row->∃b,rs[i]?=some (.ref b)/\SqT K H b (row.map V.int)
 |[],rs,h=>by
  have h:rs=[]:=h
  subst h
  exact⟨rfl,λi row e=>by simp at e⟩
 |r :: T,rs,⟨x,rr,h1,⟨b,xs,h2,h3,h4⟩,h5⟩=>by
  obtain⟨e,g⟩:=ShL.rows h5
  subst h1
  refine⟨by rw[da,da,e],λi row er=>?_⟩
  cases i with
  |zero=>
   have:r=row:=by simpa using er
   subst this
   exact⟨b,by rw[h2];rfl,by rw[<- ShL.of_ints h4];exact h3⟩
  |succ i=>exact g i row (by simpa using er)
theorem Sh.tab (h:Sh K H (uF T) v):∃a rs,v = .ref a/\SqT K H a rs/\rs.length=T.length/\∀(i:Nat) (row:List Int),T[i]?=some row->∃b,rs[i]?=some (.ref b)/\SqT K H b (row.map V.int):=by
 obtain⟨a,rs,e,hq,hl⟩:=h
 obtain⟨e2,g⟩:=ShL.rows hl
 exact⟨a,rs,e,hq,e2,g⟩
theorem ShL.of_rows:∀{T:List (List Int)}{rs:List V},rs.length=T.length->(∀(i:Nat) (row:List Int),T[i]?=some row->∃b,rs[i]?=some (.ref b)/\SqT K H b (row.map V.int))->ShL K H (T.map λr=>Dt.tup (r.map Dt.int)) rs
 |[],rs,h,_=>mz.mp h
 |r :: T,[],h,_=>by simp at h
 |r :: T,x :: rs,h,g=>by
  obtain⟨b,e,hq⟩:=g 0 r rfl
  have e:x = .ref b:=by simpa using e
  exact⟨x,rs,rfl,⟨b,_,e,hq,ShL.ints r⟩,ShL.of_rows (by simpa using h) λi row er=>by
   obtain⟨c,e2,q2⟩:=g (i+1) row (by simpa using er)
   exact⟨c,by simpa using e2,q2⟩⟩
theorem Quad.get (q:Quad T n)(h:i<n):∃row,T[i]?=some row/\row.length=n/\T.getD i []=row:=by
 have hi:i<T.length:=by rw[q.len];exact h
 refine⟨T[i],ah hi,q.row _ (fv hi),?_⟩
 rw[aj,ah hi];rfl
theorem iF {xs: List Int}{j: Nat}(h:j<xs.length):xs[j]?=some (xs.getD j 0):=by
 rw[aj,ah h];rfl
theorem ixT {K: aa}{H: Hp}{p: Addr}{xs: List V}{j: Nat}{v: V}(h:SqT K H p xs)(hj:xs[j]?=some v)(q:Q v H):aL K (.ref p) (.int (j:Int)) H Q := .inr ⟨p,xs,j,v,rfl,rfl,h,aDC hj,q⟩
theorem ixL {K: aa}{H: Hp}{p: Addr}{xs: List V}{j: Nat}{v: V}(h:SqL K H p xs)(hj:xs[j]?=some v)(q:Q v H):aL K (.ref p) (.int (j:Int)) H Q := .inl ⟨p,xs,j,v,rfl,rfl,h,aDC hj,q⟩
theorem aIy (hS:Sh K H (uF T) v)(hq:Quad T n)(hi:i<n)(q:∀b,SqT K H b ((T.getD i []).map V.int)->Q (.ref b) H):aL K v (.int (i:Int)) H Q:=by
 obtain⟨a,rs,rfl,ha,hl,g⟩:=hS.tab
 obtain⟨row,e1,e2,e3⟩:=hq.get hi
 obtain⟨b,hb,hs⟩:=g i row e1
 exact ixT ha hb (q b (by rw[e3];exact hs))
theorem pE (ht:σ[t]?=some (some v))(hi:σ[si]?=some (some (.int (i:Int))))(hj:σ[sj]?=some (some (.int (j:Int))))(hS:Sh K H (uF T) v)(hq:Quad T n)(li:i<n)(lj:j<n)(q:Q (.int (at2 T i j)) H):tOp (aL K) (tOp (aL K) (aC t) (aC si)) (aC sj) σ H Q:=by
 refine⟨_,ht,_,hi,aIy hS hq li λb hb=>⟨_,hj,ixT hb ?_ q⟩⟩
 obtain⟨row,e1,e2,e3⟩:=hq.get li
 rw[aw,iF (by rw[e3];lia)]
 rfl
theorem bA (hacc:H acc=none)(sx:SameX acc (upd H acc o) H2):Same H H2:=λb u e=>sx b u (aJ e hacc) (by rw[aK (aJ e hacc)];exact e)
theorem Emits.mono (h:Emits vars tb acc σ H L)(hs:∀k∈vars,k∈vars'):Emits vars' tb acc σ H L:=
 λD pre ha hz hd=>h D pre ha hz λσ' H' hl ag sx h2=>hd σ' H' hl (λk hk=>ag k λz=>hk (hs k z)) sx h2
theorem Emits.cast (h:Emits vars tb acc σ H L)(e:L=L'):Emits vars tb acc σ H L':=e ▸ h
theorem bN (vars:List Nat)(L:List V)(ha:H acc=none)(hz:L.length<=1000000)(h:Emits vars (cX J g tb) acc σ (upd H acc (.lst [])) L)(q:∀σ' H',Same H H'->H' acc=some (.lst L)->D.nx σ' H'):cX J g tb D σ (upd H acc (.lst [])):=
 h _ [] aA (by simpa using hz) λσ' H' _ _ sx h2=>q σ' H' (bA ha sx) (by simpa using h2)
theorem bP {α: Type}(f:Nat->List α)(c:Nat):∀n,(∀i,i<n->(f i).length<=c)->((ao n).flatMap f).length<=n*c
 |0,_=>by simp
 |n+1,h=>by
  rw[aI,au,Az,Bz]
  have:=bP f c n λi hi=>h i (by lia)
  have:=h n (by lia)
  lia
theorem lC {α β: Type}(g:α->β)(f:Nat->List α)(l:List Nat): (l.flatMap f).map g=l.flatMap λi=>(f i).map g:=by
 induction l with
 |nil=>rfl
 |cons x r ih=>rw[ka,bj,ih,ka]
theorem qV {α: Type}(p:α->Bool)(f:Nat->List α)(l:List Nat): (l.flatMap f).all p=l.all λi=>(f i).all p:=by
 induction l with
 |nil=>rfl
 |cons x r ih=>rw[ka,List.all_append,ih,uv]
theorem aDI (R:Nat->List V->Hp->Prop)(hj:j∈vars)(hjl:j<σ.length)(h0:R 0 [] (upd H acc (.lst [])))(ha:H acc=none)(h:∀i σ' H' L (D:vS),i<n->σ'.length=σ.length->Agree vars σ σ'->σ'[j]?=some (some (.int (lo+(i:Int))))->Same H H'->H' acc=some (.lst L)->R i L H' ->
   (∀σ'' H'' L',σ''.length=σ.length->Agree vars σ σ''->Same H H''->H'' acc=some (.lst L')->R (i+1) L' H''->D.nx σ'' H'')->tb D σ' H')(q:∀σ' H' L,Same H H'->H' acc=some (.lst L)->R n L H'->D.nx σ' H'):cX (Itr lo n) (aE j) tb D σ (upd H acc (.lst [])):=by
 refine bH (lo:=lo) (n:=n) (g:=aE j) (D:=D) (λi σ' H'=>i<=n/\σ'.length=σ.length/\Agree vars σ σ'/\Same H H'/\∃L,H' acc=some (.lst L)/\R i L H') ⟨bg _,rfl,Agree.refl _ _,aD ha _,[],aA,h0⟩ (λi σ1 H1 hi ⟨_,hl1,ag1,sx1,L,h1,r1⟩=>?_) λσ1 H1 ⟨_,_,_,sm,L,h1,r1⟩=>q σ1 H1 L sm h1 r1
 exact h i (σ1.set j (some (.int (lo+(i:Int))))) H1 L _ hi (by rw[c8];exact hl1) (ag1.trans (Agree.set hj _)) (cS (by lia)) sx1 h1 r1 λσ2 H2 L' hl2 ag2 sm2 h2 r2=>⟨hi,hl2,ag2,sm2,L',h2,r2⟩
theorem vD (R:Nat->List V->Hp->Prop)(hj:j∈vars)(hjl:j<σ.length)(h0:R 0 [] (upd H acc (.lst [])))(ha:H acc=none)(hs:∀i L H',Same H H'->R i L H'->SqL K H' a xs)(h:∀i x σ' H' L (D:vS),xs[i]?=some x->σ'.length=σ.length->Agree vars σ σ'->σ'[j]?=some (some x)->Same H H'->H' acc=some (.lst L)->R i L H' ->
   (∀σ'' H'' L',σ''.length=σ.length->Agree vars σ σ''->Same H H''->H'' acc=some (.lst L')->R (i+1) L' H''->D.nx σ'' H'')->tb D σ' H')(q:∀σ' H' L,Same H H'->H' acc=some (.lst L)->R xs.length L H'->D.nx σ' H'):cX (Itl K a) (aE j) tb D σ (upd H acc (.lst [])):=by
 refine aS (K:=K) (a:=a) (xs:=xs) (g:=aE j) (D:=D) (λi σ' H'=>i<=xs.length/\σ'.length=σ.length/\Agree vars σ σ'/\Same H H'/\∃L,H' acc=some (.lst L)/\R i L H') ⟨bg _,rfl,Agree.refl _ _,aD ha _,[],aA,h0⟩ (λi σ1 H1 _ ⟨_,_,_,sm,L,_,r1⟩=>hs i L H1 sm r1) (λi x σ1 H1 hx ⟨_,hl1,ag1,sx1,L,h1,r1⟩=>?_) λσ1 H1 ⟨_,_,_,sm,L,h1,r1⟩=>q σ1 H1 L sm h1 r1
 have hi:i<xs.length:=(ai.mp hx).1
 exact h i x (σ1.set j (some x)) H1 L _ hx (by rw[c8];exact hl1) (ag1.trans (Agree.set hj _)) (cS (by lia)) sx1 h1 r1 λσ2 H2 L' hl2 ag2 sm2 h2 r2=>⟨hi,hl2,ag2,sm2,L',h2,r2⟩
theorem aJL (R:Nat->List V->Hp->Prop)(hj:j∈vars)(hjl:j<σ.length)(h0:R 0 [] (upd H acc (.lst [])))(ha:H acc=none)(hs:SqT K H a xs)(h:∀i x σ' H' L (D:vS),xs[i]?=some x->σ'.length=σ.length->Agree vars σ σ'->σ'[j]?=some (some x)->Same H H'->H' acc=some (.lst L)->R i L H' ->
   (∀σ'' H'' L',σ''.length=σ.length->Agree vars σ σ''->Same H H''->H'' acc=some (.lst L')->R (i+1) L' H''->D.nx σ'' H'')->tb D σ' H')(q:∀σ' H' L,Same H H'->H' acc=some (.lst L)->R xs.length L H'->D.nx σ' H'):cX (Itt K a) (aE j) tb D σ (upd H acc (.lst [])):=by
 refine qC (K:=K) (a:=a) (xs:=xs) (g:=aE j) (D:=D) (λi σ' H'=>i<=xs.length/\σ'.length=σ.length/\Agree vars σ σ'/\Same H H'/\∃L,H' acc=some (.lst L)/\R i L H') ⟨bg _,rfl,Agree.refl _ _,aD ha _,[],aA,h0⟩ (λi σ1 H1 _ ⟨_,_,_,sm,L,_,r1⟩=>sm.tup hs) (λi x σ1 H1 hx ⟨_,hl1,ag1,sx1,L,h1,r1⟩=>?_) λσ1 H1 ⟨_,_,_,sm,L,h1,r1⟩=>q σ1 H1 L sm h1 r1
 have hi:i<xs.length:=(ai.mp hx).1
 exact h i x (σ1.set j (some x)) H1 L _ hx (by rw[c8];exact hl1) (ag1.trans (Agree.set hj _)) (cS (by lia)) sx1 h1 r1 λσ2 H2 L' hl2 ag2 sm2 h2 r2=>⟨hi,hl2,ag2,sm2,L',h2,r2⟩
structure Mat (H:Hp)(F:Addr)(ls:List Addr)(M:List (List Int)):Prop where
 top:H F=some (.lst (ls.map V.ref))
 len:ls.length=M.length
 row:∀(i:Nat) (l:Addr) (r:List Int),ls[i]?=some l->M[i]?=some r->H l=some (.lst (r.map V.int))
 nd:ls.Nodup
 out:F∉ls
theorem Mat.same (m:Mat H F ls M)(e:Same H H'):Mat H' F ls M:=⟨e _ _ m.top,m.len,λi l r a b=>e _ _ (m.row i l r a b),m.nd,m.out⟩
theorem Mat.keep (m:Mat H F ls M)(e:∀b o,(b=F\/b∈ls)->H b=some o->H' b=some o):Mat H' F ls M:=
 ⟨e _ _ (.inl rfl) m.top,m.len,λi l r a b=>e _ _ (.inr (ar a)) (m.row i l r a b),m.nd,m.out⟩
def zE (M:List (List Int))(i j:Nat)(v:Int):List (List Int):=M.set i ((M.getD i []).set j v)
theorem jG (q:Quad M n)(hi:i<n):Quad (zE M i j v) n:=by
 refine⟨by unfold zE;rw[c8];exact q.len,λr hr=>?_⟩
 unfold zE at hr
 rcases List.mem_or_eq_of_mem_set hr with h | h
 ·exact q.row r h
 ·obtain⟨row,e1,e2,e3⟩:=q.get hi
  rw[h,c8,e3];exact e2
theorem tW (q:Quad M n)(hi:i<n)(hj:j<n)(a b:Nat):at2 (zE M i j v) a b=if a=i/\b=j then v else at2 M a b:=by
 obtain⟨row,e1,e2,e3⟩:=q.get hi
 unfold at2 zE
 by_cases ha:a=i
 ·subst ha
  have:(M.set a ((M.getD a []).set j v)).getD a []=(M.getD a []).set j v:=by
   rw[aj,j9 (by rw[q.len];exact hi)];rfl
  rw[this,e3]
  by_cases hb:b=j
  ·subst hb
   rw[if_pos ⟨rfl,rfl⟩,aj,j9 (by lia)];rfl
  ·rw[if_neg (λz=>hb z.2),aj,fk (gy hb),<- aj]
 ·have:(M.set i ((M.getD i []).set j v)).getD a []=M.getD a []:=by
   rw[aj,fk (gy ha),<- aj]
  rw[this,if_neg (λz=>ha z.1)]
theorem Mat.at {K: aa}{H: Hp}{F: Addr}{ls: List Addr}{M: List (List Int)}{n i: Nat}(m:Mat H F ls M)(q:Quad M n)(hi:i<n):∃l,ls[i]?=some l/\(ls.map V.ref)[i]?=some (.ref l)/\H l=some (.lst ((M.getD i []).map V.int)):=by
 obtain⟨row,e1,e2,e3⟩:=q.get hi
 have hl:i<ls.length:=by rw[m.len,q.len];exact hi
 refine⟨ls[i],ah hl,by rw[aw,ah hl];rfl,?_⟩
 rw[e3]
 exact m.row i _ row (ah hl) e1
theorem Mat.put (m:Mat H F ls M)(q:Quad M n)(hi:i<n)(hl:ls[i]?=some l):Mat (upd H l (.lst (((M.getD i []).set j v).map V.int))) F ls (zE M i j v):=by
 have hm:l∈ls:=ar hl
 have hF:F≠l:=λe=>m.out (e ▸ hm)
 refine⟨by rw[aK hF];exact m.top,by unfold zE;rw[c8];exact m.len,λa b r h1 h2=>?_,m.nd,m.out⟩
 by_cases ha:a=i
 ·subst ha
  rw[hl] at h1
  cases h1
  rw[aA]
  unfold zE at h2
  rw[j9 (by rw[q.len];exact hi)] at h2
  cases h2
  rfl
 ·have hne:b≠l:=by
   intro e
   subst e
   obtain⟨i1,z1⟩:=ai.mp h1
   obtain⟨i2,z2⟩:=ai.mp hl
   exact ha ((qq m.nd).mp (z1.trans z2.symm))
  rw[aK hne]
  unfold zE at h2
  rw[fk (gy ha)] at h2
  exact m.row a b r h1 h2
theorem aBi (m:Mat H F ls M)(q:Quad M n)(ht:σ[t]?=some (some (.ref F)))(hi:σ[si]?=some (some (.int (i:Int))))(hj:σ[sj]?=some (some (.int (j:Int))))(li:i<n)(lj:j<n)(h:Q (.int (at2 M i j)) H):tOp (aL K) (tOp (aL K) (aC t) (aC si)) (aC sj) σ H Q:=by
 obtain⟨l,h1,h2,h3⟩:=m.at (K:=K) q li
 refine⟨_,ht,_,hi,ixL (.of m.top) h2 ⟨_,hj,ixL (.of h3) ?_ h⟩⟩
 obtain⟨row,e1,e2,e3⟩:=q.get li
 rw[aw,iF (by rw[e3];lia)]
 rfl
theorem aAf (m:Mat H F ls M)(q:Quad M n)(ht:σ[t]?=some (some (.ref F)))(hi:σ[si]?=some (some (.int (i:Int))))(hj:σ[sj]?=some (some (.int (j:Int))))(li:i<n)(lj:j<n)(h:∀l H',l∈ls->H'=upd H l (.lst (((M.getD i []).set j v).map V.int))->Mat H' F ls (zE M i j v)->N σ H'):jZ (tOp (aL K) (aC t) (aC si)) (aC sj) cL (.int v) σ H N:=by
 obtain⟨l,h1,h2,h3⟩:=m.at (K:=K) q li
 obtain⟨row,e1,e2,e3⟩:=q.get li
 refine⟨_,ht,_,hi,ixL (.of m.top) h2 ⟨_,hj,l,_,(j:Int),j,rfl,rfl,h3,?_,?_⟩⟩
 rotate_left
 ·rw[<- List.map_set]
  exact h l _ (ar h1) rfl (m.put q li h1)
 rw[ae,e3,e2]
 unfold ixN
 rw[if_pos (by lia),if_pos (by lia),dh]
theorem xD (ht:σ[t]?=some (some (.ref F)))(m:Mat H F ls M)(q:Quad M n)(hn:n<=100)(h:∀p H',Same H H'->Sh K H' (uF M) (.ref p)->Q (.ref p) H'):
  tCB (gH K) (aB (bI [none] (eD K (aC t)) (aE 0) [] λacc=>bF (tCB (gH K) (aB (aC 0) aH)) acc) aH) σ H Q:=by
 refine⟨_,ht,F,rfl, .inl ⟨⟨_, .of m.top⟩,λacc hacc=>?_⟩⟩
 have hlen:(ls.map V.ref).length=n:=by rw[ae,m.len,q.len]
 refine vD (vars:=[0]) (K:=K) (a:=F) (xs:=ls.map V.ref) (λi L H'=>L.length=i/\∀(j:Nat) (row:List Int),j<i->M[j]?=some row->∃b,L[j]?=some (.ref b)/\H' b=some (.tup (row.map V.int))) (by decide) (by show 0<1;decide) ⟨rfl,λj row hj=>absurd hj (ou _)⟩ hacc (λi L H' sm _ => .of (sm _ _ m.top)) (λi x σ1 H1 L D hx l1 ag1 s1 sm1 ha1 ⟨r1,r2⟩ hD=>?_) λσ1 H1 L sm1 ha1 ⟨r1,r2⟩=>?_
 ·have hi:i<n:=by rw[<- hlen];exact(ai.mp hx).1
  have hil:i<ls.length:=by rw[m.len,q.len];exact hi
  obtain⟨row,e1,e2,e3⟩:=q.get hi
  have ex:x = .ref ls[i]:=by
   rw[aw,ah hil] at hx
   simpa using hx.symm
  subst ex
  have hrow:=m.row i _ row (ah hil) e1
  refine⟨_,s1,ls[i],row.map V.int,rfl, .inl ⟨.of (sm1 _ _ hrow),λp hp=>?_⟩⟩
  have hpa:p≠acc:=λe=>by rw[e,ha1] at hp;cases hp
  refine⟨L,by rw[aK (gy hpa)];exact ha1,bh (show L.length<=100 by lia) (by decide),?_⟩
  refine hD σ1 _ (L++[.ref p]) l1 ag1 (λb o e=>?_) aA ⟨by rw[au,r1];rfl,λj row' hj e=>?_⟩
  ·have hb:b≠acc:=aJ e hacc
   rw[aK hb,aK (aJ (sm1 _ _ e) hp)]
   exact sm1 _ _ e
  ·by_cases hji:j<i
   ·obtain⟨b,g1,g2⟩:=r2 j row' hji e
    refine⟨b,by rw[c6 (by lia)];exact g1,?_⟩
    have hb:b≠acc:=ne_of g2 ha1 (λz=>nomatch z)
    rw[aK hb,aK (aJ g2 hp)]
    exact g2
   ·have:j=i:=by lia
    subst this
    rw[e1] at e
    cases e
    refine⟨p,by rw[cw (by lia),r1];simp,?_⟩
    rw[aK hpa]
    exact aA
 ·refine⟨acc,L,rfl, .inl ⟨.of ha1,λp hp=>?_⟩⟩
  have sm2:Same H (upd H1 p (.tup L)):=sm1.trans (aD hp _)
  refine h p _ sm2 ⟨p,L,rfl, .of aA,ShL.of_rows (by rw[r1,hlen,q.len]) λi row e=>?_⟩
  have hi:i<n:=by rw[<- q.len];exact(ai.mp e).1
  obtain⟨b,g1,g2⟩:=r2 i row (by lia) e
  exact⟨b,g1, .of (by rw[aK (aJ g2 hp)];exact g2)⟩
theorem aHF (ns:List Int)(lo hi:Option Int):∃ms:List Int,rO (ns.map V.int) lo hi=ms.map V.int/\ms.length<=ns.length:=by
 refine⟨(ns.drop (HT.sIx ns.length 0 lo)).take (HT.sIx ns.length ns.length hi - HT.sIx ns.length 0 lo),?_,?_⟩
 ·unfold rO
  rw[ae,uz,yd]
 ·rw[c9,gp];lia
end L2
namespace L2
open PySem PySem.Spec PyProof.Rows
theorem kY {s: Shared}{t sl: Addr}{items: Array Value}{vl vu: Value}{lo hi: Option Int}(ht:IsTup s.heap t items)(hs:s.heap.IsSliceOf sl vl vu .none)(pl:IsPart vl lo)(pu:IsPart vu hi)(hw:HT.sIx items.size 0 lo=0/\HT.sIx items.size items.size hi=items.size)(h:Q (.ref t) s):wpAny (model prog w) A (yc (.ref t) (.ref sl)) Q E s:=by
 obtain⟨os,hos,hcs,hds⟩:=id hs
 have hTs:s.TypeIs (.ref sl) "slice":=⟨os,hos,hcs⟩
 unfold yc
 try with_reducible refine gj ?_
 first | refine af (aq ?_) | skip
 refine af (wpAny_sequenceKey ht.typeIs (by decide) ?_)
 refine af (gh (name:=lr "__getitem__") ht.typeIs ic
  (gf ic ht.typeIs Ax ?_ (args_tuple_getitem _ _)))
 show wpAny _ _ (v8 (.ref t) >>= _) _ _ s
 refine af (tupleItemsOf_ ht ?_)
 refine af (t8 hTs ?_)
 rw[if_pos (by decide)]
 refine af (HT.sliceApplied_gen hs pl pu ?_)
 rw[hw.1,hw.2]
 have hyes:((((0:Nat):Int) == 0 && (1:Int) == 1 && (items.size - 0) == items.size)=true):=by simp
 show wpAny _ _ (if(((0:Nat):Int) == 0 && (1:Int) == 1 && (items.size - 0) == items.size)=true then _ else _) _ _ s
 rw[if_pos hyes]
 unfold Builtin.Tuple.tupleIsExact
 refine af (af (t8 ht.typeIs (aq ?_)))
 rw[if_pos (show(Value.type "tuple" == Value.type "tuple")=true by rfl)]
 exact af (u5 (aq ⟨_,rfl,aq h⟩))
def aOw (K:aa):V->Option Int->Option Int->Hp->VK->Prop:=λx lo hi H Q=>∃a xs,x = .ref a/\SqT K H a xs/\∀p H',Same H H'->SqT K H' p (rO xs lo hi)->Q (.ref p) H'
theorem aJX:SlR X (aOw X.K):=by
 intro pins s σ H x v vl vu lo hi sl Q I rx hs pl pu h
 obtain⟨a,xs,rfl,hx,q⟩:=h
 by_cases hw:HT.sIx xs.length 0 lo=0/\HT.sIx xs.length xs.length hi=xs.length
 ·obtain rfl:v=Value.ref a:=rx
  obtain⟨its,rv,p,hz⟩:=I.tuple hx
  have hl:=rv.length
  have ec:rO xs lo hi=xs:=by unfold rO;rw[hw.1,hw.2,List.drop_zero,Nat.sub_zero,fc]
  refine⟨"tuple",_,ic.lookup,p.typeIs,?_⟩
  refine kY p hs pl pu (by simp only[av,<- hl];exact hw) ?_
  exact⟨.ref a,H,I,rfl,q a H (Same.refl H) (by rw[ec];exact hx)⟩
 ·exact aLh (X:=X) pins s σ H (.ref a) v vl vu lo hi sl Q I rx hs pl pu ⟨a,xs,rfl,hx,hw,λp hp=>q p _ (aD hp _) (.of aA)⟩
abbrev aCO (K:aa):V->Option Int->Option Int->Hp->VK->Prop:=λx lo hi H Q=>aOJ K x lo hi H Q\/aOw K x lo hi H Q
theorem aNa {K: aa}(hK:X.K=K):SlR X (aCO K):=by subst hK;exact aJJ.or aJX
theorem kS (e0:s.heap.get? l=some ob)(ec:ob.cls = .type T)(eT:T="list"\/T="tuple")(ed:ob.data = .seq us.toArray n)(q:Q us { s with heap:=(s.heap.push (jj "list" #[] 0)).update s.heap.objs.size (i4 (· ++ us.toArray)) })(z:us.length<=bx):wpAny (model prog w) A (collect (.ref l)) Q E s:=by
 unfold collect
 refine af (Ar (jq entry_proto_collect' ?g1))
 case g1=>
  show wpAny _ _ (do again (.builtin "list.__iadd__" ⟨[<- newList [],Value.ref l],[]⟩)) _ _ s
  refine af (qd (aq ⟨Code.quiet_builtin _ (by decide+kernel),jq entry_list_iadd' ?g2⟩))
  case g2=>
   have e1:(s.heap.push (jj "list" #[] 0)).get? l=some ob:=ak _ e0
   show wpAny _ _ (oz (Value.ref s.heap.objs.size) (Value.ref l) (Value.ref s.heap.objs.size)) _ _ { s with heap:=s.heap.push (jj "list" #[] 0) }
   unfold oz
   refine af (t8 (T:=T) ⟨ob,e1,ec⟩ ?g3)
   case g3=>
    have ht:((Value.type T == Value.type "list") || (Value.type T == Value.type "tuple"))=true:=by rcases eT with rfl | rfl <;> rfl
    rw[if_pos (by first | exact ht | (rcases eT with rfl | rfl <;> simp))]
    refine af (zj e1 ed (af (zj (xs:=#[]) (n:=0) (bp _ rfl) rfl ?g4)))
    case g4=>
     rw[if_neg (by simp)]
     refine af (u3 (xs:=#[]) (n:=0) (bp _ rfl) rfl ?g5 (bg _) (by show(#[]++us.toArray).size<=bx+1;simp only[Array.size_append,av,rn];lia))
     case g5=>
      refine aq ?g6
      case g6=>
       show wpAny (model prog w) A (load s.heap.objs.size >>= λo=>match o.data with | .seq xs _=>pure xs.toList | _=>unsupported "internal:collect") Q E { s with heap:=(s.heap.push (jj "list" #[] 0)).update s.heap.objs.size (i4 (· ++ us.toArray)) }
       refine af (wpAny_load (zk (bp _ rfl) _) ?g7)
       case g7=>
        show wpAny _ _ (pure ((#[]:Array Value)++us.toArray).toList) Q E _
        rw[show((#[]:Array Value)++us.toArray).toList=us by simp]
        exact aq q
theorem aDV (e0:s.heap.get? l=some ob)(ec:ob.cls = .type T)(eT:T="list"\/T="tuple")(ed:ob.data = .seq us.toArray n)(hI:IntsAre us ks)(h64:us.length<64)(q:∀(out:Array Value) (ns':List Int),IntsAre out.toList ns'->ns'.Perm ks->ns'.Pairwise (·<=·)->Q (.ref (s.heap.objs.size+1)) { s with heap:=AV s.heap us out }):wpAny (model prog w) A (call (.builtin "sorted") [.ref l]) Q E s:=by
 refine l8 AA zm zo (zp _) ?g1
 case g1=>
  unfold ud
  refine af (m:=Bg "sorted" 1 1 _) (aq (af (kS e0 ec eT ed ?g2 (de (i7 h64) (by decide)))))
  case g2=>
   refine af (qd ?g3)
   case g3=>
    have z1:((s.heap.push (jj "list" #[] 0)).update s.heap.objs.size (i4 (· ++ us.toArray))).objs.size=s.heap.objs.size+1:=by rw[yo,size_push']
    have e2:(((s.heap.push (jj "list" #[] 0)).update s.heap.objs.size (i4 (· ++ us.toArray))).push (jj "list" us.toArray 0)).get? (s.heap.objs.size+1)=some (jj "list" us.toArray 0):=by rw[<- z1];exact bp _ rfl
    show wpAny _ _ _ _ _ { s with heap:=((s.heap.push (jj "list" #[] 0)).update s.heap.objs.size (i4 (· ++ us.toArray))).push (jj "list" us.toArray 0) }
    rw[z1]
    refine af (gj (gf w5 ⟨_,e2,rfl⟩ vh (list_sort_tree e2 hI h64 λout ns' a1 a2 a3=>⟨_,rfl,aq ⟨_,rfl,q out ns' a1 a2 a3⟩⟩) (w6 _)))
theorem lO:∀{ns:List Int}{us:List Value},IntsAre us ns->Vals (ns.map V.int) us
 |[],_,h=>by cases h;exact .nil
 |n :: ns,_,h=>by
  cases h with
  |cons _ t h=>exact .cons ⟨t,rfl⟩ (lO h)
theorem IntsAre.len:∀{ns:List Int}{us:List Value},IntsAre us ns->us.length=ns.length
 |[],_,h=>by cases h;rfl
 |n :: ns,_,h=>by
  cases h with
  |cons _ t h=>rw[da,da,IntsAre.len h]
def aAE (K:aa):List V->Hp->VK->Prop:=λvs H Q=>∃(a:Addr) (ns:List Int),vs=[.ref a]/\Sq K H a (ns.map V.int)/\ns.length<64 /\
 ∀ms:List Int,ms.Perm ns->ms.Pairwise (·<=·)->∀l,H l=none->Q (.ref l) (upd H l (.lst (ms.map V.int)))
theorem aAx:CallR X (.builtin "sorted") (aAE X.K):=by
 intro pins s σ H xs us Q I r ⟨a,ns,e,hq,h64,q⟩
 subst e
 obtain⟨u,rfl,ru⟩:=yG r
 obtain rfl:u=Value.ref a:=ru
 have go:∀(its:List Value) (ob:Obj) (n:Nat) (T:String),Vals (ns.map V.int) its->s.heap.get? a=some ob->ob.cls = .type T->(T="list"\/T="tuple")->ob.data = .seq its.toArray n->wpAny (model X.prog X.w) X.A (call (.builtin "sorted") [.ref a]) (EP X pins σ Q) X.xe s:=by
  intro its ob n T rv e0 ec eT ed
  have hi:=cD rv
  refine aDV e0 ec eT ed hi (by rw[IntsAre.len hi];exact h64) λout ns' a1 a2 a3=>?_
  obtain⟨c,he⟩:=Bo s.heap its out
  refine⟨.ref (s.heap.objs.size+1),_,I.laid (t':=s.toks) (o := .lst (ns'.map V.int)) (λb ob q=>AW q) (tj _) ?_,rfl,q ns' a2 a3 _ (I.hok.fresh (tj _))⟩
  refine⟨?_,out.toList,c,lO a1,he⟩
  rw[ae,a2.length_eq]
  exact de (i7 h64) (by decide)
 rcases hq with hq | hq
 ·obtain⟨its,rv,pl,hz⟩:=I.list hq
  obtain⟨o,ho,hc,n,hd⟩:=pl.isList
  exact go its o n "list" rv ho hc (.inl rfl) hd
 ·obtain⟨its,rv,pl,hz⟩:=I.tuple hq
  obtain⟨o,ho,hc,n,hd⟩:=pl
  exact go its o n "tuple" rv ho hc (.inr rfl) hd
theorem xA {K: aa}(hK:X.K=K):CallR X (.builtin "sorted") (aAE K):=by subst hK;exact aAx
mutual
def toP:Dt->PyData
 | .non => .none
 | .bl b => .bool b
 | .int i => .int i
 | .str x => .str x
 | .tup ds => .tuple (aCP ds)
 | .lst ds => .list (aCP ds)
def aCP:List Dt->List PyData
 |[]=>[]
 |d :: ds=>toP d :: aCP ds
end
mutual
theorem aKg:∀d,(toP d).depth=dep d
 | .non=>rfl
 | .bl b=>rfl
 | .int i=>rfl
 | .str x=>rfl
 | .tup ds=>by show(PyData.tuple (aCP ds)).depth=_;unfold PyData.depth dep;rw[uW]
 | .lst ds=>by show(PyData.list (aCP ds)).depth=_;unfold PyData.depth dep;rw[uW]
theorem uW:∀ds,zq (aCP ds)=vJ ds
 |[]=>by unfold aCP vJ zq;rfl
 |d :: ds=>by unfold aCP vJ zq;rw[aKg,uW]
end
mutual
theorem aCL:∀d,(toP d).hasDict=false
 | .non=>by unfold toP ql;rfl
 | .bl b=>by unfold toP ql;rfl
 | .int i=>by unfold toP ql;rfl
 | .str x=>by unfold toP ql;rfl
 | .tup ds=>by unfold toP ql;exact iG ds
 | .lst ds=>by unfold toP ql;exact iG ds
theorem iG:∀ds,xk (aCP ds)=false
 |[]=>by unfold aCP xk;rfl
 |d :: ds=>by unfold aCP xk;rw[aCL,iG];rfl
end
section
variable {X:Cx}{pins:List (Addr×Obj)}{σ:St}{H:Hp}{s:Shared}
mutual
theorem Inv.reads (I:Inv X pins σ H s):∀{d:Dt}{x:V}{v:Value},RelV x v->Sh X.K H d x->∃as,Reads s.heap v (toP d) as
 | .non,x,v,r,h=>by obtain rfl:x = .non:=h;obtain rfl:v = .none:=r;exact⟨_, .none⟩
 | .bl b,x,v,r,h=>by obtain rfl:x = .bl b:=h;obtain rfl:v = .bool b:=r;exact⟨_, .bool b⟩
 | .int i,x,v,r,h=>by obtain rfl:x = .int i:=h;obtain⟨t,rfl⟩:=r;exact⟨_, .int i t⟩
 | .str y,x,v,r,h=>by obtain rfl:x = .str y:=h;obtain⟨t,rfl⟩:=r;exact⟨_, .str y t⟩
 | .tup ds,x,v,r,⟨a,xs,h1,h2,h3⟩=>by
  subst h1
  obtain rfl:v=Value.ref a:=r
  obtain⟨its,rv,⟨o,ho,hc,n,hd⟩,_⟩:=I.tuple h2
  obtain⟨as,ha⟩:=Inv.readsAll I rv h3
  exact⟨_, .tuple ho hc hd ha⟩
 | .lst ds,x,v,r,⟨a,xs,h1,h2,h3⟩=>by
  subst h1
  obtain rfl:v=Value.ref a:=r
  obtain⟨its,rv,pl,_⟩:=I.list h2
  obtain⟨o,ho,hc,n,hd⟩:=pl.isList
  obtain⟨as,ha⟩:=Inv.readsAll I rv h3
  exact⟨_, .list ho hc hd ha⟩
theorem Inv.readsAll (I:Inv X pins σ H s):∀{ds:List Dt}{xs:List V}{us:List Value},Vals xs us->ShL X.K H ds xs->∃as,ReadsAll s.heap us (aCP ds) as
 |[],xs,us,r,h=>by obtain rfl:xs=[]:=h;cases r;exact⟨_, .nil⟩
 |d :: ds,xs,us,r,⟨x,t,h1,h2,h3⟩=>by
  subst h1
  cases r with
  |cons r1 r2=>
   obtain⟨as,h4⟩:=Inv.reads I r1 h2
   obtain⟨bs,h5⟩:=Inv.readsAll I r2 h3
   exact⟨_, .cons h4 h5⟩
end
end
def ItAt (b:Bool)(h:Heap)(it l:Addr)(i:Nat):Prop:=∃o,h.get? it=some o/\o.cls = .type (if b then "list_iterator" else "tuple_iterator")/\o.data = .fields #[.ref l, .int i 0]
def ObAt (b:Bool)(h:Heap)(l:Addr)(us:Array Value):Prop:=∃o,h.get? l=some o/\o.cls = .type (if b then "list" else "tuple")/\∃n,o.data = .seq us n
theorem ItAt.keep (x:ItAt b h it l i)(e:∀o,h.get? it=some o->h'.get? it=some o):ItAt b h' it l i:=let⟨o,ho,r⟩:=x;⟨o,e _ ho,r⟩
theorem ObAt.keep (x:ObAt b h l us)(e:∀o,h.get? l=some o->h'.get? l=some o):ObAt b h' l us:=let⟨o,ho,r⟩:=x;⟨o,e _ ho,r⟩
theorem ItAt.lt (x:ItAt b h it l i):it<h.objs.size:=let⟨_,ho,_⟩:=x;bu ho
section
variable {prog:Program}{w:World}{A:Around}{E:Value->Shared->Prop}{s:Shared}
theorem qL (hit:s.heap.IsTupleIter it t i)(ht:s.heap.IsTuple t us)(hx:us[i]?=some x)(q:∀h',h'.IsTupleIter it t (i+1)->jb it s.heap h'->Q x { s with heap:=h' }):wpAny (model prog w) A (fw (.ref it)) Q E s:=by
 obtain⟨ob,e1,e2,e3⟩:=id hit
 obtain⟨ol,f1,_,nl,f2⟩:=ht
 unfold fw;refine af (gh (name:=lr "__next__") hit.typeIs k4 (gf k4 hit.typeIs vk ?g (u4 _)))
 case g=>
  show wpAny _ _ (field (.ref it) 0 >>= _) _ _ s;refine af (ib e1 e3 (x := .ref t) rfl ?g)
  case g=>
   show wpAny _ _ (if(Value.ref t == Value.none)=true then _ else _) _ _ s;rw[if_neg (show ¬ ((Value.ref t == Value.none)=true) from cy)]
   show wpAny _ _ (field (.ref it) 1 >>= _) _ _ s;refine af (ib e1 e3 (x := .int i 0) rfl ?g)
   case g=>
    show wpAny _ _ (AX (.ref t) >>= _) _ _ s;refine af (jh f1 f2 ?g)
    case g=>
     simp only[dh,hx];refine af (t6 e1 e3 (by simp) (aq ⟨x,rfl,aq (q _ ?g (kc ..))⟩))
     case g=>exact⟨_,je _ e1 (o6 (n4 e3 _)),(xm ..).trans e2,by rw[n4 e3];simp[me]⟩
theorem sD (hh:A.handled=none)(hit:s.heap.IsTupleIter it t i)(ht:s.heap.IsTuple t us)(hx:us[i]?=none)(q:∀h' e,AB it s.heap h'->(∃o,h'.get? e=some o/\o.cls = .type "StopIteration")->E (.ref e) { s with heap:=h' }):wpAny (model prog w) A (fw (.ref it)) Q E s:=by
 obtain⟨ob,e1,e2,e3⟩:=id hit
 obtain⟨ol,f1,_,nl,f2⟩:=ht
 unfold fw;refine af (gh (name:=lr "__next__") hit.typeIs k4 (gf k4 hit.typeIs vk ?g (u4 _)))
 case g=>
  show wpAny _ _ (field (.ref it) 0 >>= _) _ _ s;refine af (ib e1 e3 (x := .ref t) rfl ?g)
  case g=>
   show wpAny _ _ (if(Value.ref t == Value.none)=true then _ else _) _ _ s;rw[if_neg (show ¬ ((Value.ref t == Value.none)=true) from cy)]
   show wpAny _ _ (field (.ref it) 1 >>= _) _ _ s;refine af (ib e1 e3 (x := .int i 0) rfl ?g)
   case g=>
    show wpAny _ _ (AX (.ref t) >>= _) _ _ s;refine af (jh f1 f2 ?g)
    case g=>
     simp only[dh,hx];refine af (u5 (af (t6 e1 e3 (by simp) ?g)))
     case g=>
      show wpAny _ _ (newExc (.type "StopIteration") [] >>= _) _ _ _;refine af ?g
      case g=>
       simp only[newExc,newTuple];refine af (gn ?g (by size_fits))
       case g=>
        refine af (m:=w8 _ _) (vf (a:=Value.none) (by first | rfl | (simp only[w8];rfl)) ?g)
        case g=>
         refine gn ?g (by size_fits)
         case g=>
          simp only[raiseNew];refine af (wpAny_handled ?g)
          case g=>
           first | rw[show A.in1.handled=none from hh] | rw[hh]
           exact af (aq (wpAny_throw (q _ _ (((kc ..).extBut.push _).push _) ⟨_,bp _ rfl,rfl⟩)))
theorem nZ (hit:ItAt b s.heap it l i)(ho:ObAt b s.heap l us)(hx:us[i]?=some x)(q:∀h',ItAt b h' it l (i+1)->jb it s.heap h'->Q x { s with heap:=h' }):wpAny (model prog w) A (fw (.ref it)) Q E s:=by
 cases b with
 |true=>exact wpAny_nextOf_list_item (l:=l) (i:=i) (items:=us) hit ho hx q
 |false=>exact qL (t:=l) (i:=i) (us:=us) hit ho hx q
theorem aAc (hh:A.handled=none)(hit:ItAt b s.heap it l i)(ho:ObAt b s.heap l us)(hx:us[i]?=none)(q:∀h' e,AB it s.heap h'->(∃o,h'.get? e=some o/\o.cls = .type "StopIteration")->E (.ref e) { s with heap:=h' }):wpAny (model prog w) A (fw (.ref it)) Q E s:=by
 cases b with
 |true=>exact wpAny_nextOf_list_end (l:=l) (i:=i) (items:=us) hh hit ho hx q
 |false=>exact sD (t:=l) (i:=i) (us:=us) hh hit ho hx q
abbrev itO (b:Bool)(l:Addr):Obj:={ cls := .type (if b then "list_iterator" else "tuple_iterator"),data := .fields #[.ref l, .int 0 0] }
theorem nW (ho:ObAt b s.heap l us)(q:Q (.ref s.heap.objs.size) { s with heap:=s.heap.push (itO b l) }):wpAny (model prog w) A (Bj (.ref l)) Q E s:=by
 cases b with
 |true=>exact tm (show s.heap.IsList l us from ho) q
 |false=>exact wk (show s.heap.IsTuple l us from ho) q
structure ZA (z ti to i1 i2:Addr):Prop where
 a1:ti≠z
 a2:to≠z
 a3:i1≠z
 a4:i2≠z
 a5:ti≠to
 a6:ti≠i1
 a7:ti≠i2
 a8:to≠i1
 a9:to≠i2
 a10:i1≠i2
def ZP (z to i1 i2 c:Addr):Prop:=c≠z/\c≠to/\c≠i1/\c≠i2
theorem aHq {b1 b2: Bool}{z ti to i1 i2 l1 l2: Addr}{k1 k2: Nat}{xs ys: Array Value}{x y u v: Value}{Q: Value->Shared->Prop}(D:ZA z ti to i1 i2)(D1:ZP z to i1 i2 l1)(D2:ZP z to i1 i2 l2)(hz:IsZip s.heap z ti to .none)(hti:xn s.heap ti (.ref i1) (.ref i2))(hto:xn s.heap to u v)(h1:ItAt b1 s.heap i1 l1 k1)(h2:ItAt b2 s.heap i2 l2 k2)(o1:ObAt b1 s.heap l1 xs)(o2:ObAt b2 s.heap l2 ys)(hx:xs[k1]?=some x)(hy:ys[k2]?=some y)(q:∀h',IsZip h' z ti to (me s.heap.objs.size)->xn h' to x y->ItAt b1 h' i1 l1 (k1+1)->ItAt b2 h' i2 l2 (k2+1)->xn h' s.heap.objs.size x y->h'.objs.size=s.heap.objs.size+1->(∀c o,ZP z to i1 i2 c->s.heap.get? c=some o->h'.get? c=some o)->Q (.ref s.heap.objs.size) { s with heap:=h' }):
  wpAny (model prog w) A (Builtin.«zip.__next__» ⟨[.ref z],[]⟩) (λfin s'=>∃r,fin = .done (.ret r)/\Q r s') E s:=by
 show wpAny _ _ (field (.ref z) 2 >>= _) _ _ _;refine af (ib hz rfl (x := .bool false) rfl ?g)
 case g=>
 show wpAny _ _ (field (.ref z) 3 >>= _) _ _ _;refine af (ib hz rfl (x := .ref ti) rfl (af (jh hti rfl ?g)))
 case g=>
 show wpAny _ _ (gi (.ref z) >>= _) _ _ _;unfold gi;refine af (af (ib hz rfl (x := .none) rfl (aq ?g)))
 case g=>
 simp only[if_true];refine af (u5 (af (ib hz rfl (x := .ref to) rfl (af (ie hz (by simp) λH1 z1 s1=>?g)))))
 case g=>
 replace z1:IsZip H1 z ti to .ellipsis:=z1
 refine af ?g
 case g=>
 simp only[List.zipIdx_cons,List.zipIdx_nil,rq,qk];refine af (af (ye ?g))
 case g=>
 show wpAny _ _ (fw (.ref i1) >>= _) _ _ _;refine af (nZ (b:=b1) (h1.keep λo e=>s1.extBut _ _ D.a3 e) (o1.keep λo e=>s1.extBut _ _ D1.1 e) hx λH2 t1 s2=>aq ?g)
 case g=>
 have p2:xn H2 to u v:=s2.extBut _ _ D.a8 (s1.extBut _ _ D.a2 hto)
 refine af (jh p2 rfl (af (um p2 λH3 p3 s3=>?g)))
 case g=>
 replace p3:xn H3 to x v:=p3
 refine af (qt (aq (af (af (ye ?g)))))
 case g=>
 show wpAny _ _ (fw (.ref i2) >>= _) _ _ _
 refine af (nZ (b:=b2) (h2.keep λo e=>s3.extBut _ _ D.a9.symm (s2.extBut _ _ D.a10.symm (s1.extBut _ _ D.a4 e))) (o2.keep λo e=>s3.extBut _ _ D2.2.1 (s2.extBut _ _ D2.2.2.1 (s1.extBut _ _ D2.1 e))) hy λH4 t2 s4=>aq ?g)
 case g=>
 have p4:xn H4 to x v:=s4.extBut _ _ D.a9 p3
 refine af (jh p4 rfl (af (um p4 λH5 p5 s5=>?g)))
 case g=>
 replace p5:xn H5 to x y:=p5
 refine af (qt (aq (aq (af (jh p5 rfl (af (w9 ?g)))))))
 case g=>
 have sz:H5.objs.size=s.heap.objs.size:=by rw[s5.1,s4.1,s3.1,s2.1,s1.1]
 have z5:IsZip H5 z ti to .ellipsis:=s5.extBut _ _ D.a2.symm (s4.extBut _ _ D.a4.symm (s3.extBut _ _ D.a2.symm (s2.extBut _ _ D.a3.symm z1)))
 have k5:∀c o,ZP z to i1 i2 c->s.heap.get? c=some o->H5.get? c=some o:=λc o n e=>s5.extBut _ _ n.2.1 (s4.extBut _ _ n.2.2.2 (s3.extBut _ _ n.2.1 (s2.extBut _ _ n.2.2.1 (s1.extBut _ _ n.1 e))))
 have t15:ItAt b1 H5 i1 l1 (k1+1):=t1.keep λo e=>s5.extBut _ _ D.a8.symm (s4.extBut _ _ D.a10 (s3.extBut _ _ D.a8.symm e))
 have t25:ItAt b2 H5 i2 l2 (k2+1):=t2.keep λo e=>s5.extBut _ _ D.a9.symm e
 have lz:z<H5.objs.size:=bu z5
 show wpAny _ _ (jr (.ref z) (.ref H5.objs.size) >>= _) _ _ _;unfold jr
 have z6:IsZip (H5.push { cls := .type "tuple",data := .seq #[x,y] }) z ti to .ellipsis:=ak _ z5
 refine af (af (ie z6 (by simp) λH7 z7 s7=>?g))
 case g=>
 replace z7:IsZip H7 z ti to (me H5.objs.size):=z7
 refine ie z7 (by simp) λH8 z8 s8=>?g
 case g=>
 replace z8:IsZip H8 z ti to (me H5.objs.size):=z8
 have up:∀c o,c≠z->H5.get? c=some o->H8.get? c=some o:=λc o n e=>s8.extBut _ _ n (s7.extBut _ _ n (ak _ e))
 have p8:xn H8 H5.objs.size x y:=s8.extBut _ _ (kr lz) (s7.extBut _ _ (kr lz) (bp _ rfl))
 have n8:H8.objs.size=H5.objs.size+1:=by rw[s8.1,s7.1,gm]
 rw[sz] at z8 p8 n8
 refine aq ⟨_,rfl,(?g:Q (.ref H5.objs.size) _)⟩
 case g=>
 rw[sz]
 exact q H8 z8 (up _ _ D.a2 p5) (t15.keep λo e=>up _ o D.a3 e) (t25.keep λo e=>up _ o D.a4 e) p8 n8 λc o n e=>up c o n.1 (k5 c o n e)
theorem aJH (hh:A.handled=none)(D:ZA z ti to i1 i2)(D1:ZP z to i1 i2 l1)(D2:ZP z to i1 i2 l2)(hz:IsZip s.heap z ti to .none)(hti:xn s.heap ti (.ref i1) (.ref i2))(hto:xn s.heap to u v)(h1:ItAt b1 s.heap i1 l1 k1)(h2:ItAt b2 s.heap i2 l2 k2)(o1:ObAt b1 s.heap l1 xs)(o2:ObAt b2 s.heap l2 ys)(hend:xs[k1]?=none\/ys[k2]?=none)(q:∀h' e,(∀c o,ZP z to i1 i2 c->s.heap.get? c=some o->h'.get? c=some o)->(∃o,h'.get? e=some o/\o.cls = .type "StopIteration")->E (.ref e) { s with heap:=h' }):
  wpAny (model prog w) A (Builtin.«zip.__next__» ⟨[.ref z],[]⟩) Q E s:=by
 show wpAny _ _ (field (.ref z) 2 >>= _) _ _ _;refine af (ib hz rfl (x := .bool false) rfl ?g)
 case g=>
 show wpAny _ _ (field (.ref z) 3 >>= _) _ _ _;refine af (ib hz rfl (x := .ref ti) rfl (af (jh hti rfl ?g)))
 case g=>
 show wpAny _ _ (gi (.ref z) >>= _) _ _ _;unfold gi;refine af (af (ib hz rfl (x := .none) rfl (aq ?g)))
 case g=>
 simp only[if_true];refine af (u5 (af (ib hz rfl (x := .ref to) rfl (af (ie hz (by simp) λH1 z1 s1=>?g)))))
 case g=>
 replace z1:IsZip H1 z ti to .ellipsis:=z1
 refine af ?g
 case g=>
 simp only[List.zipIdx_cons,List.zipIdx_nil,rq,qk];refine af (af (ye ?g))
 case g=>
 show wpAny _ _ (fw (.ref i1) >>= _) _ _ _
 cases hx:xs[k1]? with
 |none=>
  refine af (aAc (b:=b1) hh (h1.keep λo e=>s1.extBut _ _ D.a3 e) (o1.keep λo e=>s1.extBut _ _ D1.1 e) hx λH2 e s2 ⟨oe,e1,e2⟩=>?g)
  case g=>
  have z2:IsZip H2 z ti to .ellipsis:=s2 _ _ D.a3.symm z1
  have ne:e≠z:=λx=>by subst x;rw[z2] at e1;cases e1;simp at e2
  exact ie z2 (by simp) λH3 _ s3=>q H3 e (λc o n x=>s3.extBut _ _ n.1 (s2 _ _ n.2.2.1 (s1.extBut _ _ n.1 x))) ⟨oe,s3.extBut _ _ ne e1,e2⟩
 |some x=>
  have hy:ys[k2]?=none:=hend.resolve_left (by rw[hx];exact λh=>by cases h)
  refine af (nZ (b:=b1) (h1.keep λo e=>s1.extBut _ _ D.a3 e) (o1.keep λo e=>s1.extBut _ _ D1.1 e) hx λH2 t1 s2=>aq ?g)
  case g=>
  have p2:xn H2 to u v:=s2.extBut _ _ D.a8 (s1.extBut _ _ D.a2 hto)
  refine af (jh p2 rfl (af (um p2 λH3 p3 s3=>?g)))
  case g=>
  refine af (qt (aq (af (af (ye ?g)))))
  case g=>
  show wpAny _ _ (fw (.ref i2) >>= _) _ _ _
  refine af (aAc (b:=b2) hh (h2.keep λo e=>s3.extBut _ _ D.a9.symm (s2.extBut _ _ D.a10.symm (s1.extBut _ _ D.a4 e))) (o2.keep λo e=>s3.extBut _ _ D2.2.1 (s2.extBut _ _ D2.2.2.1 (s1.extBut _ _ D2.1 e))) hy λH4 e s4 ⟨oe,e1,e2⟩=>?g)
  case g=>
  have z4:IsZip H4 z ti to .ellipsis:=s4 _ _ D.a4.symm (s3.extBut _ _ D.a2.symm (s2.extBut _ _ D.a3.symm z1))
  have ne:e≠z:=λx=>by subst x;rw[z4] at e1;cases e1;simp at e2
  exact ie z4 (by simp) λH5 _ s5=>q H5 e (λc o n x=>s5.extBut _ _ n.1 (s4 _ _ n.2.2.2 (s3.extBut _ _ n.2.1 (s2.extBut _ _ n.2.2.1 (s1.extBut _ _ n.1 x))))) ⟨oe,s5.extBut _ _ ne e1,e2⟩
end
theorem Inv.turnedL {pins: List (Addr×Obj)}{σ: St}{H: Hp}{s: Shared}{h': Heap}{t': Nat}{ch: List Addr}(I:Inv X pins σ H s)(hf:∀b∈ch,zI X pins H b)(k:∀b o,b∉ch->s.heap.get? b=some o->h'.get? b=some o):Inv X pins σ H { s with heap:=h',toks:=t' }:=by
 have nit:∀b u,H b=some u->b∉ch:=λb u e z=>by rw[(hf b z).1] at e;cases e
 refine I.step (g':=s.gens) (d':=s.drawn) (ch:=ch) (λb hb=>?_) (λb o _ _ hc e _=>k b o hc e) (λb o _ _ hc e _=>⟨o.slots,k b o hc e⟩) (λ_ _ _ _ n=>n) (λb o hc e=>⟨o,k b o hc e⟩) (λ_ _ e=>e) (λ_ _ _ e=>e) (λb ps e=>⟨#[],by rw[e];simp⟩) (λm hm=>?_) (λb u e=>?_) I.bare
 ·obtain⟨_,f1,_,f3,f4,f5⟩:=hf b hb
  exact⟨f3,f1,f4,f5⟩
 ·obtain⟨o,es,ep,ho,r⟩:=hm
  exact⟨o,es,ep,k _ o (λz=>(hf _ z).2.1 rfl) ho,r⟩
 ·refine(I.hok b u e).stay (λc v hc q=>k c v ?_ q) (λ_ q=>q) λ_ _ q=>q
  rcases hc with z | z
  ·rw[z];exact nit b u e
  ·exact nit c _ z
def SqB (b:Bool)(K:aa)(H:Hp)(l:Addr)(xs:List V):Prop:=match b with | true=>SqL K H l xs | false=>SqT K H l xs
theorem Inv.obAt {pins: List (Addr×Obj)}{σ: St}{H: Hp}{s: Shared}{b: Bool}{l: Addr}{xs: List V}(I:Inv X pins σ H s)(h:SqB b X.K H l xs):∃its:List Value,Vals xs its/\ObAt b s.heap l its.toArray/\xs.length<=bx:=by
 cases b with
 |true=>
  obtain⟨its,rv,pl,hz⟩:=I.list h
  obtain⟨o,ho,hc,n,hd⟩:=pl.isList
  exact⟨its,rv,⟨o,ho,hc,n,hd⟩,hz⟩
 |false=>
  obtain⟨its,rv,⟨o,ho,hc,n,hd⟩,hz⟩:=I.tuple h
  exact⟨its,rv,⟨o,ho,hc,n,hd⟩,hz⟩
theorem Inv.sqB_inj {pins: List (Addr×Obj)}{σ: St}{H: Hp}{s: Shared}{b: Bool}{l: Addr}{xs ys: List V}(I:Inv X pins σ H s)(h:SqB b X.K H l xs)(h':SqB b X.K H l ys):xs=ys:=by
 cases b with
 |true=>exact I.list_inj h h'
 |false=>exact I.tuple_inj h h'
def Itz (K : aa)(b1 b2 : Bool)(l1 l2 : Addr):It :=
  ⟨λi H => ∃xs ys x y, SqB b1 K H l1 xs /\ SqB b2 K H l2 ys /\ xs[i]? = some x /\ ys[i]? = some y,
   λi H v H' => ∃p x y, v = .ref p /\ H p = none /\ H' = upd H p (.tup [x, y]) /\ (∀xs, SqB b1 K H l1 xs -> xs[i]? = some x) /\ ∀ys, SqB b2 K H l2 ys -> ys[i]? = some y,
   λi H => ∃xs ys, SqB b1 K H l1 xs /\ SqB b2 K H l2 ys /\ (xs.length <= i \/ ys.length <= i)⟩
def zTn (b1 b2:Bool)(z ti to i1 i2 l1 l2:Addr)(i:Nat)(h:Heap):Prop:=IsZip h z ti to .none/\xn h ti (.ref i1) (.ref i2)/\(∃u v,xn h to u v)/\ItAt b1 h i1 l1 i/\ItAt b2 h i2 l2 i
theorem aHm {K: aa}{es: List Expr}{k: Nat}{pos: Pos}{b1 b2: Bool}{z ti to i1 i2 l1 l2: Addr}(D:ZA z ti to i1 i2)(D1:ZP z to i1 i2 l1)(D2:ZP z to i1 i2 l2):
  aIp P w K (.Tuple es k pos) (Itz K b1 b2 l1 l2) [z,ti,to,i1,i2] z (zTn b1 b2 z ti to i1 i2 l1 l2) where
 mem:=by simp
 obj:=λi h ⟨h1,h2,⟨u,v,h3⟩,⟨o4,h4,_,d4⟩,⟨o5,h5,_,d5⟩⟩ b hb=>by
  simp only[bq,j7,or_false] at hb
  rcases hb with rfl | rfl | rfl | rfl | rfl
  ·exact⟨_,h1,λv q=>by cases q⟩
  ·exact⟨_,h2,λv q=>by cases q⟩
  ·exact⟨_,h3,λv q=>by cases q⟩
  ·exact⟨_,h4,λv q=>by rw[d4] at q;cases q⟩
  ·exact⟨_,h5,λv q=>by rw[d5] at q;cases q⟩
 keep:=λi h h' ⟨h1,h2,⟨u,v,h3⟩,h4,h5⟩ kp=>⟨kp z (by simp) _ h1,kp ti (by simp) _ h2,⟨u,v,kp to (by simp) _ h3⟩,h4.keep λo e=>kp i1 (by simp) o e,h5.keep λo e=>kp i2 (by simp) o e⟩
 item:=by
  intro X hP hw hK hc i pins s σ H E I hf st hg
  subst hP hw hK
  obtain⟨h1,h2,⟨u0,v0,h3⟩,h4,h5⟩:=st
  obtain⟨xs,ys,x,y,q1,q2,hx,hy⟩:=hg
  obtain⟨us,r1,o1,z1⟩:=I.obAt q1
  obtain⟨vs,r2,o2,z2⟩:=I.obAt q2
  obtain⟨ux,hux,rx⟩:=r1.get hx
  obtain⟨uy,huy,ry⟩:=r2.get hy
  have hT:s.TypeIs (.ref z) "zip":=⟨_,h1,rfl⟩
  unfold u9
  refine af (sa (gh (name:=lr "__next__") hT vm (gf vm hT F.entry_zip_next (aHq D D1 D2 h1 h2 h3 h4 h5 o1 o2 (by simpa using hux) (by simpa using huy) λh' g1 g2 g3 g4 g5 g6 kp=>aq ⟨_,rfl,?g⟩) (F.args_zip_next_1 _))))
  case g=>
  refine wpAny_letOwnedTupleGo_zip (s:={ s with heap:=h' }) g1 λh2' g1' sb=>?g
  case g=>
  have lt:∀b∈[z,ti,to,i1,i2],b<s.heap.objs.size:=λb hb=>by
   simp only[bq,j7,or_false] at hb
   rcases hb with rfl | rfl | rfl | rfl | rfl
   ·exact bu h1
   ·exact bu h2
   ·exact bu h3
   ·exact h4.lt
   ·exact h5.lt
  have kb:∀c o,c∉[z,ti,to,i1,i2]->s.heap.get? c=some o->h'.get? c=some o:=λc o n e=>kp c o ⟨λq=>n (by simp[q]),λq=>n (by simp[q]),λq=>n (by simp[q]),λq=>n (by simp[q])⟩ e
  have hn:H s.heap.objs.size=none:=I.hok.fresh (bc _)
  have I1:Inv X pins σ (upd H s.heap.objs.size (.tup [x,y])) { s with heap:=s.heap.push { cls := .type "tuple",data := .seq #[ux,uy] } }:=
   I.laid (t':=s.toks) (λb o e=>ak _ e) (bc _) (show ObjOk X.prog X.w _ _ _ (.tup [x,y]) from⟨show 2<=bx by decide,[ux,uy], .cons rx (.cons ry .nil),TupN.new _ _⟩)
  have hf1:∀b∈[z,ti,to,i1,i2],zI X pins (upd H s.heap.objs.size (.tup [x,y])) b:=λb hb=>by
   obtain⟨f0,f⟩:=hf b hb
   exact⟨by rw[aK (dt (lt b hb))];exact f0,f⟩
  have I2:Inv X pins σ (upd H s.heap.objs.size (.tup [x,y])) { s with heap:=h' }:=I1.turnedL (t':=s.toks) hf1 λb o nb e=>by
   rcases Aj e with⟨eb,eo⟩ | e
   ·subst eb;subst eo
    exact g5
   ·exact kb b o nb e
  have I3:Inv X pins σ (upd H s.heap.objs.size (.tup [x,y])) { s with heap:=h2' }:=I2.turnedL (t':=s.toks) hf1 λb o nb e=>sb.extBut _ _ (λq=>nb (by simp[q])) e
  exact⟨.ref s.heap.objs.size,_,I3,rfl,⟨_,x,y,rfl,hn,rfl,λxs' e=>by rw[I.sqB_inj e q1];exact hx,λys' e=>by rw[I.sqB_inj e q2];exact hy⟩,
   ⟨g1',sb.extBut _ _ D.a1 (kp _ _ ⟨D.a1,D.a5,D.a6,D.a7⟩ h2),⟨_,_,sb.extBut _ _ D.a2 g2⟩,g3.keep λo e=>sb.extBut _ _ D.a3 e,g4.keep λo e=>sb.extBut _ _ D.a4 e⟩,λb hb=>(hf1 b hb).1⟩
 done:=by
  intro X hP hw hK hc i pins s σ H E I hf st hg
  subst hP hw hK
  obtain⟨h1,h2,⟨u0,v0,h3⟩,h4,h5⟩:=st
  obtain⟨xs,ys,q1,q2,hl⟩:=hg
  obtain⟨us,r1,o1,z1⟩:=I.obAt q1
  obtain⟨vs,r2,o2,z2⟩:=I.obAt q2
  have l1':=r1.length
  have l2':=r2.length
  have hT:s.TypeIs (.ref z) "zip":=⟨_,h1,rfl⟩
  unfold u9
  refine af (sa (gh (name:=lr "__next__") hT vm (gf vm hT F.entry_zip_next (aJH (I.ok.hd hc) D D1 D2 h1 h2 h3 h4 h5 o1 o2 (hl.elim (λh => .inl (by simp;lia)) λh => .inr (by simp;lia)) λh' e kp ⟨o,e1,e2⟩=>?g) (F.args_zip_next_1 _))))
  case g=>
  refine af (ue (T:="StopIteration") (b:=true) ⟨o,e1,e2⟩ As (aq ⟨rfl,?g⟩))
  case g=>
  exact I.turnedL (t':=s.toks) hf λc o n e=>kp c o ⟨λq=>n (by simp[q]),λq=>n (by simp[q]),λq=>n (by simp[q]),λq=>n (by simp[q])⟩ e
 self:=λ_ _ _ _ _ st q=>wpAny_pyIter_zip st.1 q
abbrev zH1 (h:Heap)(b1:Bool)(l1:Addr):Heap:=h.push (itO b1 l1)
abbrev zH2 (h:Heap)(b1 b2:Bool)(l1 l2:Addr):Heap:=(zH1 h b1 l1).push (itO b2 l2)
abbrev zH3 (h:Heap)(b1 b2:Bool)(l1 l2:Addr):Heap:=(zH2 h b1 b2 l1 l2).push { cls := .type "tuple",data := .seq #[.ref h.objs.size, .ref (zH1 h b1 l1).objs.size] }
abbrev zH4 (h:Heap)(b1 b2:Bool)(l1 l2:Addr):Heap:=(zH3 h b1 b2 l1 l2).push { cls := .type "tuple",data := .seq #[.none, .none] }
abbrev zH5 (h:Heap)(b1 b2:Bool)(l1 l2:Addr):Heap:=(zH4 h b1 b2 l1 l2).push { cls := .type "zip",data := .fields #[.none, .bool false, .bool false, .ref (zH2 h b1 b2 l1 l2).objs.size, .ref (zH3 h b1 b2 l1 l2).objs.size] }
theorem ObAt.push (x:ObAt b h l us)(o:Obj):ObAt b (h.push o) l us:=x.keep λ_ e=>ak _ e
theorem aJN (b1 b2:Bool)(l1 l2:Addr)(xs ys:Array Value):
  Meets (Builtin.«zip.__new__» ⟨[.type "zip", .ref l1, .ref l2],[]⟩) (λ_ R s=>ObAt b1 s.heap l1 xs/\ObAt b2 s.heap l2 ys/\R (.ok (.ret (.ref (zH4 s.heap b1 b2 l1 l2).objs.size))) { s with heap:=zH5 s.heap b1 b2 l1 l2 }):=
 .of_wp λprog w A R s h=>by
  obtain⟨hp,g,d,tk,os⟩:=s;obtain⟨m1,m2,q⟩:=h
  have hsub:=sub_zip;have n1:ObAt b1 (BA ⟨hp,g,d,tk,os⟩) l1 xs:=m1
  have n2:ObAt b2 (BA ⟨hp.push (itO b1 l1),g,d,tk,os⟩) l2 ys:=ObAt.push m2 _
  wp_walk using nW n1,nW n2
  exact⟨_,rfl,q⟩
theorem aGv {s: Shared}{b1 b2: Bool}{l1 l2: Addr}{xs ys: Array Value}(o1:ObAt b1 s.heap l1 xs)(o2:ObAt b2 s.heap l2 ys)(q:∀h',zTn b1 b2 (s.heap.objs.size+4) (s.heap.objs.size+2) (s.heap.objs.size+3) s.heap.objs.size (s.heap.objs.size+1) l1 l2 0 h'->(∀c o,s.heap.get? c=some o->h'.get? c=some o)->Q (.ref (s.heap.objs.size+4)) { s with heap:=h' }):
  wpAny (model prog w) A (call (.type "zip") [.ref l1, .ref l2]) Q E s:=by
 refine callType_new F.called_zip (by decide) (F.typeCall_zip_2 _ _) (F.newCall_zip_2 _ _) (λob=>F.args_object_init_3 ob _ _) F.entry_zip_new (aJN b1 b2 l1 l2 xs ys) ⟨o1,o2,?g⟩
 case g=>
 have z1:(zH1 s.heap b1 l1).objs.size=s.heap.objs.size+1:=gm ..
 have z2:(zH2 s.heap b1 b2 l1 l2).objs.size=s.heap.objs.size+2:=by rw[gm,z1]
 have z3:(zH3 s.heap b1 b2 l1 l2).objs.size=s.heap.objs.size+3:=by rw[gm,z2]
 have z4:(zH4 s.heap b1 b2 l1 l2).objs.size=s.heap.objs.size+4:=by rw[gm,z3]
 have g5:(zH5 s.heap b1 b2 l1 l2).get? (zH4 s.heap b1 b2 l1 l2).objs.size=some _:=bp _ rfl
 have g4:(zH5 s.heap b1 b2 l1 l2).get? (zH3 s.heap b1 b2 l1 l2).objs.size=some _:=ak _ (bp _ rfl)
 have g3:(zH5 s.heap b1 b2 l1 l2).get? (zH2 s.heap b1 b2 l1 l2).objs.size=some _:=ak _ (ak _ (bp _ rfl))
 have g2:(zH5 s.heap b1 b2 l1 l2).get? (zH1 s.heap b1 l1).objs.size=some _:=ak _ (ak _ (ak _ (bp _ rfl)))
 have g1:(zH5 s.heap b1 b2 l1 l2).get? s.heap.objs.size=some _:=ak _ (ak _ (ak _ (ak _ (bp _ rfl))))
 rw[z2,z3,z4] at g5;rw[z1,z2] at g3;rw[z3] at g4;rw[z1] at g2
 show _/\_
 rw[z4]
 exact⟨⟨_,g5,rfl⟩,q _ ⟨g5,g3,⟨_,_,g4⟩,⟨_,g1,rfl,rfl⟩,⟨_,g2,rfl,rfl⟩⟩ λc o x=>ak _ (ak _ (ak _ (ak _ (ak _ x))))⟩
def aKt (K:aa)(ta:TA):TI:=λσ H R=>ta σ H λvs H1=>∃l1 l2 b1 b2,vs=[.ref l1, .ref l2]/\(∃xs,SqB b1 K H1 l1 xs)/\(∃ys,SqB b2 K H1 l2 ys)/\R (Itz K b1 b2 l1 l2) H1
theorem aKE (n:Nat):ZA (n+4) (n+2) (n+3) n (n+1):=by
 constructor <;> (intro h;replace h:(_:Nat)=_:=h;lia)
theorem aIi {n l: Nat}(h:l<n):ZP (n+4) (n+3) n (n+1) l:=
 ⟨dt (cg h (jt _ _)),dt (cg h (jt _ _)),dt h,dt (cg h (jt _ _))⟩
theorem aMN:fz "zip" = some (.type "zip"):=by decide+kernel
theorem aMD {es: List Expr}{k: Nat}{po: Pos}{a b: Expr}{ta: TA}{p pos: Pos}(hg:Gl X "zip")(hm:X.mg "zip" = none)(ha:PA X [a,b] ta)(hs:ft [a,b] X.env=[(false,eval a X.env),(false,eval b X.env)]:=by rfl)(hs2:ft [b] X.env=[(false,eval b X.env)]:=by rfl):
  PI X (.Tuple es k po) (.Call (.Name "zip" p) [a,b] [] pos) (aKt X.K ta):=by
 intro pins s σ H R I h
 refine Call_ (oN I hg hm aMN (j4 (thn (ha pos pins s σ H _ I h) λus s1 ⟨vs,H1,I1,r1,q1⟩=>?g) (by rw[hs,hs2]) (by rw[hs2];rfl)))
 case g=>
 obtain⟨l1,l2,b1,b2,e,⟨xs,q2⟩,⟨ys,q3⟩,q⟩:=q1
 subst e
 obtain⟨u1,u2,rfl,e1,e2⟩:=aIU r1
 obtain rfl:u1=Value.ref l1:=e1
 obtain rfl:u2=Value.ref l2:=e2
 obtain⟨x1,v1,o1,_⟩:=I1.obAt q2
 obtain⟨x2,v2,o2,_⟩:=I1.obAt q3
 have a1:l1<s1.heap.objs.size:=let⟨_,e,_⟩:=o1;bu e
 have a2:l2<s1.heap.objs.size:=let⟨_,e,_⟩:=o2;bu e
 refine aGv o1 o2 λh' zt kp=>wpAny_pyIter_zip (s:={ s1 with heap:=h' }) zt.1 ?g
 case g=>
 refine⟨_,[s1.heap.objs.size+4,s1.heap.objs.size+2,s1.heap.objs.size+3,s1.heap.objs.size,s1.heap.objs.size+1],_,_,H1,rfl,I1.kept (t':=s1.toks) kp,aHm (aKE _) (aIi a1) (aIi a2),zt,λb hb=>?g,q⟩
 case g=>
 have lb:s1.heap.objs.size<=b:=by
  simp only[bq,j7,or_false] at hb
  rcases hb with rfl | rfl | rfl | rfl | rfl <;> first | exact jt _ _ | exact bc _
 exact I1.fpOk lb (I1.hok.fresh lb)
theorem aEQ {K: aa}{es: List Expr}{k: Nat}{po: Pos}{a b: Expr}{ta: TA}{p pos: Pos}(hK:X.K=K)(hg:Gl X "zip")(hm:X.mg "zip" = none)(ha:PA X [a,b] ta)(hs:ft [a,b] X.env=[(false,eval a X.env),(false,eval b X.env)]:=by rfl)(hs2:ft [b] X.env=[(false,eval b X.env)]:=by rfl):
  PI X (.Tuple es k po) (.Call (.Name "zip" p) [a,b] [] pos) (aKt K ta):=by subst hK;exact aMD hg hm ha hs hs2
theorem aJW {K: aa}{b1 b2: Bool}{l1 l2: Addr}{xs ys: List V}{g: TG}{tb: TS}{D: vS}{σ: St}{H: Hp}(hlen:ys.length=xs.length)(Pv:Nat->St->Hp->Prop)(h0:Pv 0 σ H)(hl:∀i σ H,i<=xs.length->Pv i σ H->SqB b1 K H l1 xs/\SqB b2 K H l2 ys)(hs:∀i x y σ H p,xs[i]?=some x->ys[i]?=some y->H p=none->Pv i σ H->g (.ref p) σ (upd H p (.tup [x,y])) λσ2 H2=>tb { D with nx:=Pv (i+1),ct:=Pv (i+1),bk:=D.nx } σ2 H2)(hd:∀σ H,Pv xs.length σ H->D.nx σ H):
  cX (Itz K b1 b2 l1 l2) g tb D σ H:=by
 refine⟨λi m σ H=>m=xs.length - i/\i<=xs.length/\Pv i σ H,⟨xs.length,by simp,bg _,h0⟩,?g⟩
 case g=>
 rintro i m σ H ⟨rfl,hi,p⟩
 obtain⟨q1,q2⟩:=hl i σ H hi p
 by_cases hlt:i<xs.length
 ·refine .inr ⟨⟨xs,ys,xs[i],ys[i]'(by lia),q1,q2,by simp[hlt],by simp[show i<ys.length by lia]⟩,Pv (i+1),λσ' H' p'=>⟨xs.length - (i+1),by lia,rfl,hlt,p'⟩,λv H' ⟨a,x,y,e1,e2,e3,e4,e5⟩=>?g⟩
  case g=>
  subst e1;subst e3
  exact hs i x y σ H a (e4 xs q1) (e5 ys q2) e2 p
 ·obtain rfl:i=xs.length:=by lia
  exact .inl ⟨⟨xs,ys,q1,q2, .inl (bc _)⟩,hd σ H p⟩
structure aPf (mg:Str->Option Value):Prop extends Blt mg where
 zip:mg "zip" = none
 repr:mg "repr" = none
 enumerate:mg "enumerate" = none
 reversed:mg "reversed" = none
 str:mg "str" = none
theorem aBE {K: aa}{o e: Expr}{es: List Expr}{to: TE}{t: TA}{name: Str}{apos cpos: Pos}{T id: String}{r: V->List V->Hp->VK->Prop}(hK:X.K=K)(pa:PlainAttrs T)(slot:Slot T name id)(hty:typeOf (.builtin id)=pure (.type "method_descriptor"))(hm:MtM X id r)(ho:PE X o to)(ha:PA X (e :: es) t)(b1:attributeBase o name X.env (eval o X.env)=eval o X.env:=by rfl)(b2:((wc cpos (ft (e :: es) X.env)).all (λx=>!x.1) && (backToKw cpos (keywordEach [] X.env)).all (λx=>x.1.isSome) && decide ((e :: es).length+([]:List Keyword).length+(if([]:List Keyword).isEmpty then 0 else 1)<30))=true:=by rfl)(b3:(apos.endLine == cpos.line)=true:=by rfl)(b4:ft (e :: es) X.env=(false,eval e X.env) :: ft es X.env:=by rfl)(b5:(wc cpos (ft es X.env)).any (·.1)=false:=by rfl):
  PE X (.Call (.Attribute o name apos) (e :: es) [] cpos) (tBM K T r to t):=by subst hK;exact aNH pa slot hty hm ho ha b1 b2 b3 b4 b5
def aOb:R2:=λx y H Q=>(∃a b,x = .bl a/\y = .bl b/\Q (.bl (a == b)) H)\/(y = .non/\Q (.bl (decide (x = .non))) H)
def uP:R2:=λx y H Q=>(∃a b,x = .bl a/\y = .bl b/\Q (.bl (!(a == b))) H)\/(y = .non/\Q (.bl (!decide (x = .non))) H)
theorem aLv:OpR X (jd .Is) aOb:=by
 refine OpR.or (λpins s σ H x y v u Q I rx ry h=>?g) aMw
 case g=>
 obtain⟨a,b,rfl,rfl,q⟩:=h
 obtain rfl:v=Value.bool a:=rx
 obtain rfl:u=Value.bool b:=ry
 exact wpAny_is_plain (by cases a <;> cases b <;> rfl) (aBR I q (by cases a <;> cases b <;> rfl))
theorem aCS:OpR X (jd .IsNot) uP:=by
 refine OpR.or (λpins s σ H x y v u Q I rx ry h=>?g) aJy
 case g=>
 obtain⟨a,b,rfl,rfl,q⟩:=h
 obtain rfl:v=Value.bool a:=rx
 obtain rfl:u=Value.bool b:=ry
 exact wpAny_isNot_plain (by cases a <;> cases b <;> rfl) (aBR I q (by cases a <;> cases b <;> rfl))
end L2
namespace L2
open PySem
def aU (p:Nat):V := .int (p:Int)
theorem aBc (ps:List Nat):ps.map aU=(ps.map λp:Nat=>(p:Int)).map V.int:=by rw[dw];rfl
theorem bW {c: Bool}{B: Prop}(e:c=true)(h:A):if c=true then A else B:=by rw[if_pos e];exact h
theorem aV {c: Bool}{B: Prop}(e:c=false)(h:B):if c=true then A else B:=by subst e;exact aPs h
theorem aDd (h:SqT K H a xs)(hl:H l=some (.lst ys)):SqT K (upd H l o) a xs:=by
 have key:∀u,H a=some u->(∀zs,u ≠ .lst zs)->upd H l o a=some u:=λu e n=>by
  rw[aK]
  ·exact e
  ·intro z
   rw[z,hl] at e
   cases e
   exact n _ rfl
 rcases h with(h | ⟨u,h⟩) | h
 ·exact .inl (.inl (key _ h λ_ z=>by cases z))
 ·exact .inl (.inr ⟨u,key _ h λ_ z=>by cases z⟩)
 ·exact .inr h
theorem aCi {fs ls: List Nat}{k: Nat}(hk:k<ls.length): ((fs++[ls[k]])++ls.eraseIdx k).Perm (fs++ls):=by
 rw[gq]
 refine zu _ ?_
 have e:ls=ls.take k++ls[k] :: ls.drop (k+1):=by simp
 have e2:ls.eraseIdx k=ls.take k++ls.drop (k+1):=List.eraseIdx_eq_take_drop_succ _ _
 rw[e2]
 refine List.Perm.trans ?_ (List.Perm.of_eq e.symm)
 show(ls[k] :: (ls.take k++ls.drop (k+1))).Perm _
 exact List.perm_middle.symm
theorem wS {α β: Type}(f:α->β):∀(l:List α) (k:Nat),(l.map f).eraseIdx k=(l.eraseIdx k).map f
 |[],_=>rfl
 |_ :: _,0=>rfl
 |a :: l,k+1=>by
  show f a :: (l.map f).eraseIdx k=f a :: (l.eraseIdx k).map f
  rw[wS f l k]
theorem aEB {c: Int}{n: Nat}(h:1<=n):∃k:Nat,c % (n:Int)=(k:Int)/\k<n:=by
 have g0:=zv c (show(n:Int)≠0 by lia)
 have g1:=Int.emod_lt_of_pos c (show(0:Int)<(n:Int) by lia)
 obtain⟨k,hk⟩:=Int.eq_ofNat_of_zero_le g0
 exact⟨k,hk,by lia⟩
theorem aPb {ps: List Nat}{i: Nat}(h:i<ps.length): (ps.map aU)[i]?=some (aU (ps.getD i 0)):=by
 rw[aw,aj,ah h]
 rfl
def Rows (K:aa)(H:Hp)(xs:List V)(T:List (List Int)):Prop:=xs.length=T.length/\∀(i:Nat) (row:List Int),T[i]?=some row->∃b,xs[i]?=some (.ref b)/\SqT K H b (row.map V.int)
theorem Rows.map (h:Rows K H xs T)(f:∀b row,SqT K H b row->SqT K H' b row):Rows K H' xs T:=⟨h.1,λi row e=>by
 obtain⟨b,e1,e2⟩:=h.2 i row e
 exact⟨b,e1,f _ _ e2⟩⟩
theorem Rows.same (h:Rows K H xs T)(e:Same H H'):Rows K H' xs T:=h.map λ_ _ s=>e.tup s
theorem Rows.put (h:Rows K H xs T)(hl:H l=some (.lst ys)):Rows K (upd H l o) xs T:=h.map λ_ _ s=>aDd s hl
theorem Rows.nil:Rows K H [] []:=⟨rfl,λi row e=>by cases e⟩
theorem Rows.snoc (h:Rows K H xs T)(hb:SqT K H b (r.map V.int)):Rows K H (xs++[.ref b]) (T++[r]):=by
 refine⟨by rw[au,au,h.1];rfl,λi row e=>?_⟩
 by_cases hi:i<T.length
 ·rw[c6 hi] at e
  obtain⟨b',e1,e2⟩:=h.2 i row e
  exact⟨b',by rw[c6 (by rw[h.1];exact hi)];exact e1,e2⟩
 ·rw[cw (by lia)] at e
  have:i - T.length=0:=by
   rcases hk:i - T.length with _ | k
   ·rfl
   ·rw[hk] at e;cases e
  rw[this] at e
  cases e
  exact⟨b,by rw[cw (by rw[h.1];lia),h.1,this];rfl,hb⟩
theorem Rows.sh (h:Rows K H xs T)(hl:SqL K H l xs):Sh K H (.lst (T.map λr=>Dt.tup (r.map Dt.int))) (.ref l):=⟨l,xs,rfl,hl,ShL.of_rows h.1 h.2⟩
theorem aEU (T:List (List Int)):dep (.lst (T.map λr=>Dt.tup (r.map Dt.int)))<=100:=by
 have hi:∀r:List Int,vJ (r.map Dt.int)=0:=λr=>by
  induction r with
  |nil=>rfl
  |cons a r ih=>rw[cf,vJ,ih];rfl
 have:∀T:List (List Int),vJ (T.map λr=>Dt.tup (r.map Dt.int))<=1:=λT=>by
  induction T with
  |nil=>decide
  |cons r T ih=>rw[cf,vJ,dep,hi];lia
 have:=this T
 rw[dep]
 lia
end L2
namespace L2
open PySem PySem.Spec PyProof.Rows
theorem aEm {E: Value->Shared->Prop}{s: Shared}{b: Bool}{z it l: Addr}{k: Nat}{us: Array Value}{x u: Value}{Q: Value->Shared->Prop}(hne:z≠it)(hz:BB s.heap z it k u)(h1:ItAt b s.heap it l k)(o1:ObAt b s.heap l us)(hx:us[k]?=some x)(q:∀h',IsEnumOut h' z it ((k:Int)+1) x s.heap.objs.size->ItAt b h' it l (k+1)->h'.get? s.heap.objs.size=some { cls := .type "tuple",data := .seq #[.int k s.toks,x] }->h'.objs.size=s.heap.objs.size+1->(∀c o,c≠z->c≠it->s.heap.get? c=some o->h'.get? c=some o)->Q (.ref s.heap.objs.size) { s with heap:=h',toks:=s.toks+1 }):
  wpAny (model prog w) A (Builtin.«enumerate.__next__» ⟨[.ref z],[]⟩) (λfin s'=>∃r,fin = .done (.ret r)/\Q r s') E s:=by
 show wpAny _ _ (field (.ref z) 2 >>= _) _ _ _;refine af (ib hz rfl (x := .ref it) rfl (af (nZ (b:=b) h1 o1 hx λH1 t1 s1=>?g)))
 case g=>
 have z1:BB H1 z it k u:=s1.extBut _ _ hne hz
 show wpAny _ _ (field (.ref z) 3 >>= _) _ _ _;refine af (ib z1 rfl (x:=me k) rfl ?g)
 case g=>
 show wpAny _ _ (field (.ref z) 4 >>= _) _ _ _;refine af (ib z1 rfl (x := .none) rfl ?g)
 case g=>
 show wpAny _ _ (mkInt k >>= _) _ _ _;refine af (wpAny_mkInt ?g)
 case g=>
 show wpAny _ _ (setField (.ref z) 3 (me ((k:Int)+1)) >>= _) _ _ _;refine af (ie z1 (by simp) λH2 z2 s2=>?g)
 case g=>
 replace z2:BB H2 z it ((k:Int)+1) u:=z2
 show wpAny _ _ (setField (.ref z) 4 .none >>= _) _ _ _;refine af (ie z2 (by simp) λH3 z3 s3=>?g)
 case g=>
 replace z3:BB H3 z it ((k:Int)+1) u:=z3
 show wpAny _ _ (newTuple [.int k s.toks,x] >>= _) _ _ _;refine af (w9 ?g)
 case g=>
 have sz:H3.objs.size=s.heap.objs.size:=by rw[s3.1,s2.1,s1.1]
 have z4:BB (H3.push { cls := .type "tuple",data := .seq #[.int k s.toks,x] }) z it ((k:Int)+1) u:=ak _ z3
 have lz:z<H3.objs.size:=bu z3
 show wpAny _ _ (gi (.ref z) >>= _) _ _ _;unfold gi;refine af (af (ib z4 rfl (x := .none) rfl (aq ?g)))
 case g=>
 simp only[if_true];refine af (u5 (af (ib z4 rfl (x:=u) rfl (af (ie z4 (by simp) λH5 z5 s5=>?g)))))
 case g=>
 replace z5:BB H5 z it ((k:Int)+1) x:=z5
 show wpAny _ _ (jr (.ref z) (.ref H3.objs.size) >>= _) _ _ _;unfold jr;refine af (af (ie z5 (by simp) λH6 z6 s6=>?g))
 case g=>
 replace z6:IsEnumOut H6 z it ((k:Int)+1) x H3.objs.size:=z6
 refine ie z6 (by simp) λH7 z7 s7=>?g
 case g=>
 replace z7:IsEnumOut H7 z it ((k:Int)+1) x H3.objs.size:=z7
 have up:∀c o,c≠z->H3.get? c=some o->H7.get? c=some o:=λc o n e=>s7.extBut _ _ n (s6.extBut _ _ n (s5.extBut _ _ n (ak _ e)))
 have p7:H7.get? H3.objs.size=some { cls := .type "tuple",data := .seq #[.int k s.toks,x] }:=s7.extBut _ _ (kr lz) (s6.extBut _ _ (kr lz) (s5.extBut _ _ (kr lz) (bp _ rfl)))
 have n7:H7.objs.size=H3.objs.size+1:=by rw[s7.1,s6.1,s5.1,gm]
 rw[sz] at z7 p7 n7
 refine af (qt (aq ⟨_,rfl,(?g:Q (.ref H3.objs.size) _)⟩))
 case g=>
 rw[sz]
 refine q H7 z7 (t1.keep λo e=>up _ o hne.symm (s3.extBut _ _ hne.symm (s2.extBut _ _ hne.symm e))) p7 n7 λc o n m e=>up c o n (s3.extBut _ _ n (s2.extBut _ _ n (s1.extBut _ _ m e)))
theorem aHl {s: Shared}{b: Bool}{z it l: Addr}{k: Nat}{us: Array Value}{u: Value}(hh:A.handled=none)(hz:BB s.heap z it k u)(h1:ItAt b s.heap it l k)(o1:ObAt b s.heap l us)(hx:us[k]?=none)(q:∀h' e,AB it s.heap h'->(∃o,h'.get? e=some o/\o.cls = .type "StopIteration")->E (.ref e) { s with heap:=h' }):
  wpAny (model prog w) A (Builtin.«enumerate.__next__» ⟨[.ref z],[]⟩) Q E s:=by
 show wpAny _ _ (field (.ref z) 2 >>= _) _ _ _
 exact af (ib hz rfl (x := .ref it) rfl (af (aAc (b:=b) hh h1 o1 hx q)))
def Ite (K : aa)(b : Bool)(l : Addr):It :=
  ⟨λi H => ∃xs x, SqB b K H l xs /\ xs[i]? = some x,
   λi H v H' => ∃p x, v = .ref p /\ H p = none /\ H' = upd H p (.tup [.int (i : Int), x]) /\ ∀xs, SqB b K H l xs -> xs[i]? = some x,
   λi H => ∃xs, SqB b K H l xs /\ xs.length <= i⟩
def eTn (b:Bool)(z it l:Addr)(i:Nat)(h:Heap):Prop:=(∃u,BB h z it i u)/\ItAt b h it l i
theorem aDZ {K: aa}{es: List Expr}{k: Nat}{pos: Pos}{b: Bool}{z it l: Addr}(hne:z≠it):
  aIp P w K (.Tuple es k pos) (Ite K b l) [z,it] z (eTn b z it l) where
 mem:=by simp
 obj:=λi h ⟨⟨u,h1⟩,⟨o2,h2,_,d2⟩⟩ c hb=>by
  simp only[bq,j7,or_false] at hb
  rcases hb with rfl | rfl
  ·exact⟨_,h1,λv q=>by cases q⟩
  ·exact⟨_,h2,λv q=>by rw[d2] at q;cases q⟩
 keep:=λi h h' ⟨⟨u,h1⟩,h2⟩ kp=>⟨⟨u,kp z (by simp) _ h1⟩,h2.keep λo e=>kp it (by simp) o e⟩
 item:=by
  intro X hP hw hK hc i pins s σ H E I hf st hg
  subst hP hw hK
  obtain⟨⟨u0,h1⟩,h2⟩:=st
  obtain⟨xs,x,q1,hx⟩:=hg
  obtain⟨us,r1,o1,z1⟩:=I.obAt q1
  obtain⟨ux,hux,rx⟩:=r1.get hx
  have hT:s.TypeIs (.ref z) "enumerate":=⟨_,h1,rfl⟩
  unfold u9
  refine af (sa (gh (name:=lr "__next__") hT o8 (gf o8 hT yu (aEm hne h1 h2 o1 (by simpa using hux) λh' g1 g2 g3 g4 kp=>aq ⟨_,rfl,?g⟩) (yf _))))
  case g=>
  refine wpAny_letOwnedTupleGo_enum (s:={ s with heap:=h',toks:=s.toks+1 }) g1 λh2' g1' sb=>?g
  case g=>
  have lt:∀c∈[z,it],c<s.heap.objs.size:=λc hb=>by
   simp only[bq,j7,or_false] at hb
   rcases hb with rfl | rfl
   ·exact bu h1
   ·exact h2.lt
  have kb:∀c o,c∉[z,it]->s.heap.get? c=some o->h'.get? c=some o:=λc o n e=>kp c o (λq=>n (by simp[q])) (λq=>n (by simp[q])) e
  have hn:H s.heap.objs.size=none:=I.hok.fresh (bc _)
  have I1:Inv X pins σ (upd H s.heap.objs.size (.tup [.int (i:Int),x])) { s with heap:=s.heap.push { cls := .type "tuple",data := .seq #[.int i s.toks,ux] },toks:=s.toks+1 }:=
   I.laid (t':=s.toks+1) (λc o e=>ak _ e) (bc _) (show ObjOk X.prog X.w _ _ _ (.tup [.int (i:Int),x]) from⟨show 2<=bx by decide,[.int i s.toks,ux], .cons ⟨_,rfl⟩ (.cons rx .nil),TupN.new _ _⟩)
  have hf1:∀c∈[z,it],zI X pins (upd H s.heap.objs.size (.tup [.int (i:Int),x])) c:=λc hb=>by
   obtain⟨f0,f⟩:=hf c hb
   exact⟨by rw[aK (dt (lt c hb))];exact f0,f⟩
  have I2:Inv X pins σ (upd H s.heap.objs.size (.tup [.int (i:Int),x])) { s with heap:=h',toks:=s.toks+1 }:=I1.turnedL (t':=s.toks+1) hf1 λc o nb e=>by
   rcases Aj e with⟨eb,eo⟩ | e
   ·subst eb;subst eo
    exact g3
   ·exact kb c o nb e
  have I3:Inv X pins σ (upd H s.heap.objs.size (.tup [.int (i:Int),x])) { s with heap:=h2',toks:=s.toks+1 }:=I2.turnedL (t':=s.toks+1) hf1 λc o nb e=>sb.extBut _ _ (λq=>nb (by simp[q])) e
  exact⟨.ref s.heap.objs.size,_,I3,rfl,⟨_,x,rfl,hn,rfl,λxs' e=>by rw[I.sqB_inj e q1];exact hx⟩,
   ⟨⟨_,by simpa using g1'⟩,g2.keep λo e=>sb.extBut _ _ hne.symm e⟩,λc hb=>(hf1 c hb).1⟩
 done:=by
  intro X hP hw hK hc i pins s σ H E I hf st hg
  subst hP hw hK
  obtain⟨⟨u0,h1⟩,h2⟩:=st
  obtain⟨xs,q1,hl⟩:=hg
  obtain⟨us,r1,o1,z1⟩:=I.obAt q1
  have l1':=r1.length
  have hT:s.TypeIs (.ref z) "enumerate":=⟨_,h1,rfl⟩
  unfold u9
  refine af (sa (gh (name:=lr "__next__") hT o8 (gf o8 hT yu (aHl (I.ok.hd hc) h1 h2 o1 (by simp;lia) λh' e kp ⟨o,e1,e2⟩=>?g) (yf _))))
  case g=>
  refine af (ue (T:="StopIteration") (b:=true) ⟨o,e1,e2⟩ As (aq ⟨rfl,?g⟩))
  case g=>
  exact I.turnedL (t':=s.toks) hf λc o n e=>kp c o (λq=>n (by simp[q])) e
 self:=λ_ _ _ _ _ st q=>let⟨⟨_,h1⟩,_⟩:=st;wpAny_pyIter_enum h1 q
abbrev eH (h:Heap)(b:Bool)(l:Addr):Heap:=(h.push (itO b l)).push { cls := .type "enumerate",data := .fields #[.none, .bool false, .ref h.objs.size,me 0, .none, .none] }
theorem aGP (b:Bool)(l:Addr)(xs:Array Value)(o:Obj):
  Meets (Builtin.«enumerate.__new__» ⟨[.type "enumerate", .ref l],[]⟩) (λ_ R s=>s.heap.get? l=some o/\ObAt b s.heap l xs/\R (.ok (.ret (.ref (s.heap.push (itO b l)).objs.size))) { s with heap:=eH s.heap b l }):=
 .of_wp λprog w A R s h=>by
  obtain⟨s1,s2,s3,s4,s5⟩:=s
  obtain⟨m0,m1,q⟩:=h
  have hsub:=sub_enumerate
  have n1:ObAt b (BA ⟨s1,s2,s3,s4,s5⟩) l xs:=m1
  wp_walk using kg m0
  refine wpAny_stack_any λst=>aq ?_
  split
  ·rename_i cc _ _ _ _ _
   cases (cc == Value.type "enumerate") <;>
   ·wp_walk using kg m0,nW n1
    exact⟨_,rfl,q⟩
  ·wp_walk using kg m0,nW n1
   exact⟨_,rfl,q⟩
theorem aDk {s: Shared}{b: Bool}{l: Addr}{xs: Array Value}(o1:ObAt b s.heap l xs)(q:∀h',eTn b (s.heap.objs.size+1) s.heap.objs.size l 0 h'->(∀c o,s.heap.get? c=some o->h'.get? c=some o)->Q (.ref (s.heap.objs.size+1)) { s with heap:=h' }):
  wpAny (model prog w) A (call (.type "enumerate") [.ref l]) Q E s:=by
 obtain⟨o,e0,ec,n,ed⟩:=id o1
 refine callType_new F.called_enumerate (by decide) (F.typeCall_enumerate_1 _) (F.newCall_enumerate_1 _) (λob=>F.args_object_init_2 ob _) F.entry_enumerate_new (aGP b l xs o) ⟨e0,o1,?g⟩
 case g=>
 have z1:(s.heap.push (itO b l)).objs.size=s.heap.objs.size+1:=gm ..
 have g2:(eH s.heap b l).get? (s.heap.push (itO b l)).objs.size=some _:=bp _ rfl
 have g1:(eH s.heap b l).get? s.heap.objs.size=some _:=ak _ (bp _ rfl)
 rw[z1] at g2
 show _/\_
 rw[z1]
 exact⟨⟨_,g2,rfl⟩,q _ ⟨⟨_,g2⟩,⟨_,g1,rfl,rfl⟩⟩ λc o x=>ak _ (ak _ x)⟩
def zS (K:aa)(ta:TA):TI:=λσ H R=>ta σ H λvs H1=>∃l b,vs=[.ref l]/\(∃xs,SqB b K H1 l xs)/\R (Ite K b l) H1
theorem xB:fz "enumerate" = some (.type "enumerate"):=by decide+kernel
theorem aIR (hg:Gl X "enumerate")(hm:X.mg "enumerate" = none)(ha:PA X [a] ta)(hs:ft [a] X.env=[(false,eval a X.env)]:=by rfl):
  PI X (.Tuple es k po) (.Call (.Name "enumerate" p) [a] [] pos) (zS X.K ta):=by
 intro pins s σ H R I h
 refine Call_ (oN I hg hm xB (j4 (thn (ha pos pins s σ H _ I h) λus s1 ⟨vs,H1,I1,r1,q1⟩=>?g) hs rfl))
 case g=>
 obtain⟨l,b,e,⟨xs,q2⟩,q⟩:=q1
 subst e
 obtain⟨u1,rfl,e1⟩:=yG r1
 obtain rfl:u1=Value.ref l:=e1
 obtain⟨x1,v1,o1,_⟩:=I1.obAt q2
 refine aDk o1 λh' zt kp=>?g
 case g=>
 obtain⟨⟨u0,zt1⟩,zt2⟩:=id zt
 refine wpAny_pyIter_enum (s:={ s1 with heap:=h' }) zt1 ?g
 case g=>
 refine⟨_,[s1.heap.objs.size+1,s1.heap.objs.size],_,_,H1,rfl,I1.kept (t':=s1.toks) kp,aDZ (kr (k9 _)),zt,λc hb=>?g,q⟩
 case g=>
 have lb:s1.heap.objs.size<=c:=by
  simp only[bq,j7,or_false] at hb
  rcases hb with rfl | rfl <;> first | exact jt _ _ | exact bc _
 exact I1.fpOk lb (I1.hok.fresh lb)
theorem uE {K: aa}{es: List Expr}{k: Nat}{po: Pos}{a: Expr}{ta: TA}{p pos: Pos}(hK:X.K=K)(hg:Gl X "enumerate")(hm:X.mg "enumerate" = none)(ha:PA X [a] ta)(hs:ft [a] X.env=[(false,eval a X.env)]:=by rfl):
  PI X (.Tuple es k po) (.Call (.Name "enumerate" p) [a] [] pos) (zS K ta):=by subst hK;exact aIR hg hm ha hs
theorem nT {K: aa}{b: Bool}{l: Addr}{xs: List V}{g: TG}{tb: TS}{D: vS}{σ: St}{H: Hp}(Pv:Nat->St->Hp->Prop)(h0:Pv 0 σ H)(hl:∀i σ H,i<=xs.length->Pv i σ H->SqB b K H l xs)(hs:∀i x σ H p,xs[i]?=some x->H p=none->Pv i σ H->g (.ref p) σ (upd H p (.tup [.int (i:Int),x])) λσ2 H2=>tb { D with nx:=Pv (i+1),ct:=Pv (i+1),bk:=D.nx } σ2 H2)(hd:∀σ H,Pv xs.length σ H->D.nx σ H):
  cX (Ite K b l) g tb D σ H:=by
 refine⟨λi m σ H=>m=xs.length - i/\i<=xs.length/\Pv i σ H,⟨xs.length,by simp,bg _,h0⟩,?g⟩
 case g=>
 rintro i m σ H ⟨rfl,hi,p⟩
 have q1:=hl i σ H hi p
 by_cases hlt:i<xs.length
 ·refine .inr ⟨⟨xs,xs[i],q1,by simp[hlt]⟩,Pv (i+1),λσ' H' p'=>⟨xs.length - (i+1),by lia,rfl,hlt,p'⟩,λv H' ⟨a,x,e1,e2,e3,e4⟩=>?g⟩
  case g=>
  subst e1;subst e3
  exact hs i x σ H a (e4 xs q1) e2 p
 ·obtain rfl:i=xs.length:=by lia
  exact .inl ⟨⟨xs,q1,bc _⟩,hd σ H p⟩
theorem aDB {K: aa}{vars: List Nat}{tb: TS}{acc l: Addr}{b: Bool}{σ: St}{H: Hp}{xs: List V}{j k: Nat}{L: Nat->List V}(hj:j∈vars)(hk:k∈vars)(hjk:k≠j)(hjl:j<σ.length)(hkl:k<σ.length)(hs:∀H',SameX acc H H'->SqB b K H' l xs)(h:∀(i:Nat) (x:V) σ' H',xs[i]?=some x->σ'.length=σ.length->Agree vars σ σ'->σ'[j]?=some (some (.int (i:Int)))->σ'[k]?=some (some x)->SameX acc H H'->(∃pre,H' acc=some (.lst pre))->Emits vars tb acc σ' H' (L i)):
  Emits vars (cX (Ite K b l) (gE K 2 (aR (aE j) (aR (aE k) gX))) tb) acc σ H ((ao xs.length).flatMap L):=by
 intro D pre ha hz hd
 refine nT (K:=K) (xs:=xs) (D:=D) (λi σ' H'=>i<=xs.length/\σ'.length=σ.length/\Agree vars σ σ'/\SameX acc H H'/\H' acc=some (.lst (pre++(ao i).flatMap L))) ⟨bg _,rfl,Agree.refl _ _,SameX.refl _ _,by simpa using ha⟩ (λi σ1 H1 _ ⟨_,_,_,sx1,_⟩=>hs H1 sx1) (λi x σ1 H1 p hx hp ⟨_,hl1,ag1,sx1,e1⟩=>?_) λσ1 H1 ⟨_,hl1,ag1,sx1,e1⟩=>hd σ1 H1 hl1 ag1 sx1 e1
 have hi:i<xs.length:=(ai.mp hx).1
 have hle:=bD L (show i+1<=xs.length from hi)
 rw[aI,au] at hle
 have sp:Same H1 (upd H1 p (.tup [.int (i:Int),x])):=aD hp _
 have e2:=sp _ _ e1
 refine⟨p,[.int (i:Int),x],rfl, .of aA,rfl, .int (i:Int),[x],rfl,x,[],rfl,rfl,?_⟩
 have ag2:Agree vars σ ((σ1.set j (some (.int (i:Int)))).set k (some x)):=(ag1.trans (Agree.set hj _)).trans (Agree.set hk _)
 refine h i x ((σ1.set j (some (.int (i:Int)))).set k (some x)) (upd H1 p (.tup [.int (i:Int),x])) hx (by rw[c8,c8];exact hl1) ag2 ?_ (cS (by rw[c8];lia)) (sx1.trans sp.x) ⟨_,e2⟩ _ _ e2 (by rw[au];lia) λσ' H' hl ag sx h2=>⟨hi,(hl.trans (by rw[c8,c8])).trans hl1,ag2.trans ag,(sx1.trans sp.x).trans sx,by rw[h2,aI,gq]⟩
 rw[fk hjk]
 exact cS (by lia)
end L2
namespace L2
open PySem
theorem aHo (ha:PE X (.Constant c k p) te)(hr:PA X es t):PA X (.Constant c k p :: es) (aB te t):=dE ha hr
theorem bJ (ha:PE X (.Name n p) te)(hr:PA X es t):PA X (.Name n p :: es) (aB te t):=dE ha hr
theorem aBC (ha:PE X (.Tuple l k p) te)(hr:PA X es t):PA X (.Tuple l k p :: es) (aB te t):=dE ha hr
theorem aGh (ha:PE X (.BinOp a o b p) te)(hr:PA X es t):PA X (.BinOp a o b p :: es) (aB te t):=dE ha hr
theorem aHs (ha:PE X (.UnaryOp o a p) te)(hr:PA X es t):PA X (.UnaryOp o a p :: es) (aB te t):=dE ha hr
theorem jQ (ha:PE X (.Subscript a b p) te)(hr:PA X es t):PA X (.Subscript a b p :: es) (aB te t):=dE ha hr
theorem gO (ha:PE X (.Call a l kw p) te)(hr:PA X es t):PA X (.Call a l kw p :: es) (aB te t):=dE ha hr
mutual
def aPu:Dt->Bool
 | .tup ds=>decide (ds.length<64) && aKn ds
 | .lst ds=>aKn ds
 |_=>true
def aKn:List Dt->Bool
 |[]=>true
 |d :: ds=>aPu d && aKn ds
end
theorem aBr {c: Int}{n k: Nat}{H: Hp}(h:1<=n)(e:c % (n:Int)=(k:Int))(q:Q (.int (k:Int)) H):zD (.int c) (.int (n:Int)) H Q:=⟨_,_,rfl,rfl,by lia,by show Q (.int (c % (n:Int))) H;rw[e];exact q⟩
end L2
namespace L2
open PySem PySem.Spec PyProof.Rows
inductive sY:List (Value×Value)->List (Int×Int)->Prop
 |nil:sY [] []
 |cons (a b:Int) (t u:Tok) {r:List (Value×Value)}{zs:List (Int×Int)}:sY r zs->sY ((.int a t, .int b u) :: r) ((a,b) :: zs)
def aAU (f:Bool):List (Int×Int)->Bool
 |[]=>f
 | (a,b) :: r=>if a=b then aAU f r else decide (a<b)
theorem xJ (h:Q (.bool (decide (a<b))) s):wpAny (model prog w) A (AD .Lt (.int a t) (.int b u)) Q E s:=lt_int h
theorem aEs (l b:Addr)(us vs:Array Value)(n n2:Nat)(dd dd2:Option Addr)(sl sl2:Array (Option Value))(zs:List (Int×Int))(hz:sY (us.toList.zip vs.toList) zs):
  Meets (Builtin.«tuple.__lt__» ⟨[.ref l, .ref b],[]⟩)
   (λ_ R s=>s.heap.get? l=some { cls := .type "tuple",dict:=dd,data := .seq us n,slots:=sl }/\s.heap.get? b=some { cls := .type "tuple",dict:=dd2,data := .seq vs n2,slots:=sl2 }/\R (.ok (.ret (.bool (aAU (decide (us.size<vs.size)) zs)))) s):=
 .of_wp λprog w A R s h=>by
  obtain⟨s1,s2,s3,s4,s5⟩:=s
  obtain⟨gl,gb,h⟩:=h
  have f2:=AutoSeq1.sub_tuple_tuple
  wp_walk using kg gl,kg gb,uf _ (λrest b s'=>b.1=none/\s'=⟨s1,s2,s3,s4,s5⟩/\∃ys,sY rest ys/\R (.ok (.ret (.bool (aAU (decide (us.size<vs.size)) ys)))) ⟨s1,s2,s3,s4,s5⟩) _
  case turn=>
   rintro⟨y,x⟩ rest b s' ⟨hb',rfl,ys,hy,hR⟩
   cases hy with
   |cons p q t u hr=>
    refine af (wpAny_eqBool_int ?_)
    by_cases e:p=q
    ·rw[show(p == q)=true by simpa using e]
     rw[aAU,if_pos e] at hR
     wp_walk
     exact⟨rfl,rfl,_,hr,hR⟩
    ·rw[show(p == q)=false by simpa using e]
     rw[aAU,if_neg e] at hR
     wp_walk using xJ
     exact⟨_,rfl,hR⟩
  case fin=>
   rintro⟨b1,b2⟩ s' ⟨hb',rfl,ys,hy,hR⟩
   simp only at hb'
   subst hb'
   cases hy
   wp_walk
   exact⟨_,rfl,hR⟩
  case h=>
   exact⟨rfl,rfl,zs,hz,h⟩
def aOd (prog:Program)(w:World)(A:Around)(kp:Heap->Prop)(P:Nat->Value->Prop)(bt:Nat->Nat->Bool):Prop:=
 ∀i j x y (s:Shared) (Q:Value->Shared->Prop) (E:Value->Shared->Prop),kp s.heap->P i x->P j y->Q (.bool (bt i j)) s->wpAny (model prog w) A (AD .Lt x y) Q E s
def Kp (kp:Heap->Prop)(wr:List Addr)(z:Addr):Prop:=∀h h',kp h->(∀b o,b∉wr->b≠z->h.get? b=some o->h'.get? b=some o)->kp h'
theorem aPl {R: BH->Shared->Prop}{It: Addr}{fp wr: List Addr}{n: Nat}{St: Nat->Heap->Prop}(W:Walks prog w A.in1 It fp wr n P St)(bt:Nat->Nat->Bool){kp: Heap->Prop}(z:Addr)(hz:z∉fp)(kk:Kp kp wr z)(hc:aOd prog w A.in1 kp P bt):
  ∀(k j:Nat) (s:Shared) (x:Value) (c:Nat),n - (j+1)=k->j+1<=n->kp s.heap->St (j+1) s.heap->P (oq bt j) x->s.heap.get? z=some { cls := .type "list",dict:=none,data := .seq #[x,x] c,slots:=#[] } ->
  (∀v h' tk,P (oq bt (n - 1)) v->(∀b o,b∉wr->b≠z->s.heap.get? b=some o->h'.get? b=some o)->R (.ok (.ret v)) { s with heap:=h',toks:=tk }) ->
  wz (model prog w) A (.builtin "min.loop" ⟨[.ref It, .none, .ref z],[]⟩) R s:=by
 have zw:z∉wr:=λh=>hz (W.sub _ h)
 have nm:(AY "min" ++ AY ".loop" : String)="min.loop":=by decide
 intro k
 induction k with
 |zero=>
  intro j s x c hk hj kp0 st px gz hR
  have en:j+1=n:=by lia
  refine jq yp ?g
  case g=>
  rw[jk la _];show wpAny _ A.in1 (AX (.ref z) >>= _) _ _ s;refine af (jh gz rfl ?g)
  case g=>
  show wpAny _ A.in1 (tryCatch (u9 (.ref It)) _ >>= _) _ _ s;refine af (xb (W.done s _ _ (en ▸ st) λh' tk kh=>?g))
  case g=>
  show wpAny _ A.in1 (updateSeq z (λ_=>#[]) >>= _) _ _ _;refine af (zx (kh z _ zw gz) rfl (af (qt (aq ?g))))
  case g=>
  exact hR x _ tk (by rw[<- en];exact px) λb o bw bz e=>(ky _ _ (gy bz)).trans (kh b o bw e)
 |succ k ih=>
  intro j s x c hk hj kp0 st px gz hR
  have lt:j+1<n:=by lia
  refine jq yp ?g
  case g=>
  rw[jk la _];show wpAny _ A.in1 (AX (.ref z) >>= _) _ _ s;refine af (jh gz rfl ?g)
  case g=>
  show wpAny _ A.in1 (tryCatch (u9 (.ref It)) _ >>= _) _ _ s;refine af (xb (W.item (j+1) s _ _ lt st λv h' tk pv st' kh=>?g))
  case g=>
  have gz':=kh z _ zw gz
  have kp1:kp h':=kk _ _ kp0 λb o bw _ e=>kh b o bw e
  show wpAny _ A.in1 (tryCatch (yx [v,v] (AD .Lt v x >>= _)) _ >>= _) _ _ _;refine af (xb (gj (af (hc (j+1) (oq bt j) v x _ _ _ kp1 pv px ?g))))
  case g=>
  refine af (gj (ia (af (qt (aq ?g)))))
  case g=>
  cases hb:bt (j+1) (oq bt j) with
  |true=>
   simp only[if_true];refine af (zx gz' rfl (af (qt ?g)))
   case g=>
   have up:∀b o,b≠z->h'.get? b=some o->(h'.update z (i4 λ_=>#[v,v])).get? b=some o:=λb o bz e=>(ky _ _ (gy bz)).trans e
   rw[nm];refine aq ⟨qe la _,ih (j+1) _ v _ (by lia) lt (kk _ _ kp1 λb o _ bz e=>up b o bz e) (W.frame _ _ _ st' λb bf o e=>up b o (λq=>hz (by rw[<- q];exact bf)) e) (by simp only[oq,hb,if_true];exact pv) (je _ gz' rfl) λv' h2 tk2 pv' kh2=>?g⟩
   case g=>
   exact hR v' h2 tk2 pv' λb o bw bz e=>kh2 b o bw bz (up b o bz (kh b o bw e))
  |false=>
   simp only[gc,if_false];refine af (qt ?g)
   case g=>
   rw[nm];refine aq ⟨qe la _,ih (j+1) _ x c (by lia) lt kp1 st' (by simp only[oq,hb,gc,if_false];exact px) gz' λv' h2 tk2 pv' kh2=>?g⟩
   case g=>
   exact hR v' h2 tk2 pv' λb o bw bz e=>kh2 b o bw bz (kh b o bw e)
theorem aPd {R: BH->Shared->Prop}{It: Addr}{fp wr: List Addr}{n: Nat}{St: Nat->Heap->Prop}(W:Walks prog w A.in1 It fp wr n P St)(bt:Nat->Nat->Bool){kp: Heap->Prop}(z:Addr)(hz:z∉fp)(kk:Kp kp wr z)(hc:aOd prog w A.in1 kp P bt)(hn:0<n){s: Shared}{c: Nat}(kp0:kp s.heap)(st:St 0 s.heap)(gz:s.heap.get? z=some { cls := .type "list",dict:=none,data := .seq #[] c,slots:=#[] })(hR:∀v h' tk,P (oq bt (n - 1)) v->(∀b o,b∉wr->b≠z->s.heap.get? b=some o->h'.get? b=some o)->R (.ok (.ret v)) { s with heap:=h',toks:=tk }):
  wz (model prog w) A (.builtin "min.loop" ⟨[.ref It, .none, .ref z],[]⟩) R s:=by
 have zw:z∉wr:=λh=>hz (W.sub _ h)
 have nm:(AY "min" ++ AY ".loop" : String)="min.loop":=by decide
 refine jq yp ?g
 case g=>
 rw[jk la _];show wpAny _ A.in1 (AX (.ref z) >>= _) _ _ s;refine af (jh gz rfl ?g)
 case g=>
 show wpAny _ A.in1 (tryCatch (u9 (.ref It)) _ >>= _) _ _ s;refine af (xb (W.item 0 s _ _ hn st λv h' tk pv st' kh=>?g))
 case g=>
 have gz':=kh z _ zw gz
 have kp1:kp h':=kk _ _ kp0 λb o bw _ e=>kh b o bw e
 have up:∀b o,b≠z->h'.get? b=some o->(h'.update z (i4 λ_=>#[v,v])).get? b=some o:=λb o bz e=>(ky _ _ (gy bz)).trans e
 show wpAny _ A.in1 (updateSeq z (λ_=>#[v,v]) >>= _) _ _ _;refine af (zx gz' rfl ?g)
 case g=>
 rw[nm];refine aq ⟨qe la _,aPl W bt z hz kk hc _ 0 _ v _ rfl hn (kk _ _ kp1 λb o _ bz e=>up b o bz e) (W.frame _ _ _ st' λb bf o e=>up b o (λq=>hz (by rw[<- q];exact bf)) e) pv (je _ gz' rfl) λv' h2 tk2 pv' kh2=>?g⟩
 case g=>
 exact hR v' h2 tk2 pv' λb o bw bz e=>kh2 b o bw bz (up b o bz (kh b o bw e))
theorem aBV (h:wpAny (model prog w) A.in1 (Bj x) (λit s₂=>∃It fp wr n P St bt,∃kp:Heap->Prop,it = .ref It/\Walks prog w A.in1 It fp wr n P St/\St 0 s₂.heap/\(∀b∈fp,b<s₂.heap.objs.size)/\0<n/\kp s₂.heap/\(∀z,s₂.heap.objs.size<=z->Kp kp wr z)/\aOd prog w A.in1 kp P bt /\
   ∀v h' tk,P (oq bt (n - 1)) v->(∀b o,b∉wr->s₂.heap.get? b=some o->h'.get? b=some o)->Q v { s₂ with heap:=h',toks:=tk }) E s):
  wpAny (model prog w) A (call (.builtin "min") [x]) Q E s:=by
 have nm:(AY "min" ++ AY ".loop" : String)="min.loop":=by decide
 refine call_function_tree F.kind_min F.plain_min F.entry_min (F.args_min1 _) ?g
 case g=>
 show wpAny _ A.in1 (vn "min" ["key","default"] 0 ⟨[],[]⟩ >>= _) _ _ s;refine af (vf (show vn "min" ["key","default"] 0 ⟨[],[]⟩=pure [none,none] from rfl) (af (aq (af (i9 h (λit s2 h2=>?g) λ_ _ e=>e)))))
 case g=>
 obtain⟨It,fp,wr,n,P,St,bt,kp,rfl,W,st,hf,hn,kp0,kk,hc,hQ⟩:=h2
 refine af (gn ?g)
 case g=>
 have zf:s2.heap.objs.size∉fp:=λm=>kn _ (hf _ m)
 have kz:=kk s2.heap.objs.size (bc _)
 rw[nm];refine aq ⟨qe la _,aPd W bt s2.heap.objs.size zf kz hc hn (kz _ _ kp0 λb o _ _ e=>ak _ e) (W.frame _ _ _ st λb _ o e=>ak _ e) (bp _ rfl) λv h' tk pv kh=>?g⟩
 case g=>
 exact hQ v h' tk pv λb o bw e=>kh b o bw (dt (bu e)) (ak _ e)
def lexL:List Int->List Int->Bool
 |[],[]=>false
 |[],_ :: _=>true
 |_ :: _,[]=>false
 |a :: r,b :: q=>if a=b then lexL r q else decide (a<b)
theorem aAm:∀(ns ms:List Int),aAU (decide (ns.length<ms.length)) (ns.zip ms)=lexL ns ms
 |[],[]=>rfl
 |[],m :: ms=>by simp[aAU,lexL]
 |n :: ns,[]=>by simp[aAU,lexL]
 |n :: ns,m :: ms=>by
  rw[wm,aAU,lexL,<- aAm ns ms]
  have:decide ((n :: ns).length<(m :: ms).length)=decide (ns.length<ms.length):=by
   by_cases h:ns.length<ms.length <;> simp[h]
  rw[this]
theorem gP:∀ns:List Int,lexL ns ns=false
 |[]=>rfl
 |n :: ns=>by rw[lexL,if_pos rfl];exact gP ns
theorem gN:∀{a b c:List Int},lexL a b=true->lexL b c=true->lexL a c=true
 |[],[],_,h,_=>by cases h
 |[],_ :: _,[],_,h=>by cases h
 |[],_ :: _,_ :: _,_,_=>rfl
 |_ :: _,[],_,h,_=>by cases h
 |_ :: _,_ :: _,[],_,h=>by cases h
 |x :: a,y :: b,z :: c,h1,h2=>by
  rw[lexL] at h1 h2 ⊢
  by_cases e1:x=y <;> by_cases e2:y=z
  ·subst e1 e2
   rw[if_pos rfl] at h1 h2 ⊢
   exact gN h1 h2
  ·subst e1
   rw[if_neg e2] at h2 ⊢
   exact h2
  ·subst e2
   rw[if_neg e1] at h1 ⊢
   exact h1
  ·rw[if_neg e1] at h1
   rw[if_neg e2] at h2
   have g1:=of_decide_eq_true h1
   have g2:=of_decide_eq_true h2
   rw[if_neg (by lia)]
   exact decide_eq_true (by lia)
theorem iL {bt: Nat->Nat->Bool}(irr:∀i,bt i i=false)(tr:∀i j k,bt i j=true->bt j k=true->bt i k=true):∀k j,j<=k->bt j (oq bt k)=false
 |0,j,h=>by
  obtain rfl:j=0:=by lia
  exact irr 0
 |k+1,j,h=>by
  unfold oq
  by_cases c:bt (k+1) (oq bt k)=true
  ·rw[if_pos c]
   by_cases e:j=k+1
   ·subst e;exact irr _
   ·refine Bool.eq_false_iff.mpr λq=>?_
    have:=iL irr tr k j (by lia)
    rw[tr _ _ _ q c] at this
    cases this
  ·rw[if_neg c]
   by_cases e:j=k+1
   ·subst e;simpa using c
   ·exact iL irr tr k j (by lia)
theorem aIc:∀{ns ms:List Int}{us vs:List Value},IntsAre us ns->IntsAre vs ms->sY (us.zip vs) (ns.zip ms)
 |[],_,_,_,h,_=>by cases h;exact .nil
 |_ :: _,[],_,_,h,g=>by cases g;cases h;exact .nil
 |n :: ns,m :: ms,_,_,h,g=>by
  cases h with
  |cons _ t h=>
   cases g with
   |cons _ u g=>exact .cons n m t u (aIc h g)
theorem aDf (hu:A.units<cLine)(ha:IsTup s.heap a us.toArray)(hb:IsTup s.heap b vs.toArray)(h1:IntsAre us ns)(h2:IntsAre vs ms)(q:Q (.bool (lexL ns ms)) s):
  wpAny (model prog w) A (AD .Lt (.ref a) (.ref b)) Q E s:=by
 obtain⟨⟨oc,od,odt,osl⟩,e1,c1,n1,d1⟩:=ha
 obtain⟨⟨pc,pd,pdt,psl⟩,e2,c2,n2,d2⟩:=hb
 subst c1 d1 c2 d2
 refine richCompare_meets_room (op := .Lt) ⟨_,e1,rfl⟩ ⟨_,e2,rfl⟩ F.slot_tuple_lt F.entry_tuple_lt (F.args_tuple_lt_2 _ _) (aEs a b us.toArray vs.toArray n1 n2 od pd osl psl (ns.zip ms) (aIc h1 h2)) ⟨e1,e2,?g⟩ hu
 case g=>
 have l1:=IntsAre.len h1
 have l2:=IntsAre.len h2
 rw[av,av,l1,l2,aAm]
 exact⟨λz=>(by cases z),q⟩
def aJF (K:aa):List V->Hp->VK->Prop:=λvs H Q=>∃(a:Addr) (xs:List V) (T:List (List Int)),vs=[.ref a]/\Sq K H a xs/\Rows K H xs T/\T≠[]/\∀(i:Nat) (b:Addr) (row:List Int),xs[i]?=some (.ref b)->T[i]?=some row->SqT K H b (row.map V.int)->(∀r∈T,lexL r row=false)->Q (.ref b) H
theorem aEI (hr:Room k X.A)(hc:X.calm=true):CallR X (.builtin "min") (aJF X.K):=by
 intro pins s σ H vs us Q I r ⟨a,xs,T,e,hq,hR,hne,q⟩
 subst e
 obtain⟨u,rfl,ru⟩:=r.one
 obtain rfl:u=Value.ref a:=ru
 refine aBV (nY (I.ok.hd hc) I hq λits It fp wr S s2 rv hz W st hf hI=>?g)
 case g=>
 have hl:its.length=T.length:=by rw[<- rv.length,hR.1]
 have hpos:0<T.length:=vg.mpr hne
 have item:∀(i:Nat) (v:Value),its[i]?=some v->∃b row,v = .ref b/\T[i]?=some row/\xs[i]?=some (.ref b)/\SqT X.K H b (row.map V.int):=λi v hv=>by
  obtain⟨x,hx,rx⟩:=rv.getR hv
  have hi:i<T.length:=by rw[<- hR.1];exact(ai.mp hx).1
  obtain⟨b,e1,e2⟩:=hR.2 i _ (ah hi)
  rw[e1] at hx
  cases hx
  exact⟨b,_,rx,ah hi,e1,e2⟩
 refine⟨It,fp,wr,its.length,_,S,λi j=>lexL (T.getD i []) (T.getD j []),λh=>∀b o,b∉wr->s2.heap.get? b=some o->h.get? b=some o,rfl,W,st,hf,by lia,λb o _ e=>e,λz hz0 h h' k1 k2 b o bw e=>k2 b o bw (λq0=>Nat.not_lt.mpr hz0 (q0 ▸ bu e)) (k1 b o bw e),λi j vi vj s' Q' E' kp hi hj hQ'=>?g,λv h' tk hv hk=>?h⟩
 case g=>
  obtain⟨b1,r1,rfl,t1,_,q1⟩:=item i vi hi
  obtain⟨b2,r2,rfl,t2,_,q2⟩:=item j vj hj
  have I':=hI s'.heap s'.toks kp
  obtain⟨us1,v1,p1,_⟩:=I'.tuple q1
  obtain⟨us2,v2,p2,_⟩:=I'.tuple q2
  refine aDf (ns:=r1) (ms:=r2) (us:=us1) (vs:=us2) (by have:=hr.un;show X.A.units+1<cLine;lia) p1 p2 (cD v1) (cD v2) ?g
  case g=>
  have e1:T.getD i []=r1:=by rw[aj,t1];rfl
  have e2:T.getD j []=r2:=by rw[aj,t2];rfl
  have hQ2:Q' (Value.bool (lexL (T.getD i []) (T.getD j []))) s':=hQ'
  rw[e1,e2] at hQ2
  exact hQ2
 case h=>
  obtain⟨b,row,rfl,t1,e1,q1⟩:=item _ v hv
  refine⟨.ref b,H,hI h' tk hk,rfl,q _ b row e1 t1 q1 λr0 hr0=>?g⟩
  case g=>
  obtain⟨j,hj,rfl⟩:=nc hr0
  have:=iL (bt:=λi j=>lexL (T.getD i []) (T.getD j [])) (λi=>gP _) (λi j k=>gN) (its.length - 1) j (by lia)
  have e1:T.getD j []=T[j]:=by rw[aj,ah hj];rfl
  have e2:T.getD (oq (λi j=>lexL (T.getD i []) (T.getD j [])) (its.length - 1)) []=row:=by rw[aj,t1];rfl
  have g:lexL (T.getD j []) (T.getD (oq (λi j=>lexL (T.getD i []) (T.getD j [])) (its.length - 1)) [])=false:=this
  rw[e1,e2] at g
  exact g
theorem aCb {K: aa}{k: Nat}(hK:X.K=K)(hr:Room k X.A)(hc:X.calm=true):CallR X (.builtin "min") (aJF K):=by subst hK;exact aEI hr hc
abbrev aDu (K:aa):List V->Hp->VK->Prop:=λvs H Q=>aOO K vs H Q\/aJF K vs H Q
theorem kD {K: aa}{k: Nat}(hK:X.K=K)(hr:Room k X.A)(hc:X.calm=true):CallR X (.builtin "min") (aDu K):=by
 intro pins s σ H vs us Q I r h
 rcases h with h | h
 ·exact aCQ hK hc pins s σ H vs us Q I r h
 ·exact aCb hK hr hc pins s σ H vs us Q I r h
end L2
namespace L2
open PySem
end L2
namespace L2
open PySem PySem.Spec PyProof.Rows
end L2
namespace L2
open PySem
def aIz:V->List V->Hp->VK->Prop:=λx vs H Q=>∃(l:Addr) (ns:List Int) (i:Int) (j:Nat),x = .ref l/\vs=[.int i]/\H l=some (.lst (ns.map V.int))/\ns[j]?=some i/\(∀m,m<j->ns[m]?≠some i)/\Q .non (upd H l (.lst ((ns.eraseIdx j).map V.int)))
theorem oT {ns: List Int}{its: List Value}(r:Vals (ns.map V.int) its){m: Nat}{y: Value}(h:its[m]?=some y):∃n t,ns[m]?=some n/\y = .int n t:=by
 have hm:m<its.length:=(ai.mp h).1
 have hl:(ns.map V.int).length=its.length:=r.length
 rw[ae] at hl
 have e:ns[m]?=some ns[m]:=ah (by lia)
 obtain⟨u,hu,t,ru⟩:=r.get (i:=m) (x := .int ns[m]) (by rw[aw,e];rfl)
 rw[h] at hu
 cases hu
 exact⟨ns[m],t,e,ru⟩
theorem aEd:∀(ns:List Int) (j:Nat),(ns.map V.int).eraseIdx j=(ns.eraseIdx j).map V.int
 |[],_=>rfl
 |_ :: _,0=>rfl
 |n :: ns,j+1=>by
  show V.int n :: (ns.map V.int).eraseIdx j=V.int n :: (ns.eraseIdx j).map V.int
  rw[aEd ns j]
theorem aIS:MtM X "list.remove" aIz:=by
 intro pins s σ H x vs v us Q I rx rv h
 obtain⟨l,ns,i,j,rfl,rfl,hH,hj,hno,q⟩:=h
 cases rx
 obtain⟨u,rfl,ru⟩:=rv.one
 obtain⟨t,rfl⟩:=ru
 obtain⟨z,its,n,r,hl,e⟩:=I.lstM hH
 have hjn:j<ns.length:=(ai.mp hj).1
 have hlen:its.length=ns.length:=by rw[<- r.length,ae]
 have hji:j<its.length:=by lia
 let f:Value->Bool:=λy=>match y with | .int a _=>a == i | _=>false
 have he:∀y,y∈its.toArray->MeetsSeq.EqGives y (.int i t) (f y):=λy hy=>by
  obtain⟨m,hm⟩:=f6.mp (by simpa using hy:y∈its)
  obtain⟨a,tk,_,rfl⟩:=oT r hm
  exact MeetsSeq.EqGives.int a i tk t
 have at':∀m (hm:m<its.length),∃a tk,ns[m]?=some a/\its[m] = .int a tk:=λm hm=>by
  obtain⟨a,tk,e1,e2⟩:=oT r (ah hm)
  exact⟨a,tk,e1,e2⟩
 refine Bc F.slot_list_remove ⟨_,e,rfl⟩ F.entry_list_remove (F.args_list_remove_2 _ _)
  (MeetsSeq.list_remove l its.toArray n (.int i t) f he j (by rw[av];exact hji) ?_ ?_ (by rw[av];lia)) ⟨e,?_⟩
 ·obtain⟨a,tk,e1,e2⟩:=at' j hji
  rw[hj] at e1
  cases e1
  show f its[j]=true
  rw[e2]
  show(i == i)=true
  simp
 ·intro m hm hmj
  obtain⟨a,tk,e1,e2⟩:=at' m (by rw[av] at hm;exact hm)
  show f its[m]=false
  rw[e2]
  show(a == i)=false
  have:=hno m hmj
  rw[e1] at this
  simp
  intro c
  exact this (by rw[c])
 ·have r':Vals ((ns.eraseIdx j).map V.int) (its.eraseIdx j):=by
   have:=r.eraseIdx j
   rw[show(ns.map V.int).eraseIdx j=(ns.eraseIdx j).map V.int from(aEd ns j)] at this
   exact this
  refine⟨.non,_,I.lset (its':=its.eraseIdx j) hH e ?_ r' ?_,rfl,q⟩
  ·show its.toArray.eraseIdxIfInBounds j=(its.eraseIdx j).toArray
   rw[List.eraseIdxIfInBounds_toArray]
  ·rw[ae,v9 hjn]
   have e3:(ns.map V.int).length=ns.length:=ae ..
   lia
end L2
namespace L2
open PySem PySem.Spec PyProof.Rows
end L2
namespace L2
open PySem
structure aPp (mg:Str->Option Value):Prop extends aPf mg where
 set:mg "set" = none
theorem aMp:fz "set" = some (.type "set"):=by decide+kernel
def aNP (K:aa)(ta:TE):TT:=λσ H Q=>ta σ H λx H'=>∃k,aNC K x H' k/\Q k H'
theorem aJb (hK:X.K=K)(ha:PE X a ta)(he:∀whole,isTrue a X.env whole=(do let v <- whole;Aw a.pos;yx [v] (truthy v))):PT X a (aNP K ta):=by
 subst hK
 exact aGb ha he
structure mG (mg:Str->Option Value):Prop extends aPp mg where
 abs:mg "abs" = none
theorem aLG:fz "abs" = some (.builtin "abs"):=by decide+kernel
def aAd:List V->Hp->VK->Prop:=λxs H Q=>∃i:Int,xs=[.int i]/\Q (.int (if i<0 then -i else i)) H
theorem aEc:CallR X (.builtin "abs") aAd:=aGe
def EmR (K:aa)(vars:List Nat)(tb:TS)(acc:Addr)(σ:St)(H:Hp)(L:List (List Int)):Prop:=
 ∀(D:vS) (pre:List V) (R:List (List Int)),H acc=some (.lst pre)->Rows K H pre R->R.length+L.length<=100000->(∀σ' H' pre',σ'.length=σ.length->Agree vars σ σ'->SameX acc H H'->H' acc=some (.lst pre')->Rows K H' pre' (R++L)->D.nx σ' H')->tb D σ H
theorem EmR.cast (h:EmR K vars tb acc σ H L)(e:L=L'):EmR K vars tb acc σ H L':=e ▸ h
theorem vH (hr:r.length<=100)(h:∀Q:List V->Hp->Prop,Q (r.map V.int) H->ta σ H Q):EmR K vars (bF (fF ta) acc) acc σ H [r]:=by
 intro D pre R ha hR hz hd
 refine h _ ⟨by rw[ae];exact de hr (by decide),λt ht=>?_⟩
 have st:=aD ht (.tup (r.map V.int))
 have ha':=st _ _ ha
 refine⟨pre,ha',bh (show pre.length<=100000 by rw[hR.1];lia) (by decide),?_⟩
 exact hd σ _ _ rfl (Agree.refl _ _) (st.x.trans (SameX.put _)) aA (Rows.snoc (Rows.put (hR.same st) ha') (aDd (.of aA) ha'))
theorem nP (hj:j∈vars)(hjl:j<σ.length)(h:∀i σ' H',i<n->σ'.length=σ.length->Agree vars σ σ'->σ'[j]?=some (some (.int (lo+(i:Int))))->SameX acc H H'->EmR K vars tb acc σ' H' (L i)):
  EmR K vars (cX (Itr lo n) (aE j) tb) acc σ H ((ao n).flatMap L):=by
 intro D pre R ha hR hz hd
 refine bH (lo:=lo) (n:=n) (g:=aE j) (D:=D) (λi σ' H'=>i<=n/\σ'.length=σ.length/\Agree vars σ σ'/\SameX acc H H'/\∃pre',H' acc=some (.lst pre')/\Rows K H' pre' (R++(ao i).flatMap L)) ⟨bg _,rfl,Agree.refl _ _,SameX.refl _ _,pre,ha,by simpa using hR⟩ (λi σ1 H1 hi ⟨_,hl1,ag1,sx1,pre1,h1,r1⟩=>?_) λσ1 H1 ⟨_,hl1,ag1,sx1,pre1,h1,r1⟩=>hd σ1 H1 pre1 hl1 ag1 sx1 h1 r1
 have hle:=bD L (show i+1<=n from hi)
 rw[aI,au] at hle
 refine h i (σ1.set j (some (.int (lo+(i:Int))))) H1 hi (by rw[c8];exact hl1) (ag1.trans (Agree.set hj _)) (cS (by lia)) sx1 _ pre1 _ h1 r1 (by rw[au];lia) λσ' H' pre' hl ag sx h2 r2=>⟨hi,hl.trans ((c8 ..).trans hl1),(ag1.trans (Agree.set hj _)).trans ag,sx1.trans sx,pre',h2,by rw[aI,<- gq];exact r2⟩
theorem aIL (hti:∀R:It->Hp->Prop,R (Itr lo n) H->ti σ H R)(hj:j∈vars)(hjl:j<σ.length)(h:∀i σ' H',i<n->σ'.length=σ.length->Agree vars σ σ'->σ'[j]?=some (some (.int (lo+(i:Int))))->SameX acc H H'->EmR K vars tb acc σ' H' (L i)):
  EmR K vars (gQ ti (aE j) tb) acc σ H ((ao n).flatMap L):=by
 intro D pre R ha hR hz hd
 exact hti _ (nP hj hjl h D pre R ha hR hz hd)
theorem nJ (vars:List Nat)(L:List (List Int))(ha:H acc=none)(hz:L.length<=100000)(h:EmR K vars (cX J g tb) acc σ (upd H acc (.lst [])) L)(q:∀σ' H' pre,Same H H'->H' acc=some (.lst pre)->Rows K H' pre L->D.nx σ' H'):cX J g tb D σ (upd H acc (.lst [])):=
 h _ [] [] aA Rows.nil (by simpa using hz) λσ' H' pre' _ _ sx h1 h2=>q σ' H' pre' (bA ha sx) h1 (by simpa using h2)
end L2
namespace L2
open PySem PySem.Spec PyProof.Rows
open PySem.SeqAt
def EqA (A:Around)(s:Shared)(u v:Value)(b:Bool):Prop:=∀(prog:Program) (w:World) (E:Value->Shared->Prop) (Q:Bool->Shared->Prop),Q b s->wpAny (model prog w) A (eqBool u v) Q E s
theorem uG:∀{r q:List Int},eqL (r.map Dt.int) (q.map Dt.int)=true->r=q
 |[],[],_=>rfl
 |[],_ :: _,h=>by simp[eqL] at h
 |_ :: _,[],h=>by simp[eqL] at h
 |a :: r,b :: q,h=>by
  rw[cf,cf,eqL,dn] at h
  have h1:a=b:=by have:=h.1;rw[eqD] at this;exact vc this
  rw[h1,uG h.2]
theorem zX:∀{us:List Value}{ns:List Int},IntsAre us ns->∀j (h:j<us.length),∃t,us[j] = .int (ns.getD j 0) t
 |_,_, .nil,j,h=>absurd h (ou _)
 |_,_, .cons n t h,0,_=>⟨t,rfl⟩
 |_,_, .cons n t h,j+1,hj=>by
  obtain⟨t',e⟩:=zX h j (by simpa using hj)
  exact⟨t',by simpa using e⟩
theorem aBy:∀{us:List Value}{ns ms:List Int},IntsAre us ns->IntsAre us ms->ns=ms
 |_,_,_, .nil, .nil=>rfl
 |_,_,_, .cons n t h, .cons _ _ g=>by rw[aBy h g]
theorem aAJ (hu:A.units<cLine)(hc:IsTup s.heap c us.toArray)(hd:IsTup s.heap d vs.toArray)(h1:IntsAre us r)(h2:IntsAre vs q):EqA A s (.ref c) (.ref d) (eqL (r.map Dt.int) (q.map Dt.int)):=by
 by_cases hcd:c=d
 ·subst hcd
  have e:us=vs:=by
   obtain⟨o,e1,_,n,e2⟩:=hc
   obtain⟨o',e3,_,m,e4⟩:=hd
   rw[e1] at e3
   cases e3
   rw[e2] at e4
   have e5:us=vs/\n=m:=by simpa using e4
   exact e5.1
  subst e
  rw[aBy h1 h2,cZ]
  exact EqAt.same _
 ·have l1:=IntsAre.len h1
  have l2:=IntsAre.len h2
  have he:∀(j:Nat) (h1:j<us.toArray.size) (h2:j<vs.toArray.size),EqAt A.in1 s us.toArray[j] vs.toArray[j] (eqD ((r.map Dt.int).getD j .non) ((q.map Dt.int).getD j .non)):=λj g1 g2=>by
   have g1:j<us.length:=by simpa using g1
   have g2:j<vs.length:=by simpa using g2
   obtain⟨t1,e1⟩:=zX h1 j g1
   obtain⟨t2,e2⟩:=zX h2 j g2
   have q1:(r.map Dt.int).getD j .non = .int (r.getD j 0):=by
    rw[aj,aw,aj,ah (by lia)]
    rfl
   have q2:(q.map Dt.int).getD j .non = .int (q.getD j 0):=by
    rw[aj,aw,aj,ah (by lia)]
    rfl
   have e1':us.toArray[j] = .int (r.getD j 0) t1:=by simpa using e1
   have e2':vs.toArray[j] = .int (q.getD j 0) t2:=by simpa using e2
   rw[q1,q2,e1',e2',eqD]
   exact EqAt.int_int _ _ _ _
  have rc:=RcAt.tuples (A:=A) hc hd hu he
  rw[av,av,l1,l2] at rc
  have:=kU (r.map Dt.int) (q.map Dt.int)
  rw[ae,ae] at this
  rw[this] at rc
  exact EqAt.of_refs hcd rc
section
open Builtin Builtin.ObjectAttr Builtin.Getset_descriptor
end
abbrev aIm:List Value:=[.type "ValueError", .type "Exception", .type "BaseException", .type "object"]
theorem aJl {K: aa}{h: Heap}{C: Addr}{bmB: List Value}{newId: String}(X:K.In h)(q:kq K C bmB newId=true):
  ∃bm N nm qn bs hdct sn sub ab col dd k0 k1 k2 k3 k5 mN,h.get? C=some (excClassObj nm qn C N bs bm hdct sn sub ab col dd k0 k1 k2 k3 k5 newId)/\h.Ns N mN/\mN "__init__" = none/\OwnTail h bmB bm:=by
 unfold kq at q
 split at q
 ·rename_i dd cd sl ho
  split at q
  ·rename_i C' bm k0 k1 k2 k3 n k5 hm hs
   simp only[dn,beq_iff_eq,Bool.not_eq_true'] at q
   obtain⟨⟨⟨⟨⟨rfl,rfl⟩,hdel⟩,ht⟩,hok⟩,hni⟩:=q
   obtain⟨nm,bs,mro,ns,qn,hd,sn,sub,ab,col,del⟩:=cd
   dsimp only at hm hdel hok hni
   subst hm hdel
   have hsl:sl=#[k0,k1,k2,k3,some (.builtin n),k5]:=by
    obtain⟨l⟩:=sl
    simp only at hs
    rw[hs]
   subst hsl
   exact⟨bm,ns,nm,qn,bs,hd,sn,sub,ab,col,dd,k0,k1,k2,k3,k5,_,X _ _ ho, .of_isNs (PySem.W.isNs_of_in X hok),PySem.W.nsMap_none_of_in X hok hni,PySem.W.tail_of_in X ht⟩
  ·cases q
 ·cases q
def aEa (X:Cx)(E:XK):Prop:=∀(pins:List (Addr×Obj)) (σ:St) (H:Hp) (s:Shared) (cls:Value) (e:Addr) (vs:List Value) (h':Heap),Inv X pins σ H s->E cls none H->Heap.MadeExcOf s.heap h' e cls vs->X.xe (.ref e) { s with heap:=h' }
def jL (C:Addr)(E:XK):TS:=λ_ _ H=>E (.ref C) none H
theorem aGx (T:aEa X E)(hc:X.calm=true)(hg:Gl X x)(hm:X.mg x=some (.ref C))(q:kq X.K C aIm "ValueError.__new__" = true)(hdb:(x == ("__debug__" : Str))=false:=by decide):
  PS X (.Raise (some (.Call (.Name x np) [.Constant (.str m) j p] [] cpos)) none pos) (jL C E):=by
 intro pins s σ H D I h
 obtain⟨bm,N,nm,qn,bs,hdct,sn,sub,ab,col,dd,k0,k1,k2,k3,k5,mN,hC,hN,hni,TL⟩:=aJl I.kIn q
 refine wpAny_Raise_call_subT (C:=C) (nm:=nm) (q:=qn) (N:=N) (bs:=bs) (bm:=bm) (hdct:=hdct) (sn:=sn) (sub:=sub) (ab:=ab) (col:=col) (dd:=dd) (k0:=k0) (k1:=k1) (k2:=k2) (k3:=k3) (k5:=k5)
  Ak (mN:=mN) (TL.hasType Ak.hasBase) (I.ok.hd hc) rfl hni (aAD I hg hm ⟨rfl,?_⟩ hdb)
 refine Ai (Calls.spliced_cons (Calls.Constant_str (k:=j) (pos:=p) (Calls.spliced_nil ⟨rfl,?_,hC,hN,TL,λh' e hx=>?_⟩)))
 ·show 1<=bx
  decide
 ·exact T pins σ H _ _ e _ h' (I.tok _) h hx
def zK (P:Program)(w:World):CXT:=λouter H s E e s'=>
 ∃(a:Addr) (cls a0:Value) (H':Hp) (B:Heap),e = .ref a/\s'.os=s.os/\xy s'.gens/\Un (frs outer) [] H H' s.heap s'.heap/\HOk P w H' s'.heap /\
  Heap.FlyingW B outer a cls a0 s'.heap/\(∀b o,s'.heap.get? b=some o->b∉frs outer->(H' b≠none\/∃o',s.heap.get? b=some o')->B.get? b=some o)/\E cls none H'
theorem ObjOk.there:∀{o:HO},ObjOk P w H h a o->∃u,h.get? a=some u
 | .lst _,⟨_,_,_,_,e⟩=>⟨_,e⟩
 | .tup _,⟨_,_,_,o,e,_⟩=>⟨_,e⟩
 | .dK _,⟨_,_,_,_,o,_,_,e,_⟩=>⟨_,e⟩
 | .dT _,⟨_,_,_,_,o,_,_,e,_⟩=>⟨_,e⟩
 | .set _ _,⟨o,_,_,_,e,_⟩=>⟨_,e⟩
 | .ins _ _ _,⟨_,_,_,e,_⟩=>⟨_,e⟩
 | .own _,⟨_,e⟩=>⟨_,e⟩
 | .xd _,⟨_,⟨_,_,_,e,_⟩,_⟩=>⟨_,e⟩
 | .rng _ _,⟨_,_,_,e⟩=>⟨_,e⟩
 | .frz _ _,⟨e,_⟩=>⟨_,e⟩
 | .tbl _,e=>⟨_,e⟩
 | .met _ _,e=>⟨_,e⟩
 | .ext _,⟨_,e,_⟩=>e
theorem aAY {pins: List (Addr×Obj)}{σ: St}{H: Hp}{s: Shared}{a: Addr}{cls a0: Value}{B h2: Heap}(hex:X.ex=[])(J:Inv X pins σ H s)(hfl:Heap.FlyingW B X.outer a cls a0 h2)(up:s.heap.UpToSlots h2)(cov:∀b o,s.heap.get? b=some o->b∉frs X.stack->(H b≠none\/∃o',X.s₀.heap.get? b=some o')->B.get? b=some o)(hE:E cls none H):zK X.prog X.w X.outer X.H₀ X.s₀ E (.ref a) { s with heap:=h2 }:=by
 have neL:∀b o,X.s₀.heap.get? b=some o->b≠X.env.locals:=λb o e=>dt (cg (bu e) J.ok.above)
 have nx:∀b:Addr,b∉X.ex:=λb z=>by rw[hex] at z;cases z
 have nst:∀b,b≠X.env.locals->b∉frs X.outer->b∉frs X.stack:=λb h1 h2 z=>(bq.mp (J.stkSub b z)).elim h1 h2
 have tr:∀b u o,H b=some u->s.heap.get? b=some o->h2.get? b=some o:=λb u o e q=>
  hfl.1 b o (cov b o q (λz=>by rw[J.stkFree b z] at e;cases e) (.inl (by rw[e];exact λz=>by cases z)))
 have ko:∀b o,X.s₀.heap.get? b=some o->∀o1,s.heap.get? b=some o1->b∉frs X.outer->h2.get? b=some o1:=λb o e o1 q n=>hfl.1 b o1 (cov b o1 q (nst b (neL b o e) n) (.inr ⟨o,e⟩))
 refine⟨a,cls,a0,H,B,rfl,J.os,J.bare,⟨λb o e n hb _=>?_,λb o e n hb _=>?_,λb o e n _=>?_,λb o e _=>?_,J.base.tups,J.base.frzs,J.base.tbls⟩,λb u e=>?_,hfl,λb o e n hc=>?_,hE⟩
 ·exact ko b o e o (J.base.keep b o e n hb (nx b)) hb
 ·obtain⟨sl,e1⟩:=J.base.slot b o e n hb (nx b)
  obtain⟨_,o2,e2,nf⟩:=J.funs.mem hb
  rw[e1] at e2;cases e2
  obtain⟨sl',e3⟩:=up b _ e1 nf
  exact⟨sl',e3⟩
 ·exact J.base.free b o e n (nx b)
 ·obtain⟨o1,e1⟩:=J.base.there b o e (nx b)
  by_cases hb:b∈frs X.outer
  ·obtain⟨_,o2,e2,nf⟩:=J.funs.mem hb
   obtain⟨sl',e3⟩:=up b _ e2 nf
   exact⟨_,e3⟩
  ·exact⟨o1,ko b o e o1 e1 hb⟩
 ·refine(J.hok b u e).stay (λc v hc q=>?_) (λ_ q=>q) λ_ _ q=>q
  rcases hc with z | z
  ·rw[z] at q ⊢;exact tr b u v e q
  ·exact tr c _ v z q
 ·rcases hc with hc | ⟨o',e'⟩
  ·cases hu:H b with
   |none=>exact absurd hu hc
   |some u=>
    obtain⟨o1,e1⟩:=(J.hok b u hu).there
    have e2:=tr b u o1 hu e1
    rw[e] at e2;cases e2
    exact cov b o e1 (λz=>by rw[J.stkFree b z] at hu;cases hu) (.inl hc)
  ·obtain⟨o1,e1⟩:=J.base.there b o' e' (nx b)
   have e2:=ko b o' e' o1 e1 n
   rw[e] at e2;cases e2
   exact cov b o e1 (nst b (neL b o' e') n) (.inr ⟨o',e'⟩)
theorem aCg {K: aa}{N: List Str}{qual: Str}{scope: Scope}{f: Addr}{cd: Value}{outer: List Env}{s₀: Shared}{H₀: Hp}:aEa (zF (zK P w) P w K mg base N qual scope f cd A outer s₀ H₀ E) E:=by
 intro pins σ H s cls e vs h' I hE hx
 have hin:∀env∈(zF (zK P w) P w K mg base N qual scope f cd A outer s₀ H₀ E).stack,∀b,env.frame=some b->b∈frs (zF (zK P w) P w K mg base N qual scope f cd A outer s₀ H₀ E).stack:=λenv he b hb=>rj.mpr ⟨env,he,hb⟩
 show wpAny _ _ _ _ _ _
 refine wpAny_leaves_madeW (base:=PySem.W.hideAll s.heap (frs (zF (zK P w) P w K mg base N qual scope f cd A outer s₀ H₀ E).stack)) I.ok.frames rfl (λb o q=>PySem.W.of_hideAll _ q) (PySem.W.funFrames_hide I.stack hin) hx λh2 t x1 _ _ x4=>?_
 exact aAY (s:={ s with heap:=s.heap }) rfl I x1 ((Heap.UpToSlots.of_keeps hx.keeps).trans x4) (λb o q n _=>Av _ q n) hE
theorem tL {K: aa}{N: List Str}{qual: Str}{scope: Scope}{f: Addr}{cd: Value}{outer: List Env}{s₀: Shared}{H₀: Hp}:pX (zK P w) (zF (zK P w) P w K mg base N qual scope f cd A outer s₀ H₀ E) E:=by
 intro pins σ H s e s' I ⟨a,cls,a0,H',B,he,os,bare,un,hok,hfl,cov,hE⟩
 subst he
 have J:Inv (zF (zK P w) P w K mg base N qual scope f cd A outer s₀ H₀ E) pins σ H' s':=I.call' os un hok bare (λb z=>absurd z (by simp))
 show wpAny _ _ _ _ _ _
 refine wpAny_leaves_onW I.ok.frames rfl hfl λh2 x1 x2=>?_
 exact aAY rfl J x1 x2 (λb o q n hc=>cov b o q n (hc.elim .inl λ⟨o',z⟩ => .inr (I.base.there b o' z (by simp[zF])))) hE
theorem PS.nox {st: Stmt}{t: TS}(h:PS X.nox st t):PS X st t:=λpins s σ H D I hw=>
 i9 (h pins s σ H D (I.wish _) hw) (λ_ _ q=>q.unwish) λ_ _ z=>mj z
theorem aFi {x: Str}{np pos cpos p: Pos}{C: Addr}{m: Str}{j: Nat}{K: aa}(hK:X.K=K)(T:aEa X E)(hc:X.calm=true)(hg:Gl X x)(hm:X.mg x=some (.ref C))(q:kq K C aIm "ValueError.__new__" = true)(hdb:(x == ("__debug__" : Str))=false:=by decide):
  PS X (.Raise (some (.Call (.Name x np) [.Constant (.str m) j p] [] cpos)) none pos) (jL C E):=aGx T hc hg hm (by rw[hK];exact q) hdb
structure DefX (P:Program)(w:World)(K:aa)(mg:Str->Option Value)(base:Heap)(x:Str)(k:Nat)(ps:List Str)(sp:Sp):Prop where
 ex:∃(f:Addr) (fd:FuncData),FnOk P w K mg base (zK P w) k f fd ps sp/\mg x=some (.ref f)/\qi K (.ref f)=true/\Binds K fd ps []
theorem DefX.mono {K: aa}{x: Str}{j k: Nat}{ps: List Str}{sp: Sp}(D:DefX P w K mg base x j ps sp)(h:j<=k):DefX P w K mg base x k ps sp:=by
 obtain⟨f,fd,F,r⟩:=D.ex
 exact⟨f,fd,F.mono h,r⟩
theorem aDX {x: Str}{k: Nat}{ps: List Str}{sp: Sp}{p pos: Pos}{e: Expr}{es: List Expr}{t: TA}(D:DefX X.prog X.w X.K X.mg X.base x k ps sp)(hr:Room k X.A)(hg:Gl X x)(hx:pX (zK X.prog X.w) X E)(ha:PA X (e :: es) t)(hdb:(x == ("__debug__" : Str))=false:=by decide)(he:ft (e :: es) X.env=(false,eval e X.env) :: ft es X.env:=by rfl)(hpl:(wc pos (ft es X.env)).any (·.1)=false:=by rfl):
  PE X (.Call (.Name x p) (e :: es) [] pos) (aO sp [] E t):=by
 obtain⟨f,fd,F,hm,hk,hb⟩:=D.ex
 exact aCY F hr hg hm hk hb .nil hx ha hdb he hpl
theorem Fun.okX {K: aa}{x qual: Str}{st: Stmt}{f: Addr}{fd: FuncData}{N ps: List Str}{k: Nat}{sp: Sp}(F:Fun K x qual st f fd)(S:kX N ps (aX st))(len:∀vs H Q E,sp vs H Q E->vs.length=ps.length)(hbody:∀(cdv:Value) (A:Around) (outer:List Env) (s:Shared) (H:Hp) (vs:List V) (Q:VK) (E:XK),Room k (A.deeper (y9 qual (aX st) s.heap.objs.size f cdv))->sp vs H Q E ->
   ∃t,PSs (zF (zK P w) P w K mg base N qual (aX st) f cdv A outer s H E) (cM st) t/\t { nx:=λ_ H'=>Q .non H',rt:=Q } (aW N vs) H):FnOk P w K mg base (zK P w) (k+1) f fd ps sp:=by
 obtain⟨oc,od,kV,doc,pm,an,cdv,ct,osl,rfl,lk,hcd⟩:=F.ex
 exact aMd lk hcd S len λA outer s H vs Q E hr hsp=>hbody cdv A outer s H vs Q E hr hsp
end L2
namespace L2
open PySem
theorem aIZ:pX (zK X.prog X.w) X E0:=λ_ _ _ _ _ _ _ ⟨_,_,_,_,_,_,_,_,_,_,_,_,h⟩=>h.elim
end L2
namespace L2
open PySem PySem.Spec PyProof.Rows
def OkN (P:Program)(w:World)(K:aa)(mg:Str->Option Value)(base:Heap)(x:Str)(st:Stmt)(k:Nat)(N ps:List Str)(T:TS):Prop:=
 ∀(f:Addr) (fd:FuncData) (sp:Sp),Fun K x x st f fd->(∀vs H Q E,sp vs H Q E->vs.length=ps.length)->(∀vs H Q E,sp vs H Q E->T { nx:=λ_ H'=>Q .non H',rt:=Q } (aW N vs) H)->FnOk P w K mg base CX0 k f fd ps sp
def OkX (P:Program)(w:World)(K:aa)(mg:Str->Option Value)(base:Heap)(x:Str)(st:Stmt)(k:Nat)(N ps:List Str)(T:XK->TS):Prop:=
 ∀(f:Addr) (fd:FuncData) (sp:Sp),Fun K x x st f fd->(∀vs H Q E,sp vs H Q E->vs.length=ps.length)->(∀vs H Q E,sp vs H Q E->T E { nx:=λ_ H'=>Q .non H',rt:=Q } (aW N vs) H)->FnOk P w K mg base (zK P w) k f fd ps sp
inductive FnIn (K:aa) (nm x:Str) (st:Stmt):Prop
 |mk {f:Addr}{od an:Option Addr}{sl:Array (Option Value)}{oc kV dc pm cd ct:Value} (a:fq K dr nm=some (some (.ref f))) (l:K.lookup f=some ⟨oc,od, .func (ku x x (eY st) (cM st) (aX st) .none kV dc pm an cd ct),sl⟩) (c:w4 K cd x=true) (k:qi K (.ref f)=true):FnIn K nm x st
structure ZIn (K:aa):Prop where
 z0:fq K dr "len" = some none
 z1:fq K dr "all" = some none
 z2:fq K dr "min" = some none
 z3:fq K dr "max" = some none
 z4:fq K dr "sum" = some none
 z5:fq K dr "isinstance" = some none
 z6:fq K dr "sorted" = some none
 z7:fq K dr "tuple" = some none
 z8:fq K dr "list" = some none
 z9:fq K dr "range" = some none
 z10:fq K dr "int" = some none
 z11:fq K dr "bool" = some none
 z12:fq K dr "zip" = some none
 z13:fq K dr "repr" = some none
 z14:fq K dr "enumerate" = some none
 z15:fq K dr "reversed" = some none
 z16:fq K dr "str" = some none
 z17:fq K dr "set" = some none
 z18:fq K dr "abs" = some none
def uN (g:Nat->Value):Nat->List Str->List Value
 |_,[]=>[]
 |i,_ :: ps=>g i :: uN g (i+1) ps
theorem aBK (g:Nat->Value):∀(ps:List Str) (us:List Value) (i:Nat),us.length=ps.length->(∀j,us.getD j .none=g (i+j))->us=uN g i ps
 |[],us,i,h,_=>mz.mp h
 |p :: ps,[],i,h,_=>by cases h
 |p :: ps,u :: us,i,h,q=>by
  show u :: us=g i :: uN g (i+1) ps
  rw[show g i=u from(q 0).symm,<- aBK g ps us (i+1) (Nat.succ.inj h) λj=>by rw[show i+1+j=i+(j+1) by lia,<- q (j+1)];rfl]
theorem okN {K: aa}{x: Str}{st: Stmt}{k: Nat}{N ps: List Str}{T: TS}(hb:∀(f:Addr) (cdv:Value) (A:Around) (outer:List Env) (s:Shared) (H:Hp) (E:XK),N.Nodup->Room k (A.deeper (y9 x (aX st) s.heap.objs.size f cdv))->PSs (zF CX0 P w K mg base N x (aX st) f cdv A outer s H E).nox (cM st) T)(S:kX N ps (aX st):=by exact⟨rfl,rfl,rfl,by decide+kernel,rfl,by decide+kernel,by decide+kernel⟩):OkN P w K mg base x st (k+1) N ps T:=
 λf fd sp F len rd=>F.ok S len λcdv A outer s H vs Q E hr h=>⟨_,hb f cdv A outer s H E S.nd hr,rd vs H Q E h⟩
theorem okX {K: aa}{x: Str}{st: Stmt}{k: Nat}{N ps: List Str}{T: XK->TS}(hb:∀(f:Addr) (cdv:Value) (A:Around) (outer:List Env) (s:Shared) (H:Hp) (E:XK),N.Nodup->Room k (A.deeper (y9 x (aX st) s.heap.objs.size f cdv))->PSs (zF (zK P w) P w K mg base N x (aX st) f cdv A outer s H E) (cM st) (T E))(S:kX N ps (aX st):=by exact⟨rfl,rfl,rfl,by decide+kernel,rfl,by decide+kernel,by decide+kernel⟩):OkX P w K mg base x st (k+1) N ps T:=
 λf fd sp F len rd=>F.okX S len λcdv A outer s H vs Q E hr h=>⟨_,hb f cdv A outer s H E S.nd hr,rd vs H Q E h⟩
theorem aBA {K: aa}{x: Str}{st: Stmt}{ps: List Str}{f: Addr}{fd: FuncData}(F:Fun K x x st f fd)(b:∀(kV doc pm:Value) (an:Option Addr) (cdv ct:Value) (g:Nat->Value),AO (ku x x (eY st) (cM st) (aX st) .none kV doc pm an cdv ct) ⟨uN g 0 ps,[]⟩=pure (ps.zip (uN g 0 ps))):Binds K fd ps []:=
 F.binds λkV doc pm an cdv ct us hl=>by rw[aBK (λi=>us.getD i .none) ps us 0 hl λj=>by rw[Nat.zero_add]];exact b ..
theorem FnIn.dN {K: aa}{h: Heap}{x nm: Str}{st: Stmt}{k: Nat}{N ps: List Str}{sp: Sp}{T: TS}(F:FnIn K nm x st)(P:Program)(w:World)(base:Heap)(X:K.In h)(G:h.Ns dr mg)(o:OkN P w K mg base x st k N ps T)(rd:∀vs H Q E,sp vs H Q E->T { nx:=λ_ H'=>Q .non H',rt:=Q } (aW N vs) H)(len:∀vs H Q E,sp vs H Q E->vs.length=ps.length:=by(intro _ _ _ _ h;first | (cases h;subst_vars;rfl;done) | repeat (first | (obtain⟨rfl,_⟩:=h;rfl) | obtain⟨_,h⟩:=h)))(b:∀(kV doc pm:Value) (an:Option Addr) (cdv ct:Value) (g:Nat->Value),AO (ku x x (eY st) (cM st) (aX st) .none kV doc pm an cdv ct) ⟨uN g 0 ps,[]⟩=pure (ps.zip (uN g 0 ps)):=by intros;rfl):Def P w K mg base nm k ps sp:=by
 obtain⟨a,l,c,kk⟩:=F
 have F:=aDS l c kk
 exact⟨_,_,o _ _ _ F len rd,ng X G a,kk,aBA F b⟩
theorem FnIn.dX {K: aa}{h: Heap}{x nm: Str}{st: Stmt}{k: Nat}{N ps: List Str}{sp: Sp}{T: XK->TS}(F:FnIn K nm x st)(P:Program)(w:World)(base:Heap)(X:K.In h)(G:h.Ns dr mg)(o:OkX P w K mg base x st k N ps T)(rd:∀vs H Q E,sp vs H Q E->T E { nx:=λ_ H'=>Q .non H',rt:=Q } (aW N vs) H)(len:∀vs H Q E,sp vs H Q E->vs.length=ps.length:=by(intro _ _ _ _ h;first | (cases h;subst_vars;rfl;done) | repeat (first | (obtain⟨rfl,_⟩:=h;rfl) | obtain⟨_,h⟩:=h)))(b:∀(kV doc pm:Value) (an:Option Addr) (cdv ct:Value) (g:Nat->Value),AO (ku x x (eY st) (cM st) (aX st) .none kV doc pm an cdv ct) ⟨uN g 0 ps,[]⟩=pure (ps.zip (uN g 0 ps)):=by intros;rfl):DefX P w K mg base nm k ps sp:=by
 obtain⟨a,l,c,kk⟩:=F
 have F:=aDS l c kk
 exact⟨_,_,o _ _ _ F len rd,ng X G a,kk,aBA F b⟩
theorem FnIn.law {K: aa}{h: Heap}{st: Stmt}{k: Nat}{N: List Str}{fa: Addr}{sp: Sp}(F:FnIn K "law" "law" st)(X:K.In h)(G:h.Ns dr mg)(hfa:mg "law" = some (.ref fa)){T: TS}(o:∀base:Heap,OkN P w K mg base "law" st k N ["script"] T)(rd:∀vs H Q E,sp vs H Q E->T { nx:=λ_ H'=>Q .non H',rt:=Q } (aW N vs) H)(len:∀vs H Q E,sp vs H Q E->vs.length=1:=by(intro _ _ _ _ h;first | (cases h;subst_vars;rfl;done) | repeat (first | (obtain⟨rfl,_⟩:=h;rfl) | obtain⟨_,h⟩:=h)))(b:∀(kV doc pm:Value) (an:Option Addr) (cdv ct:Value) (v:Value),AO (ku "law" "law" (eY st) (cM st) (aX st) .none kV doc pm an cdv ct) ⟨[v],[]⟩=pure [(("script" : Str),v)]:=by intros;rfl):
  ∃fd:FuncData,(∀(s:Shared) (v:Value),Ba s fd ⟨[v],[]⟩ [("script",v)])/\∀base:Heap,K.In base->base.Ns dr mg->FnOk P w K mg base CX0 k fa fd ["script"] sp:=by
 obtain⟨a,l,c,kk⟩:=F
 have e:=hfa.symm.trans (ng X G a)
 cases e
 exact⟨_,λs v => .of_eq (b ..),λbase _ _=>o base _ _ _ (aDS l c kk) len rd⟩
theorem ZIn.blt {K: aa}{h: Heap}(Z:ZIn K)(X:K.In h)(G:h.Ns dr mg):mG mg:=
 let m {x} (z:fq K dr x=some none):=PySem.W.mg_none_of X G z
 ⟨⟨⟨⟨m Z.z0,m Z.z1,m Z.z2,m Z.z3,m Z.z4,m Z.z5,m Z.z6,m Z.z7,m Z.z8,m Z.z9,m Z.z10,m Z.z11⟩,m Z.z12,m Z.z13,m Z.z14,m Z.z15,m Z.z16⟩,m Z.z17⟩,m Z.z18⟩
end L2
namespace L2
open PySem
theorem bB (h:H p=none)(s:Same H H'):Same H (upd H' p o):=λb u e=>by rw[aK (aJ e h)];exact s _ _ e
open PySem.SeqAt
end L2
namespace L2
open PySem PySem.W PyProof.Rows
section
variable (r:Nat->Int)
def rlt (i j:Nat):Bool:=decide (r i<r j)
def aN:KasT α->α
 | .ret a=>a
 | .ask i j k=>aN (k (rlt r i j))
theorem cQ:∀t:KasT α,aN r (t.bind f)=aN r (f (aN r t))
 | .ret _=>rfl
 | .ask i j k=>by
  show aN r ((k (rlt r i j)).bind f)=_
  exact cQ (k (rlt r i j))
def Kr (p:Array Nat)(i:Nat):Int:=r (p.getD i 0)
def Srt (p:Array Nat)(n:Nat):Prop:=∀i j,i<=j->j<n->Kr r p i<=Kr r p j
def Dsc (p:Array Nat)(n:Nat):Prop:=∀i j,i<=j->j<n->Kr r p j<=Kr r p i
variable {r}
theorem jM (h:p[i]?=q[j]?):Kr r p i=Kr r q j:=by
 unfold Kr
 rw[dk,dk,h]
theorem aFy (h:Kr r p a<Kr r p b):rlt r (p.getD a 0) (p.getD b 0)=true:=decide_eq_true h
theorem aFk (h:¬ Kr r p a<Kr r p b):¬ rlt r (p.getD a 0) (p.getD b 0)=true:=λe=>h (of_decide_eq_true e)
theorem aKm (hj:j<=p.size)(k:Nat):Kr r (ug p i j) k=if i<=k/\k<j then Kr r p (i+j - 1 - k) else Kr r p k:=by
 have:=getElem?_mirror_all (i:=i) hj k
 by_cases c:i<=k/\k<j
 ·rw[if_pos c] at this ⊢;exact jM this
 ·rw[if_neg c] at this ⊢;exact jM this
theorem aOq (hs:src<p.size)(hd:d<=src)(k:Nat):Kr r (bubble p src d) k=if k=src - d then Kr r p src else if src - d<k/\k<=src then Kr r p (k - 1) else Kr r p k:=by
 have:=getElem?_bubble hs d hd k
 by_cases c:k=src - d
 ·rw[if_pos c] at this ⊢;exact jM this
 ·rw[if_neg c] at this ⊢
  by_cases e:src - d<k/\k<=src
  ·rw[if_pos e] at this ⊢;exact jM this
  ·rw[if_neg e] at this ⊢;exact jM this
theorem dB (p:Array Nat)(i j:Nat): (ug p i j).Perm p:=mirror_perm _ _ _ _
theorem zZ:∀f n,1<=n->Srt r p n->n<=aN r (yg p f n)/\aN r (yg p f n)<=n+f/\Srt r p (aN r (yg p f n))/\(aN r (yg p f n)<n+f->Kr r p (aN r (yg p f n))<Kr r p (aN r (yg p f n) - 1))
 |0,n,h1,hs=>⟨bc _,bc _,hs,λh=>absurd h (kn _)⟩
 |f+1,n,h1,hs=>by
  have e:aN r (yg p (f+1) n)=aN r (if rlt r (p.getD n 0) (p.getD (n - 1) 0)=true then .ret n else yg p f (n+1)):=rfl
  rw[e]
  by_cases c:Kr r p n<Kr r p (n - 1)
  ·rw[if_pos (aFy c)]
   exact⟨bc _,jt _ _,hs,λ_=>c⟩
  ·rw[if_neg (aFk c)]
   obtain⟨a1,a2,a3,a4⟩:=zZ (p:=p) f (n+1) (by lia) λi j hij hj=>by
    by_cases e1:j=n
    ·subst e1
     by_cases e2:i=j
     ·subst e2;lia
     ·have:=hs i (j - 1) (by lia) (by lia);lia
    ·exact hs i j hij (by lia)
   exact⟨by lia,by lia,a3,λh=>a4 (by lia)⟩
theorem vG (hj:j<=p.size)(h:∀k,i<=k->k<j->Kr r p k=Kr r p (j - 1))(k:Nat):Kr r (ug p i j) k=Kr r p k:=by
 rw[aKm hj]
 split
 ·next c=>rw[h _ (by lia) (by lia),h k c.1 c.2]
 ·rfl
theorem nM:∀f (p:Array Nat) n q,1<=n->n+f<=p.size->q<n->Dsc r p n->(∀i,n - (q+1)<=i->i<n->Kr r p i=Kr r p (n - 1))->∀R,R=aN r (wo f p n q) ->
  R.1.size=p.size/\R.1.Perm p/\n<=R.2.1/\R.2.1<=n+f/\R.2.2<R.2.1/\Dsc r R.1 R.2.1/\∀i,R.2.1 - (R.2.2+1)<=i->i<R.2.1->Kr r R.1 i=Kr r R.1 (R.2.1 - 1)
 |0,p,n,q,h1,hz,hq,hd,he,R,hR=>by subst hR;exact⟨rfl,sd _,bc _,bc _,hq,hd,he⟩
 |f+1,p,n,q,h1,hz,hq,hd,he,R,hR=>by
  have e:aN r (wo (f+1) p n q)=aN r (if rlt r (p.getD n 0) (p.getD (n - 1) 0)=true then(if q > 0 then wo f (ug p (n - (q+1)) n) (n+1) 0 else wo f p (n+1) 0) else .ask (p.getD (n - 1) 0) (p.getD n 0) λd=>if d=true then .ret (p,n,q) else wo f p (n+1) (q+1)):=rfl
  rw[e] at hR
  by_cases c:Kr r p n<Kr r p (n - 1)
  ·rw[if_pos (aFy c)] at hR
   have hd1:Dsc r p (n+1):=λi j hij hj=>by
    by_cases e1:j=n
    ·subst e1
     by_cases e2:i=j
     ·subst e2;lia
     ·have:=hd i (j - 1) (by lia) (by lia);lia
    ·exact hd i j hij (by lia)
   by_cases c2:q > 0
   ·rw[if_pos c2] at hR
    have kk:=λk=>vG (r:=r) (p:=p) (i:=n - (q+1)) (j:=n) (by lia) he k
    have sz:(ug p (n - (q+1)) n).size=p.size:=AE _ _ _ _
    obtain⟨a1,a2,a3,a4,a5,a6,a7⟩:=nM f (ug p (n - (q+1)) n) (n+1) 0 (by lia) (by rw[sz];lia) (by lia) (λi j hij hj=>by rw[kk,kk];exact hd1 i j hij hj) (λi h2 h3=>by rw[show i=n by lia];rfl) R hR
    exact⟨a1.trans sz,a2.trans (dB _ _ _),by lia,by lia,a5,a6,a7⟩
   ·rw[if_neg c2] at hR
    obtain⟨a1,a2,a3,a4,a5,a6,a7⟩:=nM f p (n+1) 0 (by lia) (by lia) (by lia) hd1 (λi h2 h3=>by rw[show i=n by lia];rfl) R hR
    exact⟨a1,a2,by lia,by lia,a5,a6,a7⟩
  ·rw[if_neg (aFk c)] at hR
   have e2:aN r (KasT.ask (p.getD (n - 1) 0) (p.getD n 0) λd=>if d=true then .ret (p,n,q) else wo f p (n+1) (q+1))=aN r (if rlt r (p.getD (n - 1) 0) (p.getD n 0)=true then .ret (p,n,q) else wo f p (n+1) (q+1)):=rfl
   rw[e2] at hR
   by_cases d:Kr r p (n - 1)<Kr r p n
   ·rw[if_pos (aFy d)] at hR
    subst hR
    exact⟨rfl,sd _,bc _,jt _ _,hq,hd,he⟩
   ·rw[if_neg (aFk d)] at hR
    obtain⟨a1,a2,a3,a4,a5,a6,a7⟩:=nM f p (n+1) (q+1) (by lia) (by lia) (by lia) (λi j hij hj=>by
     by_cases e1:j=n
     ·subst e1
      by_cases e2:i=j
      ·subst e2;lia
      ·have:=hd i (j - 1) (by lia) (by lia);lia
     ·exact hd i j hij (by lia)) (λi h2 h3=>by
     show Kr r p i=Kr r p n
     by_cases e1:i=n
     ·rw[e1]
     ·have:=he i (by lia) (by lia);lia) R hR
    exact⟨a1,a2,by lia,by lia,a5,a6,a7⟩
def aHx (r:Nat->Int)(nrem n:Nat)(p:Array Nat)(R:Nat×Array Nat):Prop:=R.2.size=p.size/\R.2.Perm p/\n<=R.1/\R.1<=nrem/\Srt r R.2 R.1
theorem yT (h1:1<=n)(hn:n<=nrem)(hz:nrem<=p.size)(hd:Dsc r p n):aHx r nrem n p (aN r (BC n nrem p)):=by
 unfold BC
 rw[cQ]
 have hs:Srt r (ug p 0 n) n:=λi j hij hj=>by
  rw[aKm (by lia),aKm (by lia),if_pos ⟨by lia,by lia⟩,if_pos ⟨by lia,hj⟩]
  exact hd _ _ (by lia) (by lia)
 obtain⟨a1,a2,a3,_⟩:=zZ (p:=ug p 0 n) (nrem - n) n h1 hs
 exact⟨AE _ _ _ _,dB _ _ _,a1,by show aN r _<=_;lia,a3⟩
theorem lN (hn:n+1<=nrem)(hz:nrem<=p.size)(hd:Dsc r p (n+1)):aHx r nrem 1 p (aN r (wq n nrem p)):=by
 unfold wq
 rw[cQ]
 obtain⟨a1,a2,a3,a4,a5,a6,a7⟩:=nM (nrem - (n+1)) p (n+1) 0 (by lia) (by lia) (by lia) hd (λi h2 h3=>by rw[show i=n by lia];rfl) _ rfl
 generalize aN r (wo (nrem - (n+1)) p (n+1) 0)=R at a1 a2 a3 a4 a5 a6 a7 ⊢
 by_cases c:R.2.2 > 0
 ·rw[if_pos c]
  have kk:=λk=>vG (r:=r) (p:=R.1) (i:=R.2.1 - (R.2.2+1)) (j:=R.2.1) (by lia) a7 k
  have sz:(ug R.1 (R.2.1 - (R.2.2+1)) R.2.1).size=R.1.size:=AE _ _ _ _
  obtain⟨b1,b2,b3,b4,b5⟩:=yT (r:=r) (n:=R.2.1) (nrem:=nrem) (p:=ug R.1 (R.2.1 - (R.2.2+1)) R.2.1) (by lia) (by lia) (by rw[sz];lia) λi j hij hj=>by rw[kk,kk];exact a6 i j hij hj
  exact⟨b1.trans (sz.trans a1),b2.trans ((dB _ _ _).trans a2),by lia,b4,b5⟩
 ·rw[if_neg c]
  obtain⟨b1,b2,b3,b4,b5⟩:=yT (r:=r) (n:=R.2.1) (nrem:=nrem) (p:=R.1) (by lia) (by lia) (by lia) a6
  exact⟨b1.trans a1,b2.trans a2,by lia,b4,b5⟩
theorem aEo (h1:1<=nrem)(hz:nrem<=p.size):aHx r nrem 1 p (aN r (AZ nrem p)):=by
 unfold AZ
 rw[cQ]
 obtain⟨a1,a2,a3,a4⟩:=zZ (r:=r) (p:=p) (nrem - 1) 1 (bc _) λi j hij hj=>by rw[show i=j by lia];lia
 generalize aN r (yg p (nrem - 1) 1)=n at a1 a2 a3 a4 ⊢
 by_cases c:(n == nrem)=true
 ·rw[if_pos c]
  exact⟨rfl,sd _,a1,by show n<=nrem;lia,a3⟩
 ·rw[if_neg c]
  have cn:n≠nrem:=λe=>c (by rw[e];exact beq_self_eq_true _)
  have lt:=a4 (by lia)
  by_cases d:n > 1
  ·rw[if_pos d]
   show aHx r nrem 1 p (aN r (if rlt r (p.getD 0 0) (p.getD (n - 1) 0)=true then .ret (n,p) else wq n nrem (ug p 0 n)))
   by_cases e:Kr r p 0<Kr r p (n - 1)
   ·rw[if_pos (aFy e)]
    exact⟨rfl,sd _,a1,by show n<=nrem;lia,a3⟩
   ·rw[if_neg (aFk e)]
    have eq:∀k,0<=k->k<n->Kr r p k=Kr r p (n - 1):=λk _ hk=>by
     have g1:=a3 0 k (by lia) hk
     have g2:=a3 k (n - 1) (by lia) (by lia)
     lia
    have kk:=λk=>vG (r:=r) (p:=p) (i:=0) (j:=n) (by lia) eq k
    have sz:(ug p 0 n).size=p.size:=AE _ _ _ _
    obtain⟨b1,b2,b3,b4,b5⟩:=lN (r:=r) (n:=n) (nrem:=nrem) (p:=ug p 0 n) (by lia) (by rw[sz];lia) λi j hij hj=>by
     rw[kk,kk]
     by_cases e1:j=n
     ·subst e1
      by_cases e2:i=j
      ·subst e2;lia
      ·have:=eq i (by lia) (by lia);lia
     ·have g1:=eq i (by lia) (by lia)
      have g2:=eq j (by lia) (by lia)
      lia
    exact⟨b1.trans sz,b2.trans (dB _ _ _),b3,b4,b5⟩
  ·rw[if_neg d]
   refine lN (by lia) hz λi j hij hj=>?_
   have:n=1:=by lia
   subst this
   by_cases e2:i=j
   ·subst e2;lia
   ·rw[show i=0 by lia,show j=1 by lia]
    exact jf lt
theorem qJ (hs:Srt r p k):∀f l q,l<=q->q<=k->q - l<=f->(∀i,i<l->Kr r p i<=Kr r p k)->(∀i,q<=i->i<k->Kr r p k<Kr r p i) ->
  ∀m,m=aN r (qm p k f l q)->m<=k/\(∀i,i<m->Kr r p i<=Kr r p k)/\∀i,m<=i->i<k->Kr r p k<Kr r p i
 |0,l,q,h1,h2,h3,ha,hb,m,hm=>by
  obtain rfl:m=l:=hm
  exact⟨by lia,ha,λi hi hk=>hb i (by lia) hk⟩
 |f+1,l,q,h1,h2,h3,ha,hb,m,hm=>by
  have e:aN r (qm p k (f+1) l q)=aN r (if l≥q then .ret l else .ask (p.getD k 0) (p.getD ((l+q) / 2) 0) λc=>if c=true then qm p k f l ((l+q) / 2) else qm p k f ((l+q) / 2+1) q):=rfl
  rw[e] at hm
  by_cases c:l≥q
  ·rw[if_pos c] at hm
   obtain rfl:m=l:=hm
   exact⟨by lia,ha,λi hi hk=>hb i (by lia) hk⟩
  ·rw[if_neg c] at hm
   have e2:aN r (KasT.ask (p.getD k 0) (p.getD ((l+q) / 2) 0) λc=>if c=true then qm p k f l ((l+q) / 2) else qm p k f ((l+q) / 2+1) q)=aN r (if rlt r (p.getD k 0) (p.getD ((l+q) / 2) 0)=true then qm p k f l ((l+q) / 2) else qm p k f ((l+q) / 2+1) q):=rfl
   rw[e2] at hm
   by_cases d:Kr r p k<Kr r p ((l+q) / 2)
   ·rw[if_pos (aFy d)] at hm
    exact qJ hs f l ((l+q) / 2) (by lia) (by lia) (by lia) ha (λi hi hk=>by have:=hs ((l+q) / 2) i hi hk;lia) m hm
   ·rw[if_neg (aFk d)] at hm
    exact qJ hs f ((l+q) / 2+1) q (by lia) h2 (by lia) (λi hi=>by have:=hs i ((l+q) / 2) (by lia) (by lia);lia) hb m hm
theorem aDW:∀f (p:Array Nat) k,k+f<=p.size->Srt r p k->(aN r (BD f p k)).Perm p/\(aN r (BD f p k)).size=p.size/\Srt r (aN r (BD f p k)) (k+f)
 |0,p,k,hz,hs=>⟨sd _,rfl,hs⟩
 |f+1,p,k,hz,hs=>by
  have e:aN r (BD (f+1) p k)=aN r (BD f (bubble p k (k - aN r (qm p k k 0 k))) (k+1)):=cQ (r:=r) _
  rw[e]
  obtain⟨a1,a2,a3⟩:=qJ hs k 0 k (by lia) (by lia) (by lia) (λi hi=>by lia) (λi h1 h2=>by lia) _ rfl
  generalize aN r (qm p k k 0 k)=l at a1 a2 a3 ⊢
  have sz:(bubble p k (k - l)).size=p.size:=bubble_size _ _ _
  have kb:=λi=>aOq (r:=r) (p:=p) (src:=k) (d:=k - l) (by lia) (by lia) i
  obtain⟨b1,b2,b3⟩:=aDW f (bubble p k (k - l)) (k+1) (by rw[sz];lia) λi j hij hj=>by
   rw[kb,kb]
   have g1:∀i,i<l->Kr r p i<=Kr r p k:=a2
   have g2:∀i,l<=i->i<k->Kr r p k<Kr r p i:=a3
   by_cases i1:i=k - (k - l) <;> by_cases j1:j=k - (k - l)
   ·rw[if_pos i1,if_pos j1];lia
   ·rw[if_pos i1,if_neg j1,if_pos ⟨by lia,by lia⟩]
    exact jf (g2 _ (by lia) (by lia))
   ·rw[if_neg i1,if_pos j1,if_neg (by lia)]
    exact g1 i (by lia)
   ·rw[if_neg i1,if_neg j1]
    by_cases i2:k - (k - l)<i/\i<=k
    ·rw[if_pos i2,if_pos ⟨by lia,by lia⟩]
     exact hs _ _ (by lia) (by lia)
    ·rw[if_neg i2]
     by_cases j2:k - (k - l)<j/\j<=k
     ·rw[if_pos j2]
      exact hs _ _ (by lia) (by lia)
     ·rw[if_neg j2]
      exact hs _ _ hij (by lia)
  exact⟨b1.trans (bubble_perm _ _ _),b2.trans sz,by rw[show k+(f+1)=k+1+f by lia];exact b3⟩
theorem aAV (h1:1<=n): (aN r (lx n)).Perm (jg (ao n))/\(aN r (lx n)).size=n/\Srt r (aN r (lx n)) n:=by
 unfold lx
 rw[cQ]
 have hz:(jg (ao n)).size=n:=by simp
 obtain⟨a1,a2,a3,a4,a5⟩:=aEo (r:=r) (nrem:=n) (p:=jg (ao n)) h1 (by lia)
 generalize aN r (AZ n (jg (ao n)))=R at a1 a2 a3 a4 a5 ⊢
 by_cases c:R.1<n
 ·rw[if_pos c]
  obtain⟨b1,b2,b3⟩:=aDW (r:=r) (n - max R.1 1) R.2 (max R.1 1) (by lia) (by rw[show max R.1 1=R.1 by lia];exact a5)
  exact⟨b1.trans a2,by lia,by rw[show max R.1 1+(n - max R.1 1)=n by lia] at b3;exact b3⟩
 ·rw[if_neg c]
  exact⟨a2,by show R.2.size=n;lia,by rw[show R.1=n by lia] at a5;exact a5⟩
end
def Bnd (N:Nat)(p:Array Nat):Prop:=∀k,p.getD k 0<N
theorem Bnd.perm (hN:0<N)(h:Bnd N p)(e:q.Perm p):Bnd N q:=λk=>by
 rw[dk]
 by_cases c:k<q.size
 ·rw[fi c]
  have hm:q[k]∈p:=e.mem_iff.mp (xo c)
  obtain⟨i,hi,e2⟩:=Array.getElem_of_mem hm
  have:=h i
  rw[dk,fi hi] at this
  show q[k]<N
  rw[<- e2]
  exact this
 ·rw[jn (by lia)]
  exact hN
def AskP (N:Nat){α:Type}(P:α->Prop):KasT α->Prop
 | .ret a=>P a
 | .ask i j k=>i<N/\j<N/\∀b,AskP N P (k b)
theorem AskP.bind {N: Nat}{α β: Type}{f: α->KasT β}{P: α->Prop}{Q: β->Prop}(hf:∀a,P a->AskP N Q (f a)):∀t:KasT α,AskP N P t->AskP N Q (t.bind f)
 | .ret a,h=>hf a h
 | .ask i j k,h=>⟨h.1,h.2.1,λb=>AskP.bind hf (k b) (h.2.2 b)⟩
theorem AskP.ite[Decidable c](h1:c->AskP N P t)(h2:¬ c->AskP N P u):AskP N P (if c then t else u):=by
 by_cases h:c
 ·rw[if_pos h];exact h1 h
 ·rw[if_neg h];exact h2 h
theorem aAg (hb:Bnd N p):∀f n,AskP N (λ_=>True) (yg p f n)
 |0,n=>trivial
 |f+1,n=>⟨hb _,hb _,λb=>AskP.ite (λ_=>trivial) λ_=>aAg hb f (n+1)⟩
theorem nG (hN:0<N):∀f (p:Array Nat) n q,Bnd N p->AskP N (λR=>Bnd N R.1) (wo f p n q)
 |0,p,n,q,hb=>hb
 |f+1,p,n,q,hb=>⟨hb _,hb _,λb=>AskP.ite (λ_=>AskP.ite (λ_=>nG hN f _ _ _ (hb.perm hN (dB _ _ _))) λ_=>nG hN f _ _ _ hb) λ_=>⟨hb _,hb _,λd=>AskP.ite (λ_=>hb) λ_=>nG hN f _ _ _ hb⟩⟩
theorem wW (hN:0<N)(hb:Bnd N p):AskP N (λR:Nat×Array Nat=>Bnd N R.2) (BC n nrem p):=by
 unfold BC
 refine AskP.bind (P:=λ_=>True) (λa _=>?_) _ (aAg (hb.perm hN (dB _ _ _)) _ _)
 exact hb.perm hN (dB _ _ _)
theorem lJ (hN:0<N)(hb:Bnd N p):AskP N (λR:Nat×Array Nat=>Bnd N R.2) (wq n nrem p):=by
 unfold wq
 refine AskP.bind (λR hR=>?_) _ (nG hN _ _ _ _ hb)
 exact AskP.ite (λ_=>wW hN (Bnd.perm hN hR (dB _ _ _))) λ_=>wW hN hR
theorem aFz (hN:0<N)(hb:Bnd N p):AskP N (λR:Nat×Array Nat=>Bnd N R.2) (AZ nrem p):=by
 unfold AZ
 refine AskP.bind (P:=λ_=>True) (λn _=>?_) _ (aAg hb _ _)
 refine AskP.ite (λ_=>?_) λ_=>AskP.ite (λ_=>⟨hb _,hb _,λc=>AskP.ite (λ_=>?_) λ_=>lJ hN (hb.perm hN (dB _ _ _))⟩) λ_=>lJ hN hb
 ·exact hb
 ·exact hb
theorem qP (hb:Bnd N p):∀f l q,AskP N (λ_=>True) (qm p k f l q)
 |0,l,q=>trivial
 |f+1,l,q=>AskP.ite (λ_=>trivial) λ_=>⟨hb _,hb _,λc=>AskP.ite (λ_=>qP hb f _ _) λ_=>qP hb f _ _⟩
theorem aES (hN:0<N):∀f (p:Array Nat) k,Bnd N p->AskP N (λ_=>True) (BD f p k)
 |0,p,k,hb=>trivial
 |f+1,p,k,hb=>AskP.bind (λl _=>aES hN f _ _ (hb.perm hN (bubble_perm _ _ _))) _ (qP hb _ _ _)
theorem aBL (hN:0<N):AskP N (λ_=>True) (lx N):=by
 have hb:Bnd N (jg (ao N)):=λk=>by
  rw[dk]
  by_cases c:k<N
  ·simp[c]
  ·simp[c,hN]
 unfold lx
 refine AskP.bind (λR hR=>?_) _ (aFz hN hb)
 refine AskP.ite (λ_=>aES hN _ _ _ hR) λ_=>?_
 exact trivial
theorem aFo (hc:∀i j C,i<N->j<N->C (rlt r i j) s->cmp i j C s):∀t:KasT α,AskP N P t->Q (aN r t) s->t.kasWp cmp Q s
 | .ret a,_,h=>h
 | .ask i j k,ha,h=>hc i j _ ha.1 ha.2.1 (aFo hc (k (rlt r i j)) (ha.2.2 _) h)
theorem uM:∀{a b:List Int},lexL a b=false->lexL b a=false->a=b
 |[],[],_,_=>rfl
 |[],_ :: _,h,_=>by cases h
 |_ :: _,[],_,h=>by cases h
 |x :: a,y :: b,h1,h2=>by
  rw[lexL] at h1 h2
  by_cases e:x=y
  ·subst e
   rw[if_pos rfl] at h1 h2
   rw[uM h1 h2]
  ·rw[if_neg e] at h1
   rw[if_neg (gy e)] at h2
   have g1:=of_decide_eq_false h1
   have g2:=of_decide_eq_false h2
   lia
def mV (R:List (List Int))(i:Nat):Int:=((R.countP λq=>lexL q (R.getD i [])):Nat)
theorem wN:∀{l:List (List Int)},(∀x∈l,p x=true->q x=true)->(∃x∈l,p x=false/\q x=true)->l.countP p<l.countP q
 |[],_,⟨_,h,_⟩=>by cases h
 |a :: l,h,⟨x,hx,h1,h2⟩=>by
  have mono:l.countP p<=l.countP q:=zy λx hx=>h x (ay _ hx)
  rw[uh,uh]
  rcases bq.mp hx with e | hx
  ·subst e
   rw[h1,h2]
   simp
   lia
  ·have ih:=wN (λx hx=>h x (ay _ hx)) ⟨x,hx,h1,h2⟩
   have ha:=h a (cv ..)
   cases e1:p a with
   |false=>simp;split <;> lia
   |true=>rw[ha e1];simp;lia
theorem lB (hi:i<R.length)(hj:j<R.length): (mV R i<mV R j)↔lexL (R.getD i []) (R.getD j [])=true:=by
 have mem:∀k,k<R.length->R.getD k []∈R:=λk hk=>by
  rw[aj,ah hk];exact fv hk
 unfold mV
 constructor
 ·intro h
  cases e:lexL (R.getD i []) (R.getD j []) with
  |true=>rfl
  |false=>
   exfalso
   have:R.countP (λq=>lexL q (R.getD j []))<=R.countP (λq=>lexL q (R.getD i [])):=zy λx _ hx=>by
    cases e2:lexL (R.getD j []) (R.getD i []) with
    |true=>exact gN hx e2
    |false=>rw[uM e e2];exact hx
   lia
 ·intro h
  have:=wN (l:=R) (p:=λq=>lexL q (R.getD i [])) (q:=λq=>lexL q (R.getD j [])) (λx _ hx=>gN hx h) ⟨_,mem i hi,gP _,h⟩
  lia
def TupsAt (h:Heap)(vs:List Value)(R:List (List Int)):Prop:=vs.length=R.length/\∀(i:Nat) (row:List Int),R[i]?=some row->∃x us,vs[i]?=some (.ref x)/\IsTup h x us.toArray/\IntsAre us row
theorem aHS:∀{us vs:List Value}{ns ms:List Int} (i:Nat),IntsAre us ns->IntsAre vs ms->Q (aAU fin (ns.zip ms)) s->KatLex prog w A true fin Q (us.zip vs) i s
 |[],_,_,_,i, .nil,_,h=>by rw[List.zip_nil_left];exact kat_nil (by simpa[aAU] using h)
 |_ :: _,[],_,_,i, .cons _ _ _, .nil,h=>by rw[List.zip_nil_right];exact kat_nil (by simpa[aAU] using h)
 |_ :: us,_ :: vs,_ :: ns,_ :: ms,i, .cons n t h1, .cons m u h2,h=>by
  rw[wm,aAU] at h
  rw[wm]
  refine kat_cons (SeqAt.EqAt.int_int n t m u prog w _ _ ?_)
  by_cases c:n=m
  ·rw[if_pos c] at h
   rw[show(n == m)=true from by rw[c];exact beq_self_eq_true _]
   exact kat_yes (aHS (i+1) h1 h2 h)
  ·rw[if_neg c] at h
   rw[show(n == m)=false from beq_false_of_ne c]
   refine kat_no ?_
   by_cases z:i=0
   ·subst z
    exact oneLt_int h
   ·rw[show(true && i == 0)=false by simp[z]]
    exact kat_one _ _ (xJ h)
theorem aJU (hv:TupsAt s.heap vs R)(hi:i<R.length)(hj:j<R.length)(h:C (rlt (mV R) i j) s):kas_ask prog w A (AF true) vs i j C s:=by
 have at':∀k,k<R.length->∃x us,vs.getD k Value.none = .ref x/\IsTup s.heap x us.toArray/\IntsAre us (R.getD k []):=λk hk=>by
  obtain⟨x,us,e1,e2,e3⟩:=hv.2 k R[k] (ah hk)
  refine⟨x,us,by rw[aj,e1];rfl,e2,?_⟩
  rw[aj,ah hk]
  exact e3
 obtain⟨x,us,e1,⟨ox,a1,_,n1,d1⟩,b1⟩:=at' i hi
 obtain⟨y,vs',e2,⟨oy,a2,_,n2,d2⟩,b2⟩:=at' j hj
 show wpAny (model prog w) A (keyLt' (AF true) (vs.getD i Value.none) (vs.getD j Value.none)) C (λ_ _=>False) s
 rw[e1,e2]
 refine kat_lt a1 d1 a2 d2 ?_
 have hl1:us.length=(R.getD i []).length:=IntsAre.len b1
 have hl2:vs'.length=(R.getD j []).length:=IntsAre.len b2
 have e:rlt (mV R) i j=aAU (decide (us.toArray.size<vs'.toArray.size)) ((R.getD i []).zip (R.getD j [])):=by
  rw[av,av,hl1,hl2,aAm]
  unfold rlt
  by_cases c:lexL (R.getD i []) (R.getD j [])=true
  ·rw[c];exact decide_eq_true ((lB hi hj).mpr c)
  ·rw[gx _ |>.mp c];exact decide_eq_false λz=>c ((lB hi hj).mp z)
 exact aHS 0 b1 b2 (by rw[<- e];exact h)
theorem jC:∀{vs:List Value}{R:List (List Int)},TupsAt h vs R->(∀q∈R,q≠[])->∃fs,KatTups h vs fs/\fs.length=R.length/\∀v∈fs,∃i t,v = .int i t
 |[],[],_,_=>⟨[],trivial,rfl,λ_ z=>by cases z⟩
 |[],_ :: _,hv,_=>by cases hv.1
 |_ :: _,[],hv,_=>by cases hv.1
 |v :: vs,q :: R,hv,hne=>by
  obtain⟨x,us,e1,⟨o,a1,a2,n,a3⟩,b⟩:=hv.2 0 q rfl
  obtain⟨fs,k,l,f⟩:=jC (vs:=vs) (R:=R) ⟨by simpa using hv.1,λi row hr=>hv.2 (i+1) row hr⟩ λq hq=>hne q (ay _ hq)
  obtain rfl:v = .ref x:=by simpa using e1
  cases b with
  |nil=>exact absurd rfl (hne [] (cv ..))
  |cons m t r=>
   exact⟨.int m t :: fs,⟨⟨x,o,_,n,rfl,a1,a2,a3,rfl⟩,k⟩,by simp[l],λv hv'=>by
    rcases bq.mp hv' with e | hv'
    ·exact⟨m,t,e⟩
    ·exact f v hv'⟩
theorem TupsAt.keep (hv:TupsAt h vs R)(k:∀x us,IsTup h x us->IsTup h' x us):TupsAt h' vs R:=
 ⟨hv.1,λi row hr=>by obtain⟨x,us,e1,e2,e3⟩:=hv.2 i row hr;exact⟨x,us,e1,k _ _ e2,e3⟩⟩
def Put (R:List (List Int))(p:Array Nat):Prop:=p.Perm (jg (ao R.length))/\∀i j,i<=j->j<R.length->lexL (R.getD (p.getD j 0) []) (R.getD (p.getD i 0) [])=false
theorem jF (ho:s.heap.get? a=some (jj "list" vs.toArray n))(hv:TupsAt s.heap vs R)(hne:∀q∈R,q≠[])(h64:vs.length<64)(h:∀p,Put R p->P (.done (.ret .none)) { s with heap:=Bh s.heap a vs (jg (p.toList.map λi=>vs.getD i Value.none)) }):wpAny (model prog w) A (Builtin.«list.sort» ⟨[.ref a],[]⟩) P E s:=by
 have ha:=bu ho
 have hz:vs.length<=bx:=by rw[ly];lia
 obtain⟨e1,ho1⟩:∃e1,(s.heap.update a (i4 λ_=>#[])).get? a=some (jj "list" #[] e1):=⟨_,zk ho λ_=>#[]⟩
 rw[list_sort_plain]
 refine af (zj ho rfl (af (u3 ho rfl ?g1 (by rw[av];exact hz) (bg _))))
 case g1=>
 refine af (AG ho1 rfl (af (w9 ?g2 (by show vs.length<=_;exact hz))))
 case g2=>
 refine af (qd (gj ?g3) (bg _))
 case g3=>
 obtain⟨h3,eh⟩:∃h3,h3=((s.heap.update a (i4 λ_=>(#[]:Array Value))).push (jj "tuple" vs.toArray 0)).push (jj "list" #[] 0):=⟨_,rfl⟩
 show wpAny (model prog w) A _ P E { s with heap:=((s.heap.update a (i4 λ_=>#[])).push (jj "tuple" vs.toArray 0)).push (jj "list" #[] 0) }
 rw[<- eh]
 have ho3:h3.get? a=some (jj "list" #[] e1):=by
  rw[eh]
  exact ak _ (ak _ ho1)
 have hv3:TupsAt h3 vs R:=hv.keep λx us ⟨o,b1,b2,b3⟩=>by
  have hx:x≠a:=λe=>by
   subst e
   rw[ho] at b1
   cases b1
   exact absurd (Value.type.inj (show Value.type "list" = Value.type "tuple" from b2)) (by decide)
  refine⟨o,?_,b2,b3⟩
  rw[eh]
  exact ak _ (ak _ (by rw[qu _ _ _ _ hx];exact b1))
 dsimp only
 have fin:∀(p:Array Nat) (st':SortSt),Put R p->p.size=vs.length->arrOf st'=p.map (kas_item (vs.toArray.zip vs.toArray))->A5 st'=none->wpAny (model prog w) A (do
   let touched:=(<- seqEpoch a) != e1
   yh (.ref a) λ_=>(arrOf st').map (·.2)
   if let some e:=A5 st' then rule "list.sort.comparison-raised";throw e
   if touched then rule "list.sort.modified";raiseError "ValueError" "list modified during sort"
   ret .none) P E { s with heap:=h3 }:=λp st' hp hsz har hf=>by
  rw[kat_snds rfl har,hf]
  refine af (AG ho3 rfl (af (u3 ho3 rfl ?g4 (bg _) ?g5)))
  case g5=>
   show(jg _).size<=_
   rw[av,ae,fm];lia
  case g4=>
   simp only[bne_self_eq_false,gc,if_false]
   have:=h p hp
   unfold Bh at this
   rw[<- eh] at this
   exact aq this
 by_cases c:vs.toArray.size<2
 ·rw[if_pos c,if_pos c]
  refine af (aq ?g6)
  case g6=>
  rw[StateT.run_pure]
  refine af (aq ?g7)
  case g7=>
  have e2:(vs.toArray.zip vs.toArray).size=vs.length:=by simp
  refine fin (jg (ao vs.length)) (SortSt.mk' general' (vs.toArray.zip vs.toArray) #[] 7 none) ⟨by rw[hv.1],λi j hij hj=>?_⟩ (by simp) ?_ rfl
  ·have hl:R.length<2:=by rw[<- hv.1];simpa using c
   rw[show i=j by lia]
   exact gP _
  ·have:=kas_range (vs.toArray.zip vs.toArray)
   rw[e2] at this
   exact this.symm
 ·rw[if_neg c,if_neg c]
  have h2:2<=vs.length:=by simpa using c
  obtain⟨fs,k1,k2,k3⟩:=jC hv3 hne
  refine af (kat_kind (s:={ s with heap:=h3 }) (T := .type "int") k1 (by have:=hv.1;lia) (λv hv'=>?g8) (by decide) ?g9)
  case g8=>
   obtain⟨i,t,rfl⟩:=k3 v hv'
   exact Looks.of_pure rfl
  case g9=>
  obtain⟨q1,q2,q3⟩:=aAV (r:=mV R) (n:=vs.length) (by lia)
  refine af (i9 (kat_run (ks:=vs) (vs:=vs) (s:={ s with heap:=h3 }) (κ:=AF true) (Q:=λst' s'=>s'={ s with heap:=h3 }/\arrOf st'=(aN (mV R) (lx vs.length)).map (kas_item (vs.toArray.zip vs.toArray))/\A5 st'=none) (G:=λp' s'=>p'=aN (mV R) (lx vs.length)/\s'={ s with heap:=h3 }) rfl h2 h64 (λp' st' s' a1 a2 a3 a4=>⟨a4.2,by rw[<- a4.1];exact a2,a3⟩)
   (aFo (N:=vs.length) (r:=mV R) (λi j C hi hj hC=>aJU (s:={ s with heap:=h3 }) hv3 (by rw[<- hv.1];exact hi) (by rw[<- hv.1];exact hj) hC) _ (aBL (by lia)) ⟨rfl,rfl⟩)) ?_ λ_ _ e=>e)
  rintro⟨⟨⟩,st'⟩ s' ⟨rfl,har,hf⟩
  refine fin _ st' ⟨by rw[<- hv.1];exact q1,λi j hij hj=>?_⟩ q2 har hf
  have hle:=q3 i j hij (by rw[hv.1];exact hj)
  have bd:∀k,k<vs.length->(aN (mV R) (lx vs.length)).getD k 0<R.length:=λk hk=>by
   rw[dk,fi (by lia)]
   have:=q1.mem_iff.mp (xo (show k<(aN (mV R) (lx vs.length)).size by lia))
   rw[<- hv.1]
   simpa using this
  have hlt:=lB (R:=R) (bd j (by rw[hv.1];exact hj)) (bd i (by rw[hv.1];lia))
  cases z:lexL (R.getD ((aN (mV R) (lx vs.length)).getD j 0) []) (R.getD ((aN (mV R) (lx vs.length)).getD i 0) []) with
  |false=>rfl
  |true=>
   have:=hlt.mpr z
   unfold Kr at hle
   lia
theorem aCH (e0:s.heap.get? l=some ob)(ec:ob.cls = .type T)(eT:T="list"\/T="tuple")(ed:ob.data = .seq us.toArray n)(hv:TupsAt s.heap us R)(hne:∀q∈R,q≠[])(h64:us.length<64)(q:∀p,Put R p->Q (.ref (s.heap.objs.size+1)) { s with heap:=AV s.heap us (jg (p.toList.map λi=>us.getD i Value.none)) }):wpAny (model prog w) A (call (.builtin "sorted") [.ref l]) Q E s:=by
 refine l8 AA zm zo (zp _) ?g1
 case g1=>
 unfold ud
 refine af (m:=Bg "sorted" 1 1 _) (aq (af (kS e0 ec eT ed (af (qd ?g2)) (de (i7 h64) (by decide)))))
 case g2=>
 obtain⟨h1,eh1⟩:∃h1,h1=(s.heap.push (jj "list" #[] 0)).update s.heap.objs.size (i4 (· ++ us.toArray)):=⟨_,rfl⟩
 have z1:h1.objs.size=s.heap.objs.size+1:=by rw[eh1,yo,size_push']
 have old:∀x o,s.heap.get? x=some o->(h1.push (jj "list" us.toArray 0)).get? x=some o:=λx o e=>by
  have hx:=bu e
  refine ak _ ?_
  rw[eh1,qu _ _ _ _ (dt hx)]
  exact ak _ e
 have e2:(h1.push (jj "list" us.toArray 0)).get? (s.heap.objs.size+1)=some (jj "list" us.toArray 0):=by rw[<- z1];exact bp _ rfl
 have hv2:TupsAt (h1.push (jj "list" us.toArray 0)) us R:=hv.keep λx vs ⟨o,b1,b2,b3⟩=>⟨o,old x o b1,b2,b3⟩
 show wpAny _ _ _ _ _ { s with heap:=((s.heap.push (jj "list" #[] 0)).update s.heap.objs.size (i4 (· ++ us.toArray))).push (jj "list" us.toArray 0) }
 rw[<- eh1,z1]
 refine af (gj (gf w5 ⟨_,e2,rfl⟩ vh (jF (s:={ s with heap:=h1.push (jj "list" us.toArray 0) }) e2 hv2 hne h64 λp hp=>⟨_,rfl,aq ⟨_,rfl,?g3⟩⟩) (w6 _)))
 case g3=>
  have:=q p hp
  unfold AV at this
  rw[<- eh1] at this
  exact this
theorem vN (h:Put R p): (p.toList.map λi=>R.getD i []).Perm R/\(p.toList.map λi=>R.getD i []).Pairwise (λa b=>lexL b a=false):=by
 have pl:p.toList.Perm (ao R.length):=by simpa using k7.mp h.1
 have e:(ao R.length).map (λi=>R.getD i [])=R:=by
  apply nq
  ·simp
  ·intro i h1 h2
   rw[lg,n5,aj,ah h2];rfl
 have hl:p.size=R.length:=by rw[<- fm,pl.length_eq,br]
 refine⟨by have:=pl.map λi=>R.getD i [];rw[e] at this;exact this,?_⟩
 rw[qo]
 intro i j hi hj hij
 rw[ae,fm] at hi hj
 have:=h.2 i j (by lia) (by lia)
 rw[dk,fi hj,dk,fi hi] at this
 rw[lg,lg,Am,Am]
 exact this
def aDT (K:aa):List V->Hp->VK->Prop:=λvs H Q=>∃(a:Addr) (xs:List V) (R:List (List Int)),vs=[.ref a]/\Sq K H a xs/\Rows K H xs R/\(∀q∈R,q≠[])/\R.length<64 /\
 ∀(ys:List V) (R':List (List Int)),R'.Perm R->R'.Pairwise (λa b=>lexL b a=false)->ys.Perm xs->Rows K H ys R'->∀l,H l=none->Q (.ref l) (upd H l (.lst ys))
theorem aCJ:CallR X (.builtin "sorted") (aDT X.K):=by
 intro pins s σ H vs us Q I r ⟨a,xs,R,e,hq,hR,hne,h64,q⟩
 subst e
 obtain⟨u,rfl,ru⟩:=yG r
 obtain rfl:u=Value.ref a:=ru
 have go:∀(its:List Value) (ob:Obj) (n:Nat) (T:String),Vals xs its->s.heap.get? a=some ob->ob.cls = .type T->(T="list"\/T="tuple")->ob.data = .seq its.toArray n->wpAny (model X.prog X.w) X.A (call (.builtin "sorted") [.ref a]) (EP X pins σ Q) X.xe s:=by
  intro its ob n T rv e0 ec eT ed
  have hl:=rv.length
  have hv:TupsAt s.heap its R:=⟨by rw[<- hl];exact hR.1,λi row hr=>by
   obtain⟨b,e1,e2⟩:=hR.2 i row hr
   obtain⟨u,eu,rU⟩:=rv.get e1
   obtain rfl:u=Value.ref b:=rU
   obtain⟨vs,rvs,pl,_⟩:=I.tuple e2
   exact⟨b,vs,eu,pl,cD rvs⟩⟩
  refine aCH e0 ec eT ed hv hne (by rw[<- hl,hR.1];exact h64) λp hp=>?_
  obtain⟨f1,f2⟩:=vN hp
  have pl:p.toList.Perm (ao R.length):=by simpa using k7.mp hp.1
  have hb:∀i∈p.toList,i<R.length:=λi hi=>az.mp (pl.mem_iff.mp hi)
  obtain⟨c,he⟩:=Bo s.heap its (jg (p.toList.map λi=>its.getD i Value.none))
  have ex:(ao R.length).map (λi=>xs.getD i V.non)=xs:=by
   apply nq
   ·simp[hR.1]
   ·intro i h1 h2
    rw[lg,n5,aj,ah h2];rfl
  have py:(p.toList.map λi=>xs.getD i V.non).Perm xs:=by have:=pl.map λi=>xs.getD i V.non;rw[ex] at this;exact this
  refine⟨.ref (s.heap.objs.size+1),_,I.laid (t':=s.toks) (o := .lst (p.toList.map λi=>xs.getD i V.non)) (λb ob q=>AW q) (tj _) ?_,rfl,q _ _ f1 f2 py ?_ _ (I.hok.fresh (tj _))⟩
  ·refine⟨?_,p.toList.map λi=>its.getD i Value.none,c,?_,by simpa using he⟩
   ·rw[ae,pl.length_eq,br]
    exact de (i7 h64) (by decide)
   ·have all:∀l:List Nat,(∀i∈l,i<R.length)->Vals (l.map λi=>xs.getD i V.non) (l.map λi=>its.getD i Value.none):=by
     intro l
     induction l with
     |nil=>intro _;exact .nil
     |cons i l ih=>
      intro h
      have hi:i<xs.length:=by rw[hR.1];exact h i (cv ..)
      obtain⟨u,eu,rU⟩:=rv.get (ah hi)
      refine .cons ?_ (ih λj hj=>h j (ay _ hj))
      show RelV (xs.getD i V.non) (its.getD i Value.none)
      rw[aj,aj,eu,ah hi]
      exact rU
    exact all _ hb
  ·refine⟨by rw[ae,ae],λi row hr=>?_⟩
   rw[aw] at hr
   cases ep:p.toList[i]? with
   |none=>rw[ep] at hr;cases hr
   |some k=>
    rw[ep] at hr
    obtain rfl:R.getD k []=row:=bo hr
    have hk:=hb k (ar ep)
    obtain⟨b,e1,e2⟩:=hR.2 k R[k] (ah hk)
    refine⟨b,?_,?_⟩
    ·rw[aw,ep]
     show some (xs.getD k V.non)=_
     rw[aj,e1];rfl
    ·rw[aj,ah hk];exact e2
 rcases hq with hq | hq
 ·obtain⟨its,rv,pl,hz⟩:=I.list hq
  obtain⟨o,ho,hc,n,hd⟩:=pl.isList
  exact go its o n "list" rv ho hc (.inl rfl) hd
 ·obtain⟨its,rv,pl,hz⟩:=I.tuple hq
  obtain⟨o,ho,hc,n,hd⟩:=pl
  exact go its o n "tuple" rv ho hc (.inr rfl) hd
theorem aAG {K: aa}(hK:X.K=K):CallR X (.builtin "sorted") (aDT K):=by subst hK;exact aCJ
def tD (K:aa):List V->Hp->VK->Prop:=λvs H Q=>aAE K vs H Q\/aDT K vs H Q
theorem aAn {K: aa}(hK:X.K=K):CallR X (.builtin "sorted") (tD K):=λpins s σ H xs us Q I r h=>h.elim (xA hK pins s σ H xs us Q I r) (aAG hK pins s σ H xs us Q I r)
end L2
namespace L2
open PySem PyProof.Rows
end L2
namespace L2
open PySem PySem.Spec PyProof.Rows
section
variable {prog:Program}{w:World}{K:Type}[DecidableEq K]{knd:HeapKind prog w K}{A:Around}{E:Value->Shared->Prop}{s:Shared}{d a:Addr}{xs:List (K×Addr×Value)}{k:K}
end
def CMulG (i j:Int):Prop:=i.natAbs<2 ^ 8000/\j.natAbs<2 ^ 8000
theorem aEV (h:k.natAbs<2 ^ 8000):qv k<=8000:=by
 unfold qv
 split
 ·exact bg _
 ·rename_i c
  have hk:k.natAbs≠0:=λe=>c (by simp[Int.natAbs_eq_zero.mp e])
  have:=(Nat.log2_lt hk).mpr h
  lia
theorem CMulG.ok (h:CMulG i j):IntMulOk i j:=by
 unfold IntMulOk Builtin.Int.intTooBig
 have h1:=aEV h.1
 have h2:=aEV h.2
 have:¬ (((qv i+qv j:Nat):Int) > (bitsLine:Int)):=by
  have:(16000:Int)<=(bitsLine:Int):=by decide
  lia
 intro e
 rw[dn] at e
 have:=of_decide_eq_true e.2
 lia
def bQ:R2:=λx y H Q=>match x,y with
 | .int i, .int j=>(CMul i j\/CMulG i j)/\Q (.int (i*j)) H
 | .ref a, .int k=>aOU (.ref a) (.int k) H Q
 |_,_=>False
theorem uV:OpR X (mf .Mult) bQ:=by
 intro pins s σ H x y v u Q I rx ry h
 unfold bQ at h
 split at h
 ·rcases h with⟨h | h,q⟩
  ·exact aKP (X:=X) pins s σ H _ _ v u Q I rx ry ⟨_,_,rfl,rfl,h,q⟩
  ·exact(opI λ_ _ _ _ _ _ _ hc q=>mul_int q hc.ok:OpR X (mf .Mult) (rI CMulG λi j => .int (i*j))) pins s σ H _ _ v u Q I rx ry ⟨_,_,rfl,rfl,h,q⟩
 ·exact aLj (X:=X) pins s σ H _ _ v u Q I rx ry h
 ·exact h.elim
def aKV (i j:Int):Prop:=0<j/\j.natAbs<2 ^ 8000
abbrev kG:R2:=rI aKV λi j => .int (i / j)
theorem aAT:OpR X (mf .FloorDiv) kG:=opI λi j _ _ _ _ _ hc q=>by
 have h1:(0:Int)<j:=hc.1
 refine floordiv_int (by lia) (by rw[Int.fdiv_eq_ediv_of_nonneg i (by lia)];exact q) (.inl (PyProof.noPylong_of_log2 ?_))
 have:=(Nat.log2_lt (show j.natAbs≠0 by lia)).mpr hc.2
 lia
def smT (led:Bool)(ks:List Nat):SetTable:={ mask:=if ks.length<=4 then 7 else 31,place:=ks.toArray,dummies:=#[],finger:=0,led:=led,moves:=if ks.length<=4 then 0 else 1,plain:=true }
theorem sU {α: Type}:∀{l:List α}{i:Nat} (h:i<l.length),([l[i]]++l.eraseIdx i).Perm l
 |x :: l,0,_ => .refl _
 |x :: l,i+1,h=>by
  have h':i<l.length:=by simpa using h
  have:=sU h'
  rw[List.eraseIdx_cons_succ,List.getElem_cons_succ]
  exact(List.Perm.swap _ _ _).trans (List.Perm.cons x this)
theorem aDw (f:Nat->Nat):∀(n k:Nat) (l:List α) (o:Array α),l.length=n->(Bp f n k l o).toList.Perm (o.toList++l)
 |0,_,[],o,_=>by rw[Bp,iq]
 |n+1,k,l,o,h=>by
  have hl:f k % l.length<l.length:=Nat.mod_lt _ (by lia)
  rw[Bp,ah hl]
  refine(aDw f n (k+1) _ _ (by rw[List.length_eraseIdx,if_pos hl];lia)).trans ?_
  rw[Array.toList_push,gq]
  exact zu _ (sU hl)
theorem aEp (f:Nat->Nat)(xs:Array α): (pickOrder f xs).toList.Perm xs.toList:=by
 have:=aDw f xs.size 0 xs.toList #[] (fm ..)
 simpa[pickOrder] using this
def byT (w:World):Bool:=w.params.followText "set-order"
abbrev smO (w:World)(es:Array (Int×Value))(ep:Nat)(ks:List Nat):Obj:={ cls := .type "set",dict:=none,data := .set es ep (smT (!byT w) ks) }
theorem aDK {h: Heap}{a: Addr}{es es': Array (Int×Value)}{ep: Nat}{ks: List Nat}{t t': SetTable}{o: Obj}(ho:h.get? a=some o)(ed:o.data = .set es ep t): (h.update a (Obj.putSet es' t')).get? a=some { o with data := .set es' (ep+1) t' }:=by
 have:=je (Obj.putSet es' t') ho (by rw[putSet_of es' t' ed];rfl)
 rw[putSet_of es' t' ed] at this
 exact this
theorem aLf (a:Value)(h:Q₁ (.ref s.heap.objs.size) { s with heap:=s.heap.push (smO w #[] 0 []) }):
  wz (model prog w) A (.call (.builtin "set.__new__") ⟨[.type "set",a],[]⟩) (wants Q₁ E) s:=by
 refine zg ?_
 show wpAny _ A.in1 (do checkBuiltinCall "set.__new__" ⟨[.type "set",a],[]⟩;again (.builtin "set.__new__" ⟨[.type "set",a],[]⟩)) _ _ s
 refine af (vf (F.newCall_set_1 a) (aq ⟨qe F.plain_set_new _,jq F.entry_set_new ?_⟩))
 rw[jk F.plain_set_new _]
 unfold Builtin.«set.__new__» Builtin.Frozenset.newClass
 have hsub:=sub_set_self
 obtain⟨hp,g,d,tk,os⟩:=s
 dsimp only
 wp_walk
 refine nk (aq ?_)
 dsimp only
 simp only[newObj]
 refine af (wpAny_alloc (aq ?_))
 exact aq h
theorem qR:Manifest.owners.lookup (String.ofList ['r','o','t','a','r','e','t','i','_','t','e','s'].reverse)=some Manifest.sig_set_iterator:=by kernel_rfl
theorem bK:Slot "set_iterator" "__next__" "set_iterator.__next__":=
 .of (owner:="set_iterator") (n:="__next__") (by rw[typeLookup_type,Ab];kernel_rfl) (by decide+kernel) (by decide+kernel) (by decide+kernel)
  (by first | exact .inl (by decide+kernel) | exact .inr (by decide+kernel)) (by rw[Au];kernel_rfl)
theorem fB:entryFor table "set_iterator.__next__" = some Builtin.«set_iterator.__next__»:=entryFor_of_tree (by kernel_rfl)
theorem gK (a:Value):argsOk "set_iterator.__next__" ⟨[a],[]⟩:=by
 unfold argsOk;rw[signature?_of (id:="set_iterator.__next__") (n:=['_','_','t','x','e','n','_','_']) (o:=['r','o','t','a','r','e','t','i','_','t','e','s']) (by kernel_rfl) qR];kernel_rfl
theorem sN:entryFor table "set.__iter__" = some Builtin.«frozenset.__iter__»:=
 entryFor_alias (id':="frozenset.__iter__") (by kernel_rfl) rfl (by decide+kernel) (by kernel_rfl)
def SIt (it a:Addr)(slot i n ep:Nat)(h:Heap):Prop:=∃o,h.get? it=some o/\o.cls = .type "set_iterator"/\o.data = .fields #[me slot,me i, .ref a,me n,me ep]
def dJ (w:World)(ks:List Nat):Nat->Nat
 |0=>0
 |i+1=>if byT w then 0 else ks.getD i 0+1
def eK (w:World)(a:Addr)(ep:Nat)(es:Array (Int×Value)):Array (Int×Value):=if byT w then pickOrder (w.params.setOrder a ep) es else es
theorem iQ (w:World)(a:Addr)(ep:Nat)(es:Array (Int×Value)): (eK w a ep es).toList.Perm es.toList:=by
 unfold eK
 split
 ·exact aEp _ _
 ·exact .refl _
theorem SIt.step (x:SIt it a slot i n ep h):SIt it a slot' (i+1) n ep ((h.update it (yi (·.setIfInBounds 0 (me slot')))).update it (yi (·.setIfInBounds 1 (me ((i:Int)+1))))):=by
 obtain⟨o,h1,h2,h3⟩:=x
 have d1:=n4 h3 (·.setIfInBounds 0 (me slot'))
 have g1:=je (yi (·.setIfInBounds 0 (me slot'))) h1 (o6 d1)
 have d2:=n4 d1 (·.setIfInBounds 1 (me ((i:Int)+1)))
 exact⟨_,je _ g1 (o6 d2),(xm ..).trans ((xm ..).trans h2),by rw[d2];simp[me]⟩
theorem SIt.typeIs {s: Shared}{a: Addr}{ep: Nat}{it: Addr}{slot i n: Nat}(x:SIt it a slot i n ep s.heap):s.TypeIs (.ref it) "set_iterator":=let⟨o,h1,h2,_⟩:=x;⟨o,h1,h2⟩
end L2
namespace L2
open PySem PySem.Spec PySem.W PyProof.Rows
theorem fY:Slot "set_iterator" "__iter__" "set_iterator.__iter__":=
 .of (owner:="set_iterator") (n:="__iter__") (by rw[typeLookup_type,Ab];kernel_rfl) (by decide+kernel) (by decide+kernel) (by decide+kernel)
  (by first | exact .inl (by decide+kernel) | exact .inr (by decide+kernel)) (by rw[Au];kernel_rfl)
theorem mW:entryFor table "set_iterator.__iter__" = some Builtin.«dict_keyiterator.__iter__»:=
 entryFor_alias (id':="dict_keyiterator.__iter__") (by kernel_rfl) rfl (by decide+kernel) (by kernel_rfl)
theorem oG (a:Value):argsOk "set_iterator.__iter__" ⟨[a],[]⟩:=by
 unfold argsOk;rw[signature?_of (id:="set_iterator.__iter__") (n:=['_','_','r','e','t','i','_','_']) (o:=['r','o','t','a','r','e','t','i','_','t','e','s']) (by kernel_rfl) qR];kernel_rfl
theorem SIt.at (x:SIt it a sl i n ep h)(e:∀o,h.get? it=some o->h'.get? it=some o):SIt it a sl i n ep h':=let⟨o,ho,r⟩:=x;⟨o,e _ ho,r⟩
theorem aGm (hT:s.TypeIs (.ref a) "set")(h:Q false s):wpAny (model prog w) A (vo (.ref a)) Q E s:=by
 unfold vo
 refine af (ze hT PySem.F.slot_set_len.lookup ?_)
 generalize hid:("set.__len__" : String)=id0
 wp_delta
 rw[show splitId id0=some ("set","__len__") from by subst hid;decide+kernel]
 subst hid
 refine af (ue (T:="set") (b:=true) hT (by rw[Au];kernel_rfl) ?_)
 refine wpAny_ite_split (λhab=>absurd hab (by decide)) (λ_=>?_)
 refine wpAny_ite_split (λ_=>?_) (λhab=>absurd (by decide+kernel) hab)
 refine af (t8 hT ?_)
 exact aq h
def tCl (t:TA):TA:=λσ H Q=>∃R:List V->Hp->Prop,t σ H R/\∀vs H1,R vs H1->Q vs H1
theorem aNx (h:PA X es t):PA X es (tCl t):=λpos pins s σ H Q I ⟨R,h1,h2⟩=>thn (h pos pins s σ H R I h1) λus s1 ⟨vs,H1,I1,r,q⟩=>⟨vs,H1,I1,r,h2 vs H1 q⟩
end L2
namespace L2
open PySem PySem.Spec PyProof.Rows
def aAp (r r' r'':R2)(ta tb tc td:TE):TE:=λσ H Q=>ta σ H λx H1=>tb σ H1 λy H2=>r x y H2 λz H3=>∃k,z = .bl k /\
 (if k=true then tc σ H3 λw' H4=>r' y w' H4 λz2 H5=>∃k2,z2 = .bl k2/\(if k2=true then td σ H5 λu' H6=>r'' w' u' H6 Q else Q (.bl false) H5) else Q (.bl false) H3)
theorem aEG (ho:OpR X (jd op) r)(ho':OpR X (jd op') r')(ho'':OpR X (jd op'') r'')(ha:PE X a ta)(hb:PE X b tb)(hc:PE X c tc)(hd:PE X d td)(hm:lastMarks [op,op',op''] [b,c,d]=false:=by with_unfolding_all rfl):PE X (.Compare a [op,op',op''] [b,c,d] pos) (aAp r r' r'' ta tb tc td):=by
 intro pins s σ H Q I h
 refine Compare_chain (thn (ha pins s σ H _ I h) λv s1 ⟨x,H1,I1,r1,q1⟩=>chain_link (thn (hb pins s1 σ H1 _ I1 q1) λu s2 ⟨y,H2,I2,r2,q2⟩=>
  thn (ho pins s2 σ H2 x y v u _ I2 r1 r2 q2) λd s3 ⟨z,H3,I3,r3,k,e,q3⟩=>?_)) hm
 subst e
 cases r3
 refine ia ?_
 cases k with
 |false=>exact ite_ff ⟨.bl false,H3,I3,rfl,q3⟩
 |true=>
  refine ite_tt (chain_link (thn (hc pins s3 σ H3 _ I3 q3) λw' s4 ⟨z',H4,I4,r4,q4⟩=>thn (ho' pins s4 σ H4 y z' u w' _ I4 r2 r4 q4) λd' s5 ⟨z2,H5,I5,r5,k2,e2,q5⟩=>?_))
  subst e2
  cases r5
  refine ia ?_
  cases k2 with
  |false=>exact ite_ff ⟨.bl false,H5,I5,rfl,q5⟩
  |true=>exact ite_tt (chain_last (thn (hd pins s5 σ H5 _ I5 q5) λw2 s6 ⟨z3,H6,I6,r6,q6⟩=>ho'' pins s6 σ H6 z' z3 w' w2 Q I6 r4 r6 q6))
open PySem.SeqAt PySem.MeetsSeq3
theorem aKj {r q: List Int}:eqL (r.map Dt.int) (q.map Dt.int)=decide (r=q):=by
 by_cases h:r=q
 ·subst h;rw[decide_eq_true rfl,cZ]
 ·rw[decide_eq_false h]
  cases c:eqL (r.map Dt.int) (q.map Dt.int) with
  |false=>rfl
  |true=>exact absurd (uG c) h
open PySem.SeqAt PySem.MeetsSeq
open AutoSeq1 (wpAny_loadPart')
end L2
namespace L2
open PySem
end L2
namespace L2
open PySem PySem.Spec PyProof.Rows
end L2
namespace L2
open PySem PySem.W PyProof.Rows
open PySem.SeqAt
def Tri (K:aa)(H:Hp)(b:Addr)(row:List Int):Prop:=∃(q:Addr) (x y t z:Int),row=[x,y,t,z]/\SqT K H b [.int x, .int y, .ref q]/\SqT K H q ([t,z].map V.int)
def aCK (K:aa)(H:Hp)(xs:List V)(T:List (List Int)):Prop:=xs.length=T.length/\∀(i:Nat) (row:List Int),T[i]?=some row->∃b,xs[i]?=some (.ref b)/\Tri K H b row
end L2
namespace L2
open PySem PySem.Spec PyProof.Rows
theorem tP {pl: List Nat}(ris:pl.Pairwise (· < ·)){i m x y: Nat}(h:i<m)(hx:pl[i]?=some x)(hy:pl[m]?=some y):x<y:=by
 obtain⟨h1,rfl⟩:=ai.mp hx
 obtain⟨h2,rfl⟩:=ai.mp hy
 exact qo.mp ris i m h1 h2 h
theorem zT {pl: List Nat}{j: Nat}(ris:pl.Pairwise (· < ·)):∀(f lo hi:Nat),hi<=pl.length->lo<=hi->hi - lo<=f->(∀i x,i<lo->pl[i]?=some x->x<j)->(∀i x,hi<=i->pl[i]?=some x->j<=x) ->
  qf pl.toArray j f lo hi<=pl.length/\(∀i x,i<qf pl.toArray j f lo hi->pl[i]?=some x->x<j)/\∀i x,qf pl.toArray j f lo hi<=i->pl[i]?=some x->j<=x
 |0,lo,hi,h1,h2,h3,h4,h5=>by
  have e:lo=hi:=by lia
  subst e
  rw[qf]
  exact⟨h1,h4,h5⟩
 |f+1,lo,hi,h1,h2,h3,h4,h5=>by
  rw[qf]
  by_cases c:lo<hi
  ·rw[if_pos c]
   have hm:(lo+hi) / 2<pl.length:=by lia
   have em:pl[(lo+hi) / 2]?=some pl[(lo+hi) / 2]:=ah hm
   have eg:pl.toArray.getD ((lo+hi) / 2) j=pl[(lo+hi) / 2]:=by
    rw[dk,jy,em];rfl
   dsimp only
   rw[eg]
   by_cases d:pl[(lo+hi) / 2]<j
   ·rw[if_pos d]
    refine zT ris f _ hi h1 (by lia) (by lia) (λi x hi' hx=>?_) h5
    by_cases q:i=(lo+hi) / 2
    ·subst q;rw[em] at hx;cases hx;exact d
    ·have:=tP ris (show i<(lo+hi) / 2 by lia) hx em;lia
   ·rw[if_neg d]
    refine zT ris f lo _ (by lia) (by lia) (by lia) h4 λi x hi' hx=>?_
    by_cases q:i=(lo+hi) / 2
    ·subst q;rw[em] at hx;cases hx;lia
    ·have:=tP ris (show(lo+hi) / 2<i by lia) em hx;lia
  ·rw[if_neg c]
   have e:lo=hi:=by lia
   subst e
   exact⟨h1,h4,h5⟩
theorem eF {pl: List Nat}(ris:pl.Pairwise (· < ·))(j:Nat):c7 pl.toArray j<=pl.length/\(∀i x,i<c7 pl.toArray j->pl[i]?=some x->x<j)/\∀i x,c7 pl.toArray j<=i->pl[i]?=some x->j<=x:=by
 unfold c7
 refine zT ris _ 0 _ (by simp) (bg _) (by simp) (λi x h=>absurd h (ou _)) λi x h hx=>?_
 have:i<pl.length:=(ai.mp hx).1
 have:pl.toArray.size=pl.length:=by simp
 lia
theorem aGy {pl: List Nat}(ris:pl.Pairwise (· < ·)){i j: Nat}(h:pl[i]?=some j):c7 pl.toArray j=i:=by
 obtain⟨b1,b2,b3⟩:=eF ris j
 rcases tq (c7 pl.toArray j) i with c | c | c
 ·have hl:c7 pl.toArray j<pl.length:=Nat.lt_trans c (ai.mp h).1
  have e:=ah hl
  have:=b3 _ _ (bc _) e
  have:=tP ris c e h
  lia
 ·exact c
 ·have:=b2 i j c h;lia
theorem aCB {pl: List Nat}(ris:pl.Pairwise (· < ·)){i j: Nat}(h:pl[i]?=some j):c7 pl.toArray (j+1)=i+1:=by
 obtain⟨b1,b2,b3⟩:=eF ris (j+1)
 have hi:=(ai.mp h).1
 rcases tq (c7 pl.toArray (j+1)) (i+1) with c | c | c
 ·have:=b3 i j (by lia) h;lia
 ·exact c
 ·have hl:i+1<pl.length:=by lia
  have e:=ah hl
  have:=b2 _ _ c e
  have:=tP ris (k9 i) h e
  lia
theorem aCz {pl: List Nat}(ris:pl.Pairwise (· < ·)):c7 pl.toArray 0=0:=by
 obtain⟨b1,b2,b3⟩:=eF ris 0
 refine b9 λc=>?_
 have hl:0<pl.length:=by lia
 have:=b2 0 _ (by lia) (ah hl)
 lia
theorem slot_in {t: SetTable}{pl: List Nat}(hp:t.place=pl.toArray)(ris:pl.Pairwise (· < ·)){i j: Nat}(h:pl[i]?=some j):t.slot j = .live i:=by
 unfold SetTable.slot
 rw[hp]
 dsimp only
 rw[aGy ris h,jy,h,if_pos (by simp)]
theorem aFO {t: SetTable}{pl: List Nat}(hp:t.place=pl.toArray)(hd:t.dummies=#[]){j: Nat}(h:j∉pl):t.slot j = .empty:=by
 unfold SetTable.slot
 rw[hp,hd]
 dsimp only
 have e1:(pl.toArray[c7 pl.toArray j]? == some j)=false:=by
  rw[<- gx]
  intro z
  have:=vc z
  rw[jy] at this
  exact h (ar this)
 have e2:Ac #[] j=false:=by
  unfold Ac
  rw[<- gx]
  intro z
  have:=vc z
  simp at this
 rw[e1,e2]
 rfl
def rnL (mask i:Nat):List Nat:=(ao (js mask i+1 - i)).map (i + ·)
def aHD (mask:Nat):Nat->Nat->Nat->List Nat
 |0,_,_=>[]
 |f+1,i,p=>rnL mask i++aHD mask f (gu mask i p).1 (gu mask i p).2
inductive Fut (mask:Nat):SetTable.Probe->List Nat->Prop
 |nil (p):Fut mask p []
 |one (p) (x:Nat) (e:p.j=x):Fut mask p [x]
 |more (p:SetTable.Probe) (x:Nat) (L:List Nat) (e:p.j=x) (h0:0<p.more) (h:Fut mask { p with j:=p.j+1,more:=p.more - 1 } L):Fut mask p (x :: L)
 |leap (p:SetTable.Probe) (x:Nat) (L:List Nat) (e:p.j=x) (h0:p.more=0) (h:Fut mask { p with j:=(gu mask p.i p.perturb).1,more:=js mask (gu mask p.i p.perturb).1 - (gu mask p.i p.perturb).1,i:=(gu mask p.i p.perturb).1,perturb:=(gu mask p.i p.perturb).2 } L):Fut mask p (x :: L)
theorem aDA (h:Fut mask { j:=(gu mask i pt).1,more:=js mask (gu mask i pt).1 - (gu mask i pt).1,i:=(gu mask i pt).1,perturb:=(gu mask i pt).2,dummy:=none } L):
  ∀(m j:Nat),Fut mask { j:=j,more:=m,i:=i,perturb:=pt,dummy:=none } ((ao (m+1)).map (j + ·)++L)
 |0,j=>by
  show Fut mask _ ((j+0) :: L)
  exact .leap _ _ _ rfl rfl h
 |m+1,j=>by
  have e:(ao (m+1+1)).map (j + ·)=j :: (ao (m+1)).map (j+1 + ·):=by
   rw[so,cf,dw]
   congr 1
   exact gw λx _=>by show j+(x+1)=j+1+x;lia
  rw[e]
  exact .more _ _ _ rfl (Nat.succ_pos _) (aDA h m (j+1))
theorem aFh:i<=js mask i:=by unfold js;split <;> lia
theorem vC:∀(f i pt:Nat),Fut mask { j:=i,more:=js mask i - i,i:=i,perturb:=pt,dummy:=none } (aHD mask f i pt)
 |0,i,pt => .nil _
 |f+1,i,pt=>by
  have:=aDA (vC f (gu mask i pt).1 (gu mask i pt).2) (js mask i - i) i
  show Fut mask _ ((ao (js mask i+1 - i)).map (i + ·)++_)
  have e:js mask i+1 - i=js mask i - i+1:=by have:=aFh (mask:=mask) (i:=i);lia
  rw[e]
  exact this
theorem aEC {t: SetTable}{pl: List Nat}(hp:t.place=pl.toArray)(hd:t.dummies=#[])(ris:pl.Pairwise (· < ·))(hs:Nat->Int)(h:Int):∀(L:List Nat) (f:Nat) (p:SetTable.Probe),Fut t.mask p L->p.dummy=none->L.length<=f->(∃x∈L,x∉pl) ->
  (∃L1 x L2,L=L1++x :: L2/\(∀y∈L1,y∈pl)/\x∉pl/\(∀i y,y∈L1->pl[i]?=some y->hs i≠h)/\xp t hs h f p=some (.empty x none)) \/
  (∃L1 x L2 i nx,L=L1++x :: L2/\(∀y∈L1,y∈pl)/\pl[i]?=some x/\hs i=h/\xp t hs h f p=some (.candidate x i nx))
 |[],f,p,_,_,_,⟨_,z,_⟩=>by cases z
 |x :: L,0,p,_,_,hl,_=>by simp at hl
 |x :: L,f+1,p,fu,pd,hl,⟨y,hy,hn⟩=>by
  have ej:p.j=x:=by cases fu <;> assumption
  rw[xp]
  by_cases hx:x∈pl
  ·obtain⟨i,hi⟩:=f6.mp hx
   rw[ej,slot_in hp ris hi]
   dsimp only
   by_cases c:hs i=h
   ·rw[if_pos (by simp[c])]
    exact .inr ⟨[],x,L,i,_,rfl,by simp,hi,c,rfl⟩
   ·rw[if_neg (by simp[c])]
    have hy:y∈L:=(bq.mp hy).resolve_left λe=>hn (e ▸ hx)
    have step:Fut t.mask (t.advance p) L/\(t.advance p).dummy=none:=by
     unfold SetTable.advance
     cases fu with
     |one=>cases hy
     |more _ _ _ _ h0 fu=>rw[if_pos h0];exact⟨fu,pd⟩
     |leap _ _ _ _ h0 fu=>rw[if_neg (by lia)];exact⟨fu,pd⟩
    have hl':L.length<=f:=by simpa using hl
    rcases aEC hp hd ris hs h L f _ step.1 step.2 hl' ⟨y,hy,hn⟩ with⟨L1,z,L2,e,q1,q2,q3,q4⟩ | ⟨L1,z,L2,k,nx,e,q1,q2,q3,q4⟩
    ·refine .inl ⟨x :: L1,z,L2,by rw[e];rfl,λv hv=>?_,q2,λi' v hv hi'=>?_,q4⟩
     ·rcases bq.mp hv with rfl | hv
      ·exact hx
      ·exact q1 v hv
     ·rcases bq.mp hv with rfl | hv
      ·have:i'=i:=by
        rcases tq i' i with q | q | q
        ·have:=tP ris q hi' hi;lia
        ·exact q
        ·have:=tP ris q hi hi';lia
       rw[this];exact c
      ·exact q3 i' v hv hi'
    ·refine .inr ⟨x :: L1,z,L2,k,nx,by rw[e];rfl,λv hv=>?_,q2,q3,q4⟩
     rcases bq.mp hv with rfl | hv
     ·exact hx
     ·exact q1 v hv
  ·rw[ej,aFO hp hd hx]
   dsimp only
   rw[pd]
   exact .inl ⟨[],x,L,rfl,by simp,hx,by simp,rfl⟩
def hT (k:List Int):Int:=reduceHash (Builtin.Tuple.tupleHashOf (k.map hashInt))
def aOn:Nat->List (List Int)
 |0=>[[]]
 |n+1=>aOn n++(aOn n).map (· ++ [(n:Int)])
def K28:List (List Int):=((aOn 6).drop 1).take 62
def nR (mask:Nat):Nat:=if mask=7 then 22 else if mask=31 then 20 else 12
def SL (mask:Nat)(h:Int):List Nat:=aHD mask (nR mask) (nh h % (mask+1)) (nh h)
def aFB:List Nat->List Nat
 |[]=>[]
 |x :: l=>if(aFB l).contains x then aFB l else x :: aFB l
theorem vI:∀{l:List Nat}{x:Nat},x∈aFB l->x∈l
 |[],_,h=>h
 |y :: l,x,h=>by
  rw[aFB] at h
  split at h
  ·exact ay _ (vI h)
  ·rcases bq.mp h with rfl | h
   ·exact cv ..
   ·exact ay _ (vI h)
theorem zQ:∀l:List Nat,(aFB l).Nodup
 |[]=>tx
 |x :: l=>by
  rw[aFB]
  split
  ·exact zQ l
  ·rename_i h
   exact gg.mpr ⟨λz=>h (List.contains_iff_mem.mpr z),zQ l⟩
theorem aKo {α: Type}[DecidableEq α]:∀(L M:List α),L.Nodup->(∀x∈L,x∈M)->L.length<=M.length
 |[],M,_,_=>bg _
 |x :: L,M,nd,h=>by
  have nd':=gg.mp nd
  have hx:=h x (cv ..)
  have:=aKo L (M.erase x) nd'.2 λy hy=>(An (λ(e:y=x)=>nd'.1 (by rw[<- e];exact hy))).mpr (h y (ay _ hy))
  rw[mr hx] at this
  have:0<M.length:=yv hx
  rw[da]
  lia
def moM (mask:Nat):Nat:=if mask=7 then 5 else if mask=31 then 19 else 30
def slB (k:List Int)(m:Nat):Bool:=decide (moM m<=(aFB (SL m (hT k))).length) && decide ((SL m (hT k)).length<=10*nu m) && (SL m (hT k)).all λx=>decide (x<=m)
theorem aLd: (K28.all λk=>slB k 7 && slB k 31 && slB k 127)=true:=by decide+kernel
theorem aNB: (K28.all λk=>K28.all λk'=>k == k' || !(hT k == hT k'))=true:=by decide+kernel
theorem aIf (h:k∈K28)(h':k'∈K28)(e:hT k=hT k'):k=k':=by
 have:=e9.mp (e9.mp aNB k h) k' h'
 rw[e,o9] at this
 rcases this with z | z
 ·exact vc z
 ·simp at z
def M3 (mask:Nat):Prop:=mask=7\/mask=31\/mask=127
theorem aGI (h:k∈K28)(hm:M3 m):moM m<=(aFB (SL m (hT k))).length/\(SL m (hT k)).length<=10*nu m/\∀x∈SL m (hT k),x<=m:=by
 have a:=e9.mp aLd k h
 simp only[dn] at a
 have b:slB k m=true:=by
  rcases hm with rfl | rfl | rfl
  ·exact a.1.1
  ·exact a.1.2
  ·exact a.2
 unfold slB at b
 simp only[dn,decide_eq_true_eq,e9] at b
 exact⟨b.1.1,b.1.2,b.2⟩
theorem aAz {k: List Int}(h:k∈K28){m: Nat}(hm:M3 m){pl: List Nat}(hl:pl.length<moM m):∃x∈SL m (hT k),x∉pl:=by
 refine b9 λc=>?_
 have:=aKo (aFB (SL m (hT k))) pl (zQ _) λx hx=>b9 λz=>c ⟨x,vI hx,z⟩
 have:=(aGI h hm).1
 lia
def Rch (mask:Nat)(pl:List Nat)(h:Int)(j:Nat):Prop:=∃L1 L2,SL mask h=L1++j :: L2/\∀x∈L1,x∈pl
theorem Rch.mono (r:Rch mask pl h j)(s:∀x∈pl,x∈pl'):Rch mask pl' h j:=
 let⟨L1,L2,e,q⟩:=r;⟨L1,L2,e,λx hx=>s x (q x hx)⟩
abbrev Us:= List (List Int×Addr)
structure Ptb (mask:Nat)(pl:List Nat)(us:Us):Prop where
 m:M3 mask
 len:pl.length=us.length
 ris:pl.Pairwise (· < ·)
 nd:(us.map (·.1)).Nodup
 mem:∀u∈us,u.1∈K28
 lim:us.length<=28
 rch:∀(i:Nat) (u:List Int×Addr) (j:Nat),us[i]?=some u->pl[i]?=some j->Rch mask pl (hT u.1) j
def esO (us:Us):Array (Int×Value):=(us.map λu=>(hT u.1,Value.ref u.2)).toArray
theorem aFl (us:Us){i: Nat}{u: List Int×Addr}(h:us[i]?=some u): ((esO us)[i]?.map (·.1)).getD 0=hT u.1:=by
 unfold esO
 rw[jy,aw,h]
 rfl
theorem aJE {t: SetTable}{pl: List Nat}{us: Us}{k: List Int}(hs:Nat->Int)(hh:∀(i:Nat) (u:List Int×Addr),us[i]?=some u->hs i=hT u.1)(P:Ptb t.mask pl us)(hp:t.place=pl.toArray)(hd:t.dummies=#[])(hl:pl.length<moM t.mask)(hk:k∈us.map (·.1)):
  ∃j i nx u,us[i]?=some u/\u.1=k/\t.probe hs (hT k) (t.probeStart (hT k))=some (.candidate j i nx):=by
 obtain⟨u,hu,rfl⟩:=b6.mp hk
 obtain⟨i,hi⟩:=f6.mp hu
 have hil:i<pl.length:=by rw[P.len];exact(ai.mp hi).1
 have hj:=ah hil
 obtain⟨M1,M2,eS,hM⟩:=P.rch i u _ hi hj
 have fu:Fut t.mask (t.probeStart (hT u.1)) (SL t.mask (hT u.1)):=vC _ _ _
 unfold t7
 rcases aEC hp hd P.ris hs (hT u.1) _ _ _ fu rfl (aGI (P.mem u hu) P.m).2.1 (aAz (P.mem u hu) P.m hl) with⟨L1,x,L2,e,q1,q2,q3,q4⟩ | ⟨L1,x,L2,i',nx,e,q1,q2,q3,q4⟩
 ·exfalso
  have hin:pl[i]∈L1:=by
   rw[eS] at e
   rcases List.append_eq_append_iff.mp e with⟨N,e1,e2⟩ | ⟨N,e1,e2⟩
   ·cases N with
    |nil=>
     simp at e2
     exact absurd (e2.1 ▸ fv hil) q2
    |cons y N=>
     injection e2 with e3 e4
     rw[e1,e3]
     exact df _ (cv ..)
   ·cases N with
    |nil=>
     simp at e2
     exact absurd (e2.1.symm ▸ fv hil) q2
    |cons y N=>
     injection e2 with e3 e4
     have:x∈M1:=by rw[e1,e3];exact df _ (cv ..)
     exact absurd (hM x this) q2
  exact q3 i _ hin hj (hh i u hi)
 ·have hil':i'<us.length:=by rw[<- P.len];exact(ai.mp q2).1
  have hi':=ah hil'
  refine⟨x,i',nx,us[i'],hi',?_,q4⟩
  rw[hh _ _ hi'] at q3
  exact aIf (P.mem _ (fv hil')) (P.mem u hu) q3
theorem aFV {t: SetTable}{pl: List Nat}{us: Us}{k: List Int}(hs:Nat->Int)(hh:∀(i:Nat) (u:List Int×Addr),us[i]?=some u->hs i=hT u.1)(P:Ptb t.mask pl us)(hp:t.place=pl.toArray)(hd:t.dummies=#[])(hl:pl.length<moM t.mask)(hK:k∈K28)(hk:k∉us.map (·.1)):
  ∃j,j∉pl/\Rch t.mask pl (hT k) j/\t.probe hs (hT k) (t.probeStart (hT k))=some (.empty j none):=by
 have fu:Fut t.mask (t.probeStart (hT k)) (SL t.mask (hT k)):=vC _ _ _
 unfold t7
 rcases aEC hp hd P.ris hs (hT k) _ _ _ fu rfl (aGI hK P.m).2.1 (aAz hK P.m hl) with⟨L1,x,L2,e,q1,q2,q3,q4⟩ | ⟨L1,x,L2,i',nx,e,q1,q2,q3,q4⟩
 ·exact⟨x,q2,⟨L1,L2,e,q1⟩,q4⟩
 ·exfalso
  have hil':i'<us.length:=by rw[<- P.len];exact(ai.mp q2).1
  have hi':=ah hil'
  rw[hh _ _ hi'] at q3
  exact hk (b6.mpr ⟨_,fv hil',aIf (P.mem _ (fv hil')) hK q3⟩)
def rN {α:Type}(l:List α)(p:Nat)(x:α):List α:=l.take p++x :: l.drop p
theorem oZ (l:List α)(p:Nat)(x:α): (rN l p x).Perm (x :: l):=by
 unfold rN
 refine List.perm_middle.trans ?_
 rw[pe]
theorem uZ (hp:p<=l.length)(h:(rN l p x)[i]?=some y): (i<p/\l[i]?=some y)\/(i=p/\y=x)\/(p<i/\l[i - 1]?=some y):=by
 unfold rN at h
 have lt:(l.take p).length=p:=by rw[c9];lia
 rcases tq i p with c | c | c
 ·rw[c6 (by lia),ke c] at h
  exact .inl ⟨c,h⟩
 ·rw[cw (by lia),lt,c,t9] at h
  exact .inr (.inl ⟨c,(bo h).symm⟩)
 ·rw[cw (by lia),lt] at h
  obtain⟨m,hm⟩:∃m,i - p=m+1:=⟨i - p - 1,by lia⟩
  rw[hm,List.getElem?_cons_succ,jl] at h
  exact .inr (.inr ⟨c,by rw[show i - 1=p+m by lia];exact h⟩)
theorem aGz (ris:pl.Pairwise (· < ·))(hj:j∉pl): (rN pl (c7 pl.toArray j) j).Pairwise (· < ·):=by
 obtain⟨b1,b2,b3⟩:=eF ris j
 have f1:∀x∈pl.take (c7 pl.toArray j),x<j:=λx hx=>by
  obtain⟨i,hi⟩:=f6.mp hx
  have hl:=(ai.mp hi).1
  rw[c9] at hl
  rw[ke (by lia)] at hi
  exact b2 i x (by lia) hi
 have f2:∀x∈pl.drop (c7 pl.toArray j),j<x:=λx hx=>by
  obtain⟨i,hi⟩:=f6.mp hx
  rw[jl] at hi
  have:=b3 _ x (jt _ _) hi
  have:x≠j:=λe=>hj (e ▸ ar hi)
  lia
 unfold rN
 refine Ao.mpr ⟨ris.take,wj.mpr ⟨f2,ris.drop⟩,λx hx y hy=>?_⟩
 have:=f1 x hx
 rcases bq.mp hy with rfl | hy
 ·exact this
 ·have:=f2 y hy;lia
section
variable {mask:Nat}{pl:List Nat}{us:Us}{k:List Int}
theorem Ptb.put (P:Ptb mask pl us)(hK:k∈K28)(hk:k∉us.map (·.1))(hj:j∉pl)(hr:Rch mask pl (hT k) j)(hlt:us.length<28):Ptb mask (rN pl (c7 pl.toArray j) j) (rN us (c7 pl.toArray j) (k,a)):=by
 obtain⟨b1,_,_⟩:=eF P.ris j
 have pp:=oZ pl (c7 pl.toArray j) j
 have pu:=oZ us (c7 pl.toArray j) (k,a)
 have sub:∀x∈pl,x∈rN pl (c7 pl.toArray j) j:=λx hx=>pp.mem_iff.mpr (ay _ hx)
 refine⟨P.m,by rw[pp.length_eq,pu.length_eq,da,da,P.len],aGz P.ris hj,?_,λu hu=>?_,by rw[pu.length_eq,da];lia,λi u x hu hx=>?_⟩
 ·refine(pu.map (·.1)).nodup_iff.mpr ?_
  exact gg.mpr ⟨hk,P.nd⟩
 ·rcases bq.mp (pu.mem_iff.mp hu) with rfl | hu
  ·exact hK
  ·exact P.mem u hu
 ·rcases uZ (by rw[<- P.len];exact b1) hu with⟨c,h1⟩ | ⟨c,h1⟩ | ⟨c,h1⟩
  ·rcases uZ b1 hx with⟨d,h2⟩ | ⟨d,h2⟩ | ⟨d,h2⟩
   ·exact(P.rch i u x h1 h2).mono sub
   ·lia
   ·lia
  ·rcases uZ b1 hx with⟨d,h2⟩ | ⟨d,h2⟩ | ⟨d,h2⟩
   ·lia
   ·rw[h1,h2];exact hr.mono sub
   ·lia
  ·rcases uZ b1 hx with⟨d,h2⟩ | ⟨d,h2⟩ | ⟨d,h2⟩
   ·lia
   ·lia
   ·exact(P.rch (i - 1) u x h1 h2).mono sub
theorem aJA (us:Us)(p:Nat)(k:List Int)(a:Addr):SetTable.insertAt (esO us) p (hT k, .ref a)=esO (rN us p (k,a)):=by
 apply ui.mp
 rw[xq]
 unfold esO rN
 simp[uz,yd]
theorem aMb (pl:List Nat)(p j:Nat):SetTable.insertAt pl.toArray p j=(rN pl p j).toArray:=by
 apply ui.mp
 rw[xq]
 unfold rN
 simp
structure Ow (mask:Nat)(owner:Array (Option Nat))(ps:List Nat):Prop where
 sz:owner.size=mask+1
 at_:∀i j,ps[i]?=some j↔owner.getD j none=some i
theorem Ow.free (O:Ow mask owner ps)(hx:x<=mask): (owner.getD x (some 0)).isNone=true↔x∉ps:=by
 have e:owner.getD x (some 0)=owner.getD x none:=by
  have:x<owner.size:=by rw[O.sz];lia
  rw[dk,dk,fi this];rfl
 rw[e]
 constructor
 ·intro h z
  obtain⟨i,hi⟩:=f6.mp z
  rw[(O.at_ i x).mp hi] at h
  cases h
 ·intro h
  cases ho:owner.getD x none with
  |none=>rfl
  |some i=>exact absurd (ar ((O.at_ i x).mpr ho)) h
theorem aEW (O:Ow mask owner ps):∀(R F i pt:Nat),R<=F->(∀x∈aHD mask R i pt,x<=mask)->(∃x∈aHD mask R i pt,x∉ps)->∃L1 x L2,aHD mask R i pt=L1++x :: L2/\(∀y∈L1,y∈ps)/\x∉ps/\nv mask owner F i pt=some x
 |0,F,i,pt,_,_,⟨x,hx,_⟩=>by cases hx
 |R+1,0,i,pt,h,_,_=>by lia
 |R+1,F+1,i,pt,h,hm,⟨x,hx,hn⟩=>by
  rw[nv]
  have hm1:∀x∈rnL mask i,x<=mask:=λx hx=>hm x (fe _ hx)
  cases hf:(ao (js mask i+1 - i)).find? (λk=>(owner.getD (i+k) (some 0)).isNone) with
  |some k=>
   dsimp only
   obtain⟨q1,as,bs,q2,q3⟩:=List.find?_eq_some_iff_append.mp hf
   have er:rnL mask i=as.map (i + ·)++(i+k) :: bs.map (i + ·):=by unfold rnL;rw[q2,bj,cf]
   refine⟨as.map (i + ·),i+k,bs.map (i + ·)++aHD mask R (gu mask i pt).1 (gu mask i pt).2,?_,λy hy=>?_,?_,rfl⟩
   ·show rnL mask i++_=_
    rw[er,gq];rfl
   ·obtain⟨m,hm',rfl⟩:=b6.mp hy
    have:=q3 m hm'
    refine b9 λc=>?_
    have z:=(O.free (hm1 _ (by rw[er];exact fe _ (vp hm')))).mpr c
    rw[z] at this
    cases this
   ·exact(O.free (hm1 _ (by rw[er];exact df _ (cv ..)))).mp q1
  |none=>
   dsimp only
   have all:∀y∈rnL mask i,y∈ps:=λy hy=>by
    have hy':=hm1 y hy
    unfold rnL at hy
    obtain⟨m,hm',rfl⟩:=b6.mp hy
    refine b9 λc=>?_
    have:=List.find?_eq_none.mp hf m hm'
    exact this ((O.free hy').mpr c)
   have hx:x∈aHD mask R (gu mask i pt).1 (gu mask i pt).2:=by
    rcases di.mp hx with hx | hx
    ·exact absurd (all x hx) hn
    ·exact hx
   obtain⟨L1,y,L2,e,q1,q2,q3⟩:=aEW O R F _ _ (by lia) (λx hx=>hm x (df _ hx)) ⟨x,hx,hn⟩
   refine⟨rnL mask i++L1,y,L2,by show rnL mask i++_=_;rw[e,gq],λz hz=>?_,q2,q3⟩
   rcases di.mp hz with hz | hz
   ·exact all z hz
   ·exact q1 z hz
theorem Ow.step (O:Ow mask owner ps)(hj:j∉ps)(hm:j<=mask):Ow mask (owner.setIfInBounds j (some ps.length)) (ps++[j]):=by
 refine⟨by rw[Array.size_setIfInBounds,O.sz],λi x=>?_⟩
 have hjs:j<owner.size:=by rw[O.sz];lia
 have e:(owner.setIfInBounds j (some ps.length)).getD x none=if j=x then some ps.length else owner.getD x none:=by
  rw[dk,dk,Array.getElem?_setIfInBounds]
  by_cases c:j=x
  ·subst c;rw[if_pos rfl,if_pos hjs,if_pos rfl];rfl
  ·rw[if_neg c,if_neg c]
 rw[e]
 by_cases c:j=x
 ·subst c
  rw[if_pos rfl]
  constructor
  ·intro h
   rcases Bq i ps.length with d | d
   ·rw[c6 d] at h
    exact absurd (ar h) hj
   ·have hl:=(ai.mp h).1
    rw[au] at hl
    have:i=ps.length:=by simp at hl;lia
    rw[this]
  ·intro h
   cases h
   rw[cw (bc _),t9];rfl
 ·rw[if_neg c,<- O.at_]
  constructor
  ·intro h
   rcases Bq i ps.length with d | d
   ·rwa[c6 d] at h
   ·rw[cw d] at h
    rcases cq.mp (ar h) with rfl
    exact absurd rfl c
  ·intro h
   rw[c6 (ai.mp h).1];exact h
end
def aKv (mask:Nat)(acc:Option (Array (Option Nat)×Nat))(h:Int):Option (Array (Option Nat)×Nat):=do
 let(owner,k) <- acc
 let j <- nv mask owner (nu mask) (nh h % (mask+1)) (nh h)
 pure (owner.setIfInBounds j (some k),k+1)
theorem aNr (mask:Nat):nR mask<=nu mask:=by
 unfold nR nu
 split
 ·lia
 ·split <;> lia
theorem aEh (hm:M3 mask):∀(vs:Us) (owner:Array (Option Nat)) (ps:List Nat),Ow mask owner ps->(∀u∈vs,u.1∈K28)->ps.length+vs.length<=moM mask ->
  ∃owner' qs,(vs.map λu=>hT u.1).foldl (aKv mask) (some (owner,ps.length))=some (owner',ps.length+vs.length)/\Ow mask owner' (ps++qs)/\qs.length=vs.length/\∀(i:Nat) (u:List Int×Addr) (j:Nat),vs[i]?=some u->qs[i]?=some j->Rch mask (ps++qs) (hT u.1) j
 |[],owner,ps,O,_,_=>⟨owner,[],rfl,by rw[iq];exact O,rfl,λi u j h=>by cases h⟩
 |u :: vs,owner,ps,O,hK,hl=>by
  rw[da] at hl
  have hu:=hK u (cv ..)
  have sl:=aGI hu hm
  obtain⟨L1,x,L2,e,q1,q2,q3⟩:=aEW O (nR mask) (nu mask) (nh (hT u.1) % (mask+1)) (nh (hT u.1)) (aNr mask) sl.2.2 (aAz hu hm (by lia))
  have hx:x<=mask:=sl.2.2 x (by show x∈aHD mask _ _ _;rw[e];exact df _ (cv ..))
  have O':=O.step q2 hx
  have ln:(ps++[x]).length=ps.length+1:=by rw[au];rfl
  obtain⟨ow,qs,r1,r2,r3,r4⟩:=aEh hm vs _ (ps++[x]) O' (λv hv=>hK v (ay _ hv)) (by rw[ln];lia)
  have es:ps++[x]++qs=ps++x :: qs:=by rw[gq];rfl
  rw[es] at r2 r4
  refine⟨ow,x :: qs,?_,r2,by rw[da,r3];rfl,λi v j hv hj=>?_⟩
  ·rw[cf,List.foldl_cons]
   have:aKv mask (some (owner,ps.length)) (hT u.1)=some (owner.setIfInBounds x (some ps.length),(ps++[x]).length):=by
    unfold aKv
    rw[ln]
    show(nv mask owner (nu mask) (nh (hT u.1) % (mask+1)) (nh (hT u.1)) >>= _)=_
    rw[q3]
    rfl
   rw[this,r1,ln,da]
   congr 2
   lia
  ·cases i with
   |zero=>
    cases hv
    cases hj
    exact⟨L1,L2,e,λy hy=>fe _ (q1 y hy)⟩
   |succ i=>exact r4 i v j hv hj
def kW (mask:Nat)(owner:Array (Option Nat)):List (Nat×Nat):=(ao (mask+1)).filterMap λj=>(owner.getD j none).map (j,·)
theorem aFK (O:Ow mask owner ps): (j,i)∈kW mask owner↔ps[i]?=some j:=by
 unfold kW
 rw[rj,O.at_]
 constructor
 ·rintro⟨x,_,h⟩
  obtain⟨y,hy,e⟩:=jm.mp h
  cases e
  exact hy
 ·intro h
  refine⟨j,az.mpr ?_,by rw[h];rfl⟩
  refine b9 λc=>?_
  rw[dk,jn (by rw[O.sz];lia)] at h
  cases h
theorem aBz (owner:Array (Option Nat)): (kW mask owner).Pairwise λa b=>a.1<b.1:=by
 unfold kW
 refine List.Pairwise.filterMap _ (λa b h x hx y hy=>?_) sr
 obtain⟨_,_,rfl⟩:=jm.mp hx
 obtain⟨_,_,rfl⟩:=jm.mp hy
 exact h
theorem aIw {α β: Type}{f: α->Option β}{g: α->β}:∀{l:List α},(∀x∈l,f x=some (g x))->l.filterMap f=l.map g
 |[],_=>rfl
 |x :: l,h=>by rw[List.filterMap_cons_some (h x (cv ..)),cf,aIw λy hy=>h y (ay _ hy)]
theorem aDE (P:Ptb mask pl us)(t:SetTable)(hw:n9 wanted - 1=m')(hm:M3 m')(hl:us.length<=moM m'):∃pl' us' ord,t.relaid ((esO us).map (·.1)) wanted=some ({ mask:=m',place:=pl'.toArray,dummies:=#[],finger:=t.finger,led:=t.led,moves:=t.movedTo m',plain:=t.plain },ord)/\ord.filterMap ((esO us)[·]?)=esO us'/\Ptb m' pl' us'/\us'.Perm us:=by
 have O0:Ow m' (vq (m'+1) none) []:=by
  refine⟨by simp,λi j=>?_⟩
  constructor
  ·intro h
   simp at h
  ·intro h
   rw[dk] at h
   by_cases c:j<m'+1
   ·rw[fi (by simpa using c)] at h
    simp at h
   ·rw[jn (by simpa using c)] at h
    cases h
 obtain⟨ow,ps,r1,O,r3,r4⟩:=aEh hm us _ [] O0 P.mem (by rw[rn];lia)
 rw[vd] at O r4
 have ml:=λj i=>aFK O (j:=j) (i:=i)
 have sn:∀p∈kW m' ow,p.2<us.length:=λp hp=>by
  have:=(ml p.1 p.2).mp hp
  rw[<- r3]
  exact(ai.mp this).1
 have ond:((kW m' ow).map (·.2)).Nodup:=by
  rw[k8,mw]
  refine List.Pairwise.imp_of_mem (λ{a b} ha hb hab e=>?_) (aBz ow)
  have h1:=(ml a.1 a.2).mp ha
  have h2:=(ml b.1 b.2).mp hb
  rw[e] at h1
  rw[h1] at h2
  have:=bo h2
  lia
 have operm:((kW m' ow).map (·.2)).Perm (ao us.length):=by
  refine(j8 ond ji).mpr λi=>?_
  rw[b6,az]
  constructor
  ·rintro⟨p,hp,rfl⟩
   exact sn p hp
  ·intro hi
   have:=ah (show i<ps.length by lia)
   exact⟨(ps[i],i),(ml _ _).mpr this,rfl⟩
 have em:((kW m' ow).map (·.2)).filterMap (us[·]?)=(kW m' ow).map λp=>us.getD p.2 ([],0):=by
  rw[List.filterMap_map]
  refine aIw λp hp=>?_
  show us[p.2]?=_
  rw[aj,ah (sn p hp)]
  rfl
 have eu:(((kW m' ow).map (·.2)).filterMap (us[·]?)).Perm us:=by
  have:=operm.filterMap (us[·]?)
  rw[List.filterMap_getElem?_range_length us] at this
  exact this
 refine⟨(kW m' ow).map (·.1),((kW m' ow).map (·.2)).filterMap (us[·]?),((kW m' ow).map (·.2)).toArray,?_,?_,?_,eu⟩
 ·unfold SetTable.relaid SetTable.laid SetTable.layClean
  rw[hw]
  have eh:((esO us).map (·.1))=(us.map λu=>hT u.1).toArray:=by
   apply ui.mp
   unfold esO
   simp
  have ef:((us.map λu=>hT u.1).toArray.foldl (init:=some (vq (m'+1) none,0)) (aKv m')).map (·.1)=some ow:=by
   rw[<- Array.foldl_toList]
   show((us.map λu=>hT u.1).foldl (aKv m') (some (vq (m'+1) none,0))).map _=_
   have:=r1
   rw[rn] at this
   rw[this]
   rfl
  rw[eh]
  show((((us.map λu=>hT u.1).toArray.foldl (init:=some (vq (m'+1) none,0)) (aKv m')).map (·.1)) >>= λowner=>_)=_
  rw[ef]
  rfl
 ·apply ui.mp
  rw[Array.toList_filterMap]
  unfold esO
  rw[List.map_filterMap]
  congr 1
  funext i
  rw[jy,aw]
 ·refine⟨hm,by rw[eu.length_eq,ae,<- operm.length_eq.trans br,ae],?_,(eu.map _).nodup_iff.mpr P.nd,λu hu=>P.mem u (eu.mem_iff.mp hu),by rw[eu.length_eq];exact P.lim,λa u j hu hj=>?_⟩
  ·rw[mw];exact aBz ow
  ·rw[em,aw] at hu
   rw[aw] at hj
   obtain⟨p,hp,rfl⟩:=jm.mp hj
   rw[hp] at hu
   have hpm:=ar hp
   have hi:=sn p hpm
   have eu':us[p.2]?=some u:=by
    have:us.getD p.2 ([],0)=u:=bo hu
    rw[aj,ah hi] at this
    rw[ah hi,<- this];rfl
   refine(r4 p.2 u p.1 eu' ((ml _ _).mp hpm)).mono λx hx=>?_
   obtain⟨i,hi⟩:=f6.mp hx
   exact b6.mpr ⟨(x,i),(ml _ _).mpr hi,rfl⟩
def spT (led:Bool)(mask:Nat)(pl:List Nat)(mv:Nat):SetTable:={ mask:=mask,place:=pl.toArray,dummies:=#[],finger:=0,led:=led,moves:=mv,plain:=true }
abbrev spO (w:World)(us:Us)(ep mask:Nat)(pl:List Nat)(mv:Nat):Obj:={ cls := .type "set",dict:=none,data := .set (esO us) ep (spT (!byT w) mask pl mv) }
def aBh (w:World)(a:Addr)(us:Us)(h:Heap):Prop:=∃ep mask pl mv,h.get? a=some (spO w us ep mask pl mv)/\Ptb mask pl us/\us.length*5<mask*3
theorem Ptb.few (P:Ptb mask pl us):us.length<=28:=P.lim
theorem fA (P:Ptb mask pl us)(h:us.length*5<mask*3+5)(led:Bool)(mv:Nat): (spT led mask pl mv).fits (esO us).size=true:=by
 have l:=P.len
 unfold spT SetTable.fits SetTable.fill esO
 simp only[av,ae,rn,Nat.add_zero,dn,beq_iff_eq,decide_eq_true_eq]
 refine⟨l,?_⟩
 rcases P.m with rfl | rfl | rfl <;> lia
theorem Ptb.room (P:Ptb mask pl us)(h:us.length*5<mask*3):pl.length<moM mask:=by
 have:=P.few
 rw[P.len]
 rcases P.m with rfl | rfl | rfl
 ·show us.length<5;lia
 ·show us.length<19;lia
 ·show us.length<30;lia
theorem wM (hk:j6 (mh prog w) s.heap k b)(h:Q false s):wpAny (model prog w) A (tu (m+1) (.ref b)) Q E s:=by
 have hT:=hk.typeIs
 obtain⟨o,items,n,ho,_,hd,hi⟩:=hk
 unfold tu
 refine af (t8 hT ?_)
 dsimp only
 refine af (aq ?_)
 simp only[yj,gc,if_false]
 refine af (jh ho hd ?_)
 dsimp only
 refine af ?_
 rw[<- Array.forIn_toList]
 refine uf _ (λrest r s'=>r.1=none/\s'=s/\∃ks:List Int,PySem.ItemsAre (mh prog w) ks rest) _ ?_ ?_ _ _ ⟨rfl,rfl,_,hi⟩
 ·rintro v rest r s' ⟨hr,rfl,ks,hall⟩
  cases hall with
  |cons hv hr'=>
   obtain⟨t,rfl⟩:=xg hv
   have e:∀z:Int,tu m (.int z t)=pure false:=λz=>by unfold tu;cases m <;> rfl
   rw[e]
   refine af (aq ?_)
   simp only[gc,if_false]
   exact aq ⟨rfl,rfl,_,hr'⟩
 ·rintro⟨r1,r2⟩ s' ⟨hr,rfl,_⟩
  simp only at hr
  subst hr
  exact aq h
theorem aFv (hk:j6 (mh prog w) s.heap k b)(h:Q true s):wpAny (model prog w) A (AH (m+1) (.ref b)) Q E s:=by
 have hT:=hk.typeIs
 obtain⟨o,items,n,ho,_,hd,hi⟩:=hk
 unfold AH
 refine af (ze hT F.slot_tuple_hash.lookup ?_)
 dsimp only
 refine af (jh ho hd ?_)
 refine af ?_
 show wpAny _ _ (forIn items _ _) _ _ s
 rw[<- Array.forIn_toList]
 refine uf _ (λrest r s'=>r.1=none/\s'=s/\∃ks:List Int,PySem.ItemsAre (mh prog w) ks rest) _ ?_ ?_ _ _ ⟨rfl,rfl,_,hi⟩
 ·rintro v rest r s' ⟨hr,rfl,ks,hall⟩
  cases hall with
  |cons hv hr'=>
   obtain⟨t,rfl⟩:=xg hv
   have e:∀z:Int,AH m (.int z t)=pure true:=λz=>by unfold AH;cases m <;> rfl
   rw[e]
   refine af (aq ?_)
   simp only[yj,gc,if_false]
   exact aq ⟨rfl,rfl,_,hr'⟩
 ·rintro⟨r1,r2⟩ s' ⟨hr,rfl,_⟩
  simp only at hr
  subst hr
  exact aq h
theorem aMs (hk:j6 (mh prog w) s.heap k b)(ys:List Value)(hy:∀y∈ys,∃k' b',y = .ref b'/\j6 (mh prog w) s.heap k' b')(h:Q false s):wpAny (model prog w) A (searchCouldBeSeen (.ref b) ys) Q E s:=by
 unfold searchCouldBeSeen
 refine af ?_
 refine uf _ (λrest r s'=>r.1=none/\s'=s/\∀y∈rest,∃k' b',y = .ref b'/\j6 (mh prog w) s.heap k' b') _ ?_ ?_ _ _ ⟨rfl,rfl,hy⟩
 ·rintro v rest r s' ⟨hr,rfl,hall⟩
  obtain⟨k',b',rfl,hk'⟩:=hall v cv
  have hall':∀y∈rest,∃k' b',y = .ref b'/\j6 (mh prog w) s'.heap k' b':=λy hy=>hall y (ay _ hy)
  dsimp only
  split
  ·exact aq ⟨rfl,rfl,hall'⟩
  ·refine af (Ad hk ?_)
   simp only[yj,gc,if_false]
   refine af (Ad hk' ?_)
   simp only[yj,gc,if_false]
   refine af (wM hk ?_)
   simp only[gc,if_false]
   refine af (wM hk' ?_)
   simp only[gc,if_false]
   exact aq ⟨rfl,rfl,hall'⟩
 ·rintro⟨r1,r2⟩ s' ⟨hr,rfl,_⟩
  simp only at hr
  subst hr
  exact aq h
theorem aJk (P:Ptb mask pl us)(led:Bool): (spT led mask pl mv).gaveWay=false:=by
 rcases P.m with rfl | rfl | rfl
 ·show(7 % 2 == 0)=false;decide
 ·show(31 % 2 == 0)=false;decide
 ·show(127 % 2 == 0)=false;decide
theorem aET (hu:A.units<cLine)(ho:s.heap.get? a=some (spO w us ep mask pl mv))(P:Ptb mask pl us)(hf:us.length*5<mask*3)(hB:∀u∈us,j6 (mh prog w) s.heap u.1 u.2)(hK:k∈K28)(hk:j6 (mh prog w) s.heap k b)(q1:k∈us.map (·.1)->Q (.there none) s)(q2:k∉us.map (·.1)->∀j,j∉pl->Rch mask pl (hT k) j->Q (.free j false) s):wpAny (model prog w) A (setSearch a (.ref b) (hT k) (adding:=true)) Q E s:=by
 have fits:=fA P (by lia) (!byT w) mv
 unfold setSearch setSearchFrom
 refine af (jz ho rfl fits ?_)
 dsimp only
 rw[if_neg (by rw[aJk P];exact cy)]
 by_cases hm:k∈us.map (·.1)
 ·obtain⟨j,i,nx,u,hi,ek,e⟩:=aJE (t:=spT (!byT w) mask pl mv) (λi=>((esO us)[i]?.map (·.1)).getD 0) (λi u h=>aFl us h) P rfl rfl (P.room hf) hm
  split
  ·rename_i met hmet
   have em:met = .candidate j i nx:=bo (hmet.symm.trans e)
   subst em
   dsimp only
   have hu':=ar hi
   have stored:∀y∈(((esO us).filter (·.1 == hT k)).toList.map (·.2)),∃k' b',y=Value.ref b'/\j6 (mh prog w) s.heap k' b':=λy hy=>by
    obtain⟨z,hz,rfl⟩:=b6.mp hy
    rw[Array.toList_filter] at hz
    have hz:=(fg.mp hz).1
    unfold esO at hz
    obtain⟨v,hv,rfl⟩:=b6.mp hz
    exact⟨v.1,v.2,rfl,hB v hv⟩
   have ei:(esO us)[i]?=some (hT u.1, .ref u.2):=by unfold esO;rw[jy,aw,hi];rfl
   rw[ei]
   dsimp only
   by_cases c:(!(spT (!byT w) mask pl mv).led)=true
   ·rw[if_pos c]
    refine af (aMs hk _ stored ?_)
    rw[if_neg cy]
    refine af (gj (wpAny_eqBool_tuple hu (hB u hu') hk ?_))
    refine af (jz ho rfl fits ?_)
    dsimp only
    rw[if_pos (by simp[ek])]
    exact aq (q1 hm)
   ·rw[if_neg c]
    refine af (gj (wpAny_eqBool_tuple hu (hB u hu') hk ?_))
    refine af (jz ho rfl fits ?_)
    dsimp only
    rw[if_pos (by simp[ek])]
    exact aq (q1 hm)
  ·rename_i hno
   exact absurd e (hno _)
 ·obtain⟨j,hj,hr,e⟩:=aFV (t:=spT (!byT w) mask pl mv) (λi=>((esO us)[i]?.map (·.1)).getD 0) (λi u h=>aFl us h) P rfl rfl (P.room hf) hK hm
  split
  ·rename_i met hmet
   have em:met = .empty j none:=bo (hmet.symm.trans e)
   subst em
   dsimp only
   exact aq (q2 hm j hj hr)
  ·rename_i hno
   exact absurd e (hno _)
theorem aMh (led:Bool)(j:Nat): (spT led mask pl mv).put j=(spT led mask (rN pl (c7 pl.toArray j) j) mv,c7 pl.toArray j):=by
 unfold SetTable.put spT
 have e2:Ac #[] j=false:=by
  unfold Ac
  rw[<- gx]
  intro z
  have:=vc z
  simp at this
 dsimp only
 rw[e2,aMb]
 rfl
theorem aKk (led:Bool): (spT led mask pl mv).tooFull=decide (pl.length*5≥mask*3):=by
 unfold SetTable.tooFull SetTable.fill spT
 simp
theorem aHE {s: Shared}{a: Addr}{us: Us}{ep mask mv: Nat}{pl: List Nat}{us': Us}{m' wanted: Nat}(ho:s.heap.get? a=some (spO w us ep mask pl mv))(P:Ptb mask pl us)(hf:us.length*5<mask*3+5)(hw:n9 wanted - 1=m')(hz:¬ n9 wanted > bx)(hm:M3 m')(hl:us.length<=moM m')(q:∀h' us' ep' pl' mv',jb a s.heap h'->h'.get? a=some (spO w us' ep' m' pl' mv')->Ptb m' pl' us'->us'.Perm us->Q () { s with heap:=h' }):wpAny (model prog w) A (setRelay a wanted) Q E s:=by
 have fits:=fA P hf (!byT w) mv
 obtain⟨pl',us',ord,e1,e2,P',pm⟩:=aDE P (spT (!byT w) mask pl mv) hw hm hl
 unfold setRelay
 refine af (jz ho rfl fits ?_)
 dsimp only
 rw[if_neg hz,e1]
 refine af ?_
 have sz:(esO us').size=(esO us).size:=by unfold esO;simp[pm.length_eq]
 show wpAny _ _ (if((ord.filterMap ((esO us)[·]?)).size != (esO us).size)=true then _ else pure (ord.filterMap ((esO us)[·]?),_)) _ _ _
 rw[e2,if_neg (by simp[sz])]
 refine aq ?_
 have lz:(esO us').size<=bx:=by
  have:=P'.few
  unfold esO
  rw[av,ae,ly]
  lia
 refine wpAny_storeSet_of ho rfl ?_ lz
 exact q _ us' _ pl' _ (kc _ a _) (aDK (ks:=[]) ho rfl) P' pm
theorem aLI (hu:A.units<cLine)(hS:aBh w a us s.heap)(hB:∀u∈us,j6 (mh prog w) s.heap u.1 u.2)(hK:k∈K28)(hk:j6 (mh prog w) s.heap k b)(hlt:k∉us.map (·.1)->us.length<28)(q:∀h' us' r,jb a s.heap h'->aBh w a us' h'->(k∈us.map (·.1)/\us'.Perm us\/k∉us.map (·.1)/\us'.Perm ((k,b) :: us))->Q r { s with heap:=h' }):wpAny (model prog w) A (setAddHashed a (.ref b) (hT k)) Q E s:=by
 obtain⟨ep,mask,pl,mv,ho,P,hf⟩:=hS
 have fits:=fA P (by lia) (!byT w) mv
 unfold setAddHashed setAddHashedIn
 refine gj (af (jz ho rfl fits ?_))
 dsimp only
 rw[if_neg (by unfold byScan;simp[Value.scannable])]
 refine af (aET hu ho P hf hB hK hk (λhm=>?_) λhm j hj hr=>?_)
 ·dsimp only
  refine aq ?_
  have e:s={ s with heap:=s.heap }:=by cases s;rfl
  rw[e]
  exact q s.heap us _ (Heap.SameBut.refl a s.heap) ⟨ep,mask,pl,mv,ho,P,hf⟩ (.inl ⟨hm, .refl _⟩)
 ·dsimp only
  refine af (jz ho rfl fits ?_)
  dsimp only
  rw[aMh]
  dsimp only
  rw[if_pos (show(spT (!byT w) mask (rN pl (c7 pl.toArray j) j) mv).plain=true from rfl)]
  refine af (aFv hk ?_)
  rw[if_pos rfl,aJA]
  have P1:=P.put (a:=b) hK hm hj hr (hlt hm)
  have pm:=oZ us (c7 pl.toArray j) (k,b)
  have ln:(rN us (c7 pl.toArray j) (k,b)).length=us.length+1:=by rw[pm.length_eq,da]
  have lp:(rN pl (c7 pl.toArray j) j).length=us.length+1:=by rw[P1.len,ln]
  have few:=P1.few
  have lz:(esO (rN us (c7 pl.toArray j) (k,b))).size<=bx:=by
   unfold esO
   rw[av,ae,ly]
   lia
  refine af (wpAny_storeSet_of ho rfl ?_ lz)
  have ho1:=aDK (ks:=[]) (es':=esO (rN us (c7 pl.toArray j) (k,b))) (t':=spT (!byT w) mask (rN pl (c7 pl.toArray j) j) mv) ho rfl
  have sb1:=kc s.heap a (Obj.putSet (esO (rN us (c7 pl.toArray j) (k,b))) (spT (!byT w) mask (rN pl (c7 pl.toArray j) j) mv))
  have ez:(esO us).size=us.length:=by unfold esO;rw[av,ae]
  rw[aKk,lp,ez]
  by_cases c:(us.length+1)*5≥mask*3
  ·rw[if_pos (by simp[c])]
   obtain⟨m',h1,h2,h3,h4,h5⟩:∃m',n9 (SetTable.grown (us.length+1)) - 1=m'/\¬ n9 (SetTable.grown (us.length+1)) > bx/\M3 m'/\us.length+1<=moM m'/\(us.length+1)*5<m'*3:=by
    rcases P.m with rfl | rfl | rfl
    ·have e:us.length=4:=by lia
     rw[e]
     exact⟨31,by decide+kernel,by rw[ly];decide+kernel, .inr (.inl rfl),by decide,by decide⟩
    ·have e:us.length=18:=by lia
     rw[e]
     exact⟨127,by decide+kernel,by rw[ly];decide+kernel, .inr (.inr rfl),by decide,by decide⟩
    ·lia
   refine af (aHE (us':=us) ho1 P1 (by rw[ln];lia) h1 h2 h3 (by rw[ln];exact h4) λh' us' ep' pl' mv' sb2 ho2 P2 pm2=>?_)
   exact aq (q h' us' _ (sb1.trans sb2) ⟨ep',m',pl',mv',ho2,P2,by rw[pm2.length_eq,ln];exact h5⟩ (.inr ⟨hm,pm2.trans pm⟩))
  ·rw[if_neg (by simp[c])]
   exact aq (q _ _ _ sb1 ⟨_,mask,_,mv,ho1,P1,by rw[ln];lia⟩ (.inr ⟨hm,pm⟩))
theorem uU (x:j6 (mh prog w) h k a)(e:∀o,h.get? a=some o->h'.get? a=some o):j6 (mh prog w) h' k a:=
 let⟨o,items,n,ho,r⟩:=x;⟨o,items,n,e o ho,r⟩
theorem aJw {R: BH->Shared->Prop}{I: Addr}{fp wr: List Addr}{G: Array GenState->Array GenState->Prop}{n: Nat}{St: Nat->Shared->Prop}(hu:A.units+1<cLine)(W:WalksS prog w A.in1 I fp wr G n P St)(S:Addr)(hSf:S∉fp)(val:Nat->List Int×Addr)(hval:∀i v,i<n->P i v->v = .ref (val i).2)(h8:∀i,i<n->(val i).1∈K28)(hV:∀i,i<n->(val i).2∉S :: wr)(h28:n<=28):
  ∀(k i:Nat) (us:Us) (s:Shared),n - i=k->i<=n->St i s->aBh w S us s.heap->(∀m,m<n->j6 (mh prog w) s.heap (val m).1 (val m).2)->(∀u∈us,∃m,m<i/\u=val m)->(∀m,m<i->(val m).1∈us.map (·.1)) ->
   (∀us' s',Moved (S :: wr) G s s'->aBh w S us' s'.heap->(∀u∈us',∃m,m<n/\u=val m)->(∀m,m<n->(val m).1∈us'.map (·.1))->R (.ok (.ret .none)) s') ->
   wz (model prog w) A (.builtin "set.update.loop" ⟨[.ref S, .ref I],[]⟩) R s:=by
 have hSw:S∉wr:=λh=>hSf (W.sub _ h)
 have hsub:∀b∈wr,b∈S :: wr:=λb hb=>ay _ hb
 have up:∀{us:Us}{s s':Shared},Moved wr G s s'->aBh w S us s.heap->aBh w S us s'.heap:=λhm ⟨ep,mk,pl,mv,ho,hE⟩=>⟨ep,mk,pl,mv,hm.heap S _ hSw ho,hE⟩
 intro k
 induction k with
 |zero=>
  intro i us s hk hi hst hS hB hm1 hm2 hR
  have hin:i=n:=by lia
  subst hin
  refine jq yk ?_
  rw[jk se _]
  show wpAny _ A.in1 (u9 (.ref I) >>= _) _ _ s
  refine af (W.done s _ _ hst λs' hmv=>?_)
  show wpAny _ A.in1 (ret Value.none) _ _ s'
  exact aq (hR us s' (hmv.mono hsub) (up hmv hS) hm1 hm2)
 |succ k ih=>
  intro i us s hk hi hst hS hB hm1 hm2 hR
  have hlt:i<n:=by lia
  refine jq yk ?_
  rw[jk se _]
  show wpAny _ A.in1 (u9 (.ref I) >>= _) _ _ s
  refine af (W.item i s _ _ hlt hst λv s' hP hst' hmv=>?_)
  obtain rfl:=hval i v hlt hP
  have hS':=up hmv hS
  have hB':∀m,m<n->j6 (mh prog w) s'.heap (val m).1 (val m).2:=λm hm=>uU (hB m hm) λo e=>hmv.heap _ _ (λz=>hV m hm (ay _ z)) e
  have ul:us.length<=i:=by
   obtain⟨_,_,_,_,_,P',_⟩:=id hS'
   have:=aKo (us.map (·.1)) ((ao i).map λm=>(val m).1) P'.nd λk hk=>by
    obtain⟨u,hu',rfl⟩:=b6.mp hk
    obtain⟨m,hm,rfl⟩:=hm1 u hu'
    exact b6.mpr ⟨m,az.mpr hm,rfl⟩
   rw[ae,ae,br] at this
   exact this
  show wpAny _ A.in1 (yx [Value.ref (val i).2] (setAdd S (.ref (val i).2)) >>= _) _ _ s'
  refine af (gj ?_)
  unfold setAdd
  refine gj ?_
  refine af (wpAny_pyHash_tuple (show A.in1.units<cLine from hu) (hB' i hlt) ?_)
  refine aLI (s:={ s' with toks:=s'.toks+((val i).1.length+1) }) (k:=(val i).1) (show A.in1.units<cLine from hu) hS' (λu hu'=>by obtain⟨m,hm,rfl⟩:=hm1 u hu';exact hB' m (by lia)) (h8 i hlt) (hB' i hlt) (λ_=>by lia) λh' us' r hsb hS2 hcase=>?_
  have nm1:∀u∈us',∃m,m<i+1/\u=val m:=λu hu'=>by
   rcases hcase with⟨_,pm⟩ | ⟨_,pm⟩
   ·obtain⟨m,h1,h2⟩:=hm1 u (pm.mem_iff.mp hu')
    exact⟨m,by lia,h2⟩
   ·rcases bq.mp (pm.mem_iff.mp hu') with rfl | hu'
    ·exact⟨i,by lia,rfl⟩
    ·obtain⟨m,h1,h2⟩:=hm1 u hu'
     exact⟨m,by lia,h2⟩
  have nm2:∀m,m<i+1->(val m).1∈us'.map (·.1):=λm hm=>by
   rcases hcase with⟨hc,pm⟩ | ⟨_,pm⟩
   ·refine(pm.map (·.1)).mem_iff.mpr ?_
    rcases xr.mp hm with h1 | rfl
    ·exact hm2 m h1
    ·exact hc
   ·refine(pm.map (·.1)).mem_iff.mpr ?_
    rcases xr.mp hm with h1 | rfl
    ·exact ay _ (hm2 m h1)
    ·exact cv ..
  refine aq ⟨qe se _,ih (i+1) _ _ (by lia) hlt (W.frame _ s' _ _ hst' (jt _ _) λb hb o e=>?_) hS2 (λm hm=>uU (hB' m hm) λo e=>?_) nm1 nm2 λus'' s'' hm'' hS'' hks1 hks2=>?_⟩
  ·rw[hsb.2 b (λh:b=S=>hSf (by rw[<- h];exact hb))];exact e
  ·rw[hsb.2 _ (λh:(val m).2=S=>hV m hm (by rw[h];exact cv))];exact e
  ·refine hR us'' s'' (Moved.trans W.gtrans ((hmv.mono hsub).then_heap (jt _ _) λb o hb e=>?_) hm'') hS'' hks1 hks2
   rw[hsb.2 b (λh:b=S=>hb (by rw[h];exact cv))];exact e
theorem aGT (h:Heap):aBh w h.objs.size [] (h.push (smO w #[] 0 [])):=⟨0,7,[],0,bp _ rfl,⟨.inl rfl,rfl, .nil,tx,(λu hu=>by cases hu),bg _,λi u j h=>by cases h⟩,by decide⟩
end L2
namespace L2
open PySem PySem.W PySem.Spec PyProof.Rows
theorem yH {α β: Type}{f: α->β}{R' R: List β}(h:R'.Perm R):∀qs:List α,R=qs.map f->∃qs':List α,qs'.Perm qs/\R'=qs'.map f:=by
 induction h with
 |nil=>exact λqs e=>⟨[],by cases qs with | nil=>exact .nil | cons _ _=>simp at e,rfl⟩
 |cons x _ ih=>
  intro qs e
  cases qs with
  |nil=>simp at e
  |cons q qs=>
   rw[cf,Ae] at e
   obtain⟨qs',p,e'⟩:=ih qs e.2
   exact⟨q :: qs',p.cons q,by rw[cf,e.1,e']⟩
 |swap x y _=>
  intro qs e
  cases qs with
  |nil=>simp at e
  |cons q qs=>
   cases qs with
   |nil=>simp at e
   |cons r qs=>
    simp only[cf,Ae] at e
    exact⟨r :: q :: qs, .swap q r qs,by simp only[cf];rw[e.1,e.2.1,e.2.2]⟩
 |trans _ _ ih1 ih2=>
  intro qs e
  obtain⟨q2,p2,e2⟩:=ih2 qs e
  obtain⟨q1,p1,e1⟩:=ih1 q2 e2
  exact⟨q1,p1.trans p2,e1⟩
theorem aGr (ho:s.heap.get? a=some (spO w us ep mask pl mv))(hf:(spT (!byT w) mask pl mv).fits (esO us).size=true)(h:Q false s):wpAny (model prog w) A (setDrawn a) Q E s:=by
 unfold setDrawn setsByText
 refine af (jz ho rfl hf (af (af (nk (aq ?_)))))
 refine aq ?_
 have:(!(w.params.followText "set-order") && (!(spT (!byT w) mask pl mv).plain && decide ((esO us).size > 1)))=false:=by
  rw[show(spT (!byT w) mask pl mv).plain=true from rfl];simp
 exact this ▸ h
theorem aJj (ho:s.heap.get? a=some (spO w us ep mask pl mv))(hf:(spT (!byT w) mask pl mv).fits (esO us).size=true)(h:Q (.ref s.heap.objs.size) { s with heap:=s.heap.push { cls := .type "set_iterator",data := .fields #[me 0,me 0, .ref a,me (esO us).size,me ep] } }):wpAny (model prog w) A (Bj (.ref a)) Q E s:=by
 have hT:s.TypeIs (.ref a) "set":=⟨_,ho,rfl⟩
 refine wpAny_pyIter_slot hT F.slot_set_iter (gf F.slot_set_iter hT sN ?g (F.args_set_iter_1 _))
 case g=>
 unfold Builtin.«frozenset.__iter__» Builtin.Frozenset.slot0 Builtin.Frozenset.sizeOf
 refine af (af (aq (aq ?_)))
 refine af (af (vt ho rfl hf (aq ?_)))
 refine af (aGr ho hf ?_)
 rw[if_neg (by exact cy)]
 refine af (aq (af (wpAny_setEpoch_of ho rfl hf ?_)))
 unfold newFields
 refine af (gn (aq ⟨_,rfl,"set_iterator",_,⟨_,bp _ rfl,rfl⟩,bK.lookup,?_⟩))
 exact h
theorem aDz (ho:s.heap.get? a=some (spO w us ep mask pl mv))(P:Ptb mask pl us)(hz:us.length*5<mask*3)(hs:slot=dJ w pl i)(hi:i<=(esO us).size)(h:Q (((eK w a ep (esO us))[i]?).map λe=>(e.2,dJ w pl (i+1))) s):wpAny (model prog w) A (setNext a slot i ep) Q E s:=by
 have hf:(spT (!byT w) mask pl mv).fits (esO us).size=true:=fA P (by lia) (!byT w) mv
 have sz:(esO us).size=pl.length:=by unfold esO;rw[av,ae,P.len]
 unfold setNext setsByText
 refine af (jz ho rfl hf (af (af (nk (aq ?_)))))
 dsimp only
 show wpAny _ _ (if byT w=true then _ else _) _ _ _
 cases hb:byT w with
 |true=>
  rw[if_pos rfl,if_neg (by simp)]
  unfold setWalk setsByText
  refine af (af (jz ho rfl hf (af (af (nk (aq ?_))))))
  dsimp only
  show wpAny _ _ (if byT w=true then _ else _) _ _ _
  rw[if_pos hb]
  refine af (nk (aq (aq ?_)))
  unfold eK at h
  rw[if_pos hb] at h
  have e1:dJ w pl (i+1)=slot:=by
   rw[hs]
   cases i with
   |zero=>simp[dJ,hb]
   |succ i=>simp[dJ,hb]
  rw[e1] at h
  exact h
 |false=>
  rw[if_neg (by simp)]
  rw[if_neg]
  rotate_left
  ·show ¬ ((!true && decide ((esO us).size > 1))=true)
   simp
  refine af (vf (a:=()) rfl ?_)
  refine aq ?_
  unfold eK at h
  rw[hb,if_neg (by simp)] at h
  have z0:=aCz P.ris
  have eb:c7 pl.toArray slot=i:=by
   rw[hs]
   cases i with
   |zero=>exact z0
   |succ i=>
    show c7 pl.toArray (if byT w then 0 else pl.getD i 0+1)=i+1
    rw[hb,if_neg (by simp)]
    have hi':i<pl.length:=by rw[<- sz];lia
    rw[aj,ah hi']
    exact aCB P.ris (ah hi')
  show Q (match (esO us)[c7 pl.toArray slot]?,pl.toArray[c7 pl.toArray slot]? with
     |some (_,x),some j=>some (x,j+1)
     |_,_=>none) s
  rw[eb]
  by_cases c:i<(esO us).size
  ·have c':i<pl.length:=by rw[<- sz];exact c
   rw[fi c] at h ⊢
   rw[jy,ah c']
   have e2:dJ w pl (i+1)=pl[i]+1:=by
    show(if byT w then 0 else pl.getD i 0+1)=_
    rw[hb,if_neg (by simp),aj,ah c']
    rfl
   rw[e2] at h
   exact h
  ·rw[jn (by lia)] at h ⊢
   exact h
theorem aGt (hit:SIt it a (dJ w pl i) i (esO us).size ep s.heap)(ho:s.heap.get? a=some (spO w us ep mask pl mv))(P:Ptb mask pl us)(hz:us.length*5<mask*3)(hx:(eK w a ep (esO us))[i]?=some e)(hi:i<(esO us).size)(q:∀h',SIt it a (dJ w pl (i+1)) (i+1) (esO us).size ep h'->jb it s.heap h'->Q (some e.2) { s with heap:=h' }):wpAny (model prog w) A (u9 (.ref it)) Q E s:=by
 have hf:(spT (!byT w) mask pl mv).fits (esO us).size=true:=fA P (by lia) (!byT w) mv
 have hT:=hit.typeIs
 obtain⟨oi,hi1,hi2,hi3⟩:=id hit
 unfold u9
 refine af (sa (gh (name:=lr "__next__") hT bK (gf bK hT fB ?g (gK _))))
 case g=>
 unfold Builtin.«set_iterator.__next__» slotArgs
 refine af (aq (af (wpAny_fieldsOf hi1 hi3 ?_)))
 refine af (vt ho rfl hf ?_)
 rw[if_neg (by simp)]
 show wpAny _ _ (setNext a (dJ w pl i:Int).toNat (i:Int).toNat (ep:Int).toNat >>= _) _ _ s
 rw[dh,dh,dh]
 refine af (aDz ho P hz rfl (i7 hi) ?_)
 rw[hx]
 show wpAny _ _ (setField (.ref it) 0 (me (dJ w pl (i+1))) >>= _) _ _ s
 refine af (t6 hi1 hi3 (by simp) ?_)
 have d1:=n4 hi3 (·.setIfInBounds 0 (me (dJ w pl (i+1))))
 have g1:=je (yi (·.setIfInBounds 0 (me (dJ w pl (i+1))))) hi1 (o6 d1)
 refine af (t6 g1 d1 (by simp) ?_)
 exact aq ⟨_,rfl,aq (q _ (SIt.step hit) ((kc ..).trans (kc ..)))⟩
theorem aJm (hh : A.handled = none)(hit : SIt it a (dJ w pl (esO us).size) (esO us).size (esO us).size ep s.heap)(ho : s.heap.get? a = some (spO w us ep mask pl mv))(P : Ptb mask pl us)(hz : us.length * 5 < mask * 3)(q : ∀h', AB it s.heap h' -> Q none { s with heap := h' }):wpAny (model prog w) A (u9 (.ref it)) Q E s := by
  have hf : (spT (!byT w) mask pl mv).fits (esO us).size = true := fA P (by lia) (!byT w) mv
  have hT := hit.typeIs
  obtain⟨oi, hi1, hi2, hi3⟩ := id hit
  unfold u9
  refine af (sa (gh (name := lr "__next__") hT bK (gf bK hT fB ?g (gK _))))
  case g =>
  unfold Builtin.«set_iterator.__next__» slotArgs
  refine af (aq (af (wpAny_fieldsOf hi1 hi3 ?_)))
  refine af (vt ho rfl hf ?_)
  rw[if_neg (by simp)]
  show wpAny _ _ (setNext a (dJ w pl (esO us).size : Int).toNat ((esO us).size : Int).toNat (ep : Int).toNat >>= _) _ _ s
  rw[dh, dh, dh]
  refine af (aDz ho P hz rfl (bc _) ?_)
  have hw : (eK w a ep (esO us)).size = (esO us).size := by rw[<- fm, (iQ w a ep (esO us)).length_eq, fm]
  rw[jn (by lia)]
  show wpAny _ _ (setField (.ref it) 2 .none >>= _) _ _ s
  refine af (t6 hi1 hi3 (by simp) ?_)
  show wpAny _ _ (newExc (.type "StopIteration") [] >>= _) _ _ _
  simp only[newExc, newTuple]
  refine af (af (gn (af (m := w8 _ _) (vf (a := Value.none) (by first | rfl | (simp only[w8]; rfl)) (gn ?g (by size_fits)))) (by size_fits)))
  case g =>
  simp only[raiseNew]
  refine af (wpAny_handled ?g)
  case g =>
  rw[show A.in1.handled = none from hh]
  refine af (aq (wpAny_throw ?z))
  case z => refine af (ue (T := "StopIteration") (b := true) ⟨_, bp _ rfl, rfl⟩ As ?z)
            case z => exact aq (q _ (((kc ..).extBut.push _).push _))
theorem aHA (hh:A.handled=none)(I a:Addr)(hne:a≠I)(ep:Nat)(P:Ptb mask pl us)(hz:us.length*5<mask*3):
  Walks prog w A I [I,a] [I] (esO us).size (λi v=>∃e,(eK w a ep (esO us))[i]?=some e/\v=e.2) (λi h=>SIt I a (dJ w pl i) i (esO us).size ep h/\h.get? a=some (spO w us ep mask pl mv)) where
 sub:=λb hb=>by simp at hb;simp[hb]
 frame:=λ_ _ _ st hk=>⟨st.1.at λo e=>hk I (by simp) o e,hk a (by simp) _ st.2⟩
 item:=λi s Q E hi st hQ=>by
  have hw:(eK w a ep (esO us)).size=(esO us).size:=by rw[<- fm,(iQ w a ep (esO us)).length_eq,fm]
  refine aGt st.1 st.2 P hz (fi (by lia)) hi λh' hit' hs'=>?_
  exact hQ _ h' s.toks ⟨_,fi (by lia),rfl⟩ ⟨hit',by rw[hs'.2 a hne];exact st.2⟩ λb o hb e=>hs'.extBut b o (λh=>hb (by simp[h])) e
 done:=λs Q E st hQ=>aJm hh st.1 st.2 P hz λh' he'=>hQ h' s.toks λb o hb e=>he' b o (λh=>hb (by simp[h])) e
 self:=λi s Q E st hQ=>by
  have hT:s.TypeIs (.ref I) "set_iterator":=SIt.typeIs st.1
  refine wpAny_pyIter_slot hT fY (gf fY hT mW ?_ (oG _))
  show wpAny _ _ (ret (.ref I)) _ _ s
  exact aq ⟨_,rfl,"set_iterator",_,hT,bK.lookup,hQ⟩
theorem aMx (P:Ptb mask pl us)(hz:us.length*5<mask*3):KdlSrc prog w "set" a a (esO us).size (λi v=>∃e,(eK w a ep (esO us))[i]?=some e/\v=e.2) (λh=>h.get? a=some (spO w us ep mask pl mv)) where
 type:=λ_ hm=>⟨_,hm,rfl⟩
 there:=λ_ hm=>⟨bu hm,bu hm⟩
 keep:=λ_ _ hm hk=>hk a (.inl rfl) _ hm
 notList:=by decide
 notTuple:=by decide
 hint:=λ_ _ s _ hm hq=>aGm ⟨_,hm,rfl⟩ hq
 iter:=λA s hh hm=>⟨{ cls := .type "set_iterator",data := .fields #[me 0,me 0, .ref a,me (esO us).size,me ep] },_,(λ_ _ hq=>aJj hm (fA P (by lia) (!byT w) mv) hq),aHA hh _ a (dt (bu hm)) ep P hz,⟨⟨_,bp _ rfl,rfl,rfl⟩,ak _ hm⟩⟩
theorem aBW (hh:A.handled=none)(ho:s.heap.get? a=some (spO w us ep mask pl mv))(P:Ptb mask pl us)(hz:us.length*5<mask*3)(hQ:∀(h':Heap) (tk:Nat) (us':Us),us'.Perm us->(∀b o,s.heap.get? b=some o->h'.get? b=some o)->s.heap.objs.size<h'.objs.size->Q (us'.map λu=>Value.ref u.2) { s with heap:=h',toks:=tk }):wpAny (model prog w) A (collect (.ref a)) Q E s:=by
 have few:=P.few
 have ha:a<s.heap.objs.size:=bu ho
 unfold collect
 let R1:BH->Shared->Prop:=λr s'=>∃h' tk acc c,r = .ok (.ret (.ref s.heap.objs.size))/\s'={ s with heap:=h',toks:=tk }/\h'.get? s.heap.objs.size=some { cls := .type "list",dict:=none,data := .seq acc c,slots:=#[] }/\(∀b o,s.heap.get? b=some o->h'.get? b=some o)/\ItemsOf (λi v=>∃e,(eK w a ep (esO us))[i]?=some e/\v=e.2) acc (esO us).size
 refine af (Ar (lh (R:=R1) ?_ ?_))
 ·refine jq F.entry_proto_collect ?_
  rw[jk F.plain_proto_collect _]
  show wpAny _ A.in1 (newList [] >>= λl=>again (.builtin "list.__iadd__" ⟨[l, .ref a],[]⟩)) _ _ s
  refine af (gn ?_)
  refine aq ⟨qe F.plain_list_iadd _,jq F.entry_list_iadd ?_⟩
  rw[jk F.plain_list_iadd _]
  have ho1:(s.heap.push { cls := .type "list",data := .seq ([]:List Value).toArray }).get? a=some (spO w us ep mask pl mv):=ak _ ho
  have hS₁:(s.heap.push { cls := .type "list",data := .seq ([]:List Value).toArray }).get? s.heap.objs.size=some { cls := .type "list",data := .seq ([]:List Value).toArray }:=bp _ rfl
  show wpAny _ A.in1 (oz (.ref s.heap.objs.size) (.ref a) (.ref s.heap.objs.size)) _ _ { s with heap:=s.heap.push { cls := .type "list",data := .seq ([]:List Value).toArray } }
  exact kdl_extend (R:=R1) (s:={ s with heap:=s.heap.push { cls := .type "list",data := .seq ([]:List Value).toArray } }) (aMx (prog:=prog) (w:=w) (a:=a) (ep:=ep) P hz) hh ho1 s.heap.objs.size (kr ha) (kr ha) (.ref s.heap.objs.size) 0 hS₁ (λh' tk acc c hk hS' hA=>⟨h',tk,acc,c,rfl,rfl,hS',λb o e=>hk b o (dt (bu e)) (ak _ e),hA⟩) (by unfold esO;rw[av,ae,ly];lia)
 ·rintro r s' ⟨h',tk,acc,c,rfl,rfl,hS',hk,hA⟩
  have hp:=iQ w a ep (esO us)
  obtain⟨us',pm,eu⟩:=yH (f:=λu:List Int×Addr=>(hT u.1,Value.ref u.2)) hp us (by unfold esO;rfl)
  have ea:acc.toList=us'.map λu=>Value.ref u.2:=by
   have e1:acc.toList=(eK w a ep (esO us)).toList.map (·.2):=by
    apply xt
    intro i
    rw[aw,ua,ua]
    by_cases c:i<acc.size
    ·obtain⟨e,h1,h2⟩:=hA.2 i acc[i] (fi c)
     rw[fi c,h1,h2];rfl
    ·have hw:(eK w a ep (esO us)).size=(esO us).size:=by rw[<- fm,hp.length_eq,fm]
     rw[jn (by lia),jn (by have:=hA.1;lia)];rfl
   rw[e1,eu,dw];rfl
  show wpAny _ A (load s.heap.objs.size >>= _) _ _ _
  refine af (wpAny_load hS' ?_)
  show wpAny _ _ (pure acc.toList) _ _ _
  rw[ea]
  exact aq (hQ h' tk us' pm hk (bu hS'))
end L2
namespace L2
open PySem PySem.Spec PySem.W PyProof.Rows
theorem aMn:∀k∈K28,k≠[]:=by decide+kernel
theorem aIj:∀{vs:List Value}{ns:List Int},IntsAre vs ns->PySem.ItemsAre (mh prog w) ns vs
 |_,_, .nil => .nil
 |_,_, .cons n t r => .cons (intKind_is prog w n t) (aIj r)
theorem vX {α β: Type}{d: α}{e: β}(f:α->β){l: List α}:∀{ix:List Nat},(∀i∈ix,i<l.length)->(ix.map λi=>(l.map f).getD i e)=(ix.map λi=>l.getD i d).map f
 |[],_=>rfl
 |i :: ix,h=>by
  have hi:=h i (cv ..)
  rw[cf,cf,cf,vX (d:=d) f λj hj=>h j (ay _ hj)]
  congr 1
  rw[aj,aj,aw,ah hi]
  rfl
theorem aDx {s: Shared}{a: Addr}{us: Us}{ep mask mv: Nat}{pl: List Nat}(hh:A.handled=none)(ho:s.heap.get? a=some (spO w us ep mask pl mv))(P:Ptb mask pl us)(hz:us.length*5<mask*3)(hB:∀u∈us,∃vs:List Value,IsTup s.heap u.2 vs.toArray/\IntsAre vs u.1)(q:∀(l:Addr) (h':Heap) (tk:Nat) (us':Us) (c:Nat),s.heap.objs.size<=l->(∀b o,s.heap.get? b=some o->h'.get? b=some o)->h'.get? l=some (jj "list" (us'.map λu=>Value.ref u.2).toArray c)->us'.Perm us->(us'.map (·.1)).Pairwise (λa b=>lexL b a=false)->Q (.ref l) { s with heap:=h',toks:=tk }):wpAny (model prog w) A (call (.builtin "sorted") [.ref a]) Q E s:=by
 have few:=P.few
 refine l8 AA zm zo (zp _) ?g1
 case g1=>
  unfold ud
  refine af (m:=Bg "sorted" 1 1 _) (aq (af (aBW hh ho P hz λh1 tk u1 pm hk hs=>?g2)))
  case g2=>
   have l1:u1.length=us.length:=pm.length_eq
   refine af (qd ?g3 (by rw[ae,l1,ly];lia))
   case g3=>
    have e2:(h1.push (jj "list" (u1.map λu=>Value.ref u.2).toArray 0)).get? h1.objs.size=some (jj "list" (u1.map λu=>Value.ref u.2).toArray 0):=bp _ rfl
    have hv:TupsAt (h1.push (jj "list" (u1.map λu=>Value.ref u.2).toArray 0)) (u1.map λu=>Value.ref u.2) (u1.map (·.1)):=by
     refine⟨by rw[ae,ae],λi row hr=>?_⟩
     rw[aw] at hr
     obtain⟨u,hu,rfl⟩:=jm.mp hr
     obtain⟨vs,⟨o,b1,b2,b3⟩,hi⟩:=hB u (pm.mem_iff.mp (ar hu))
     exact⟨u.2,vs,by rw[aw,hu];rfl,⟨o,ak _ (hk _ _ b1),b2,b3⟩,hi⟩
    have hne:∀q∈u1.map (·.1),q≠[]:=λq hq=>by
     obtain⟨u,hu,rfl⟩:=b6.mp hq
     exact aMn _ (P.mem u (pm.mem_iff.mp hu))
    show wpAny _ _ _ _ _ { s with heap:=h1.push (jj "list" (u1.map λu=>Value.ref u.2).toArray 0),toks:=tk }
    refine af (gj (gf w5 ⟨_,e2,rfl⟩ vh (jF (s:={ s with heap:=h1.push (jj "list" (u1.map λu=>Value.ref u.2).toArray 0),toks:=tk }) e2 hv hne (by rw[ae,l1];lia) λp hp=>⟨_,rfl,aq ⟨_,rfl,?g4⟩⟩) (w6 _)))
    case g4=>
     obtain⟨f1,f2⟩:=vN hp
     have pl':p.toList.Perm (ao u1.length):=by
      have:=k7.mp hp.1
      rw[ae] at this
      simpa using this
     have hb:∀i∈p.toList,i<u1.length:=λi hi=>az.mp (pl'.mem_iff.mp hi)
     have eR:(p.toList.map λi=>(u1.map (·.1)).getD i [])=(p.toList.map λi=>u1.getD i ([],0)).map (·.1):=vX _ hb
     have eV:(p.toList.map λi=>(u1.map λu=>Value.ref u.2).getD i Value.none)=(p.toList.map λi=>u1.getD i ([],0)).map λu=>Value.ref u.2:=vX _ hb
     rw[eR] at f2
     rw[eV]
     obtain⟨c,he⟩:=sortedHeap_at (vs:=u1.map λu=>Value.ref u.2) (out:=((p.toList.map λi=>u1.getD i ([],0)).map λu=>Value.ref u.2).toArray) e2
     have ex:(ao u1.length).map (λi=>u1.getD i ([],0))=u1:=by
      apply nq
      ·simp
      ·intro i h1 h2
       rw[lg,n5,aj,ah h2];rfl
     have py:(p.toList.map λi=>u1.getD i ([],0)).Perm u1:=by have:=pl'.map λi=>u1.getD i ([],0);rw[ex] at this;exact this
     refine q h1.objs.size _ tk _ c (i7 hs) (λb o e=>?_) he (py.trans pm) f2
     have hb':b<h1.objs.size:=bu (hk b o e)
     rw[sortedHeap_old (dt hb') (by rw[gm];exact i5 hb')]
     exact ak _ (hk b o e)
def aMQ (K:aa)(H:Hp)(us:Us):Prop:=∀u∈us,SqT K H u.2 (u.1.map V.int)
def aHR (w:World)(K:aa):List V->Hp->VK->Prop:=λvs H Q=>∃(a:Addr) (us:Us),vs=[.ref a]/\H a=some (.ext (aBh w a us))/\aMQ K H us/\∀(us':Us) (l:Addr),H l=none->us'.Perm us->(us'.map (·.1)).Pairwise (λa b=>lexL b a=false)->Q (.ref l) (upd H l (.lst (us'.map λu=>V.ref u.2)))
theorem aMF {K: aa}{H: Hp}:∀{xs:List V}{R:List (List Int)},Rows K H xs R->∃vs:Us,xs=vs.map (λu=>V.ref u.2)/\vs.map (·.1)=R/\aMQ K H vs
 |[],[],_=>⟨[],rfl,rfl,λu hu=>by cases hu⟩
 |[],r :: R,h=>by have:=h.1;cases this
 |x :: xs,[],h=>by have:=h.1;cases this
 |x :: xs,r :: R,h=>by
  obtain⟨b,e1,e2⟩:=h.2 0 r rfl
  obtain⟨vs,f1,f2,f3⟩:=aMF (K:=K) (H:=H) (xs:=xs) (R:=R) ⟨by have:=h.1;simpa using this,λi row hr=>h.2 (i+1) row hr⟩
  refine⟨(r,b) :: vs,by rw[cf,<- f1];congr 1;exact bo e1,by rw[cf,f2],λu hu=>?_⟩
  rcases bq.mp hu with rfl | hu
  ·exact e2
  ·exact f3 u hu
theorem tJ:∀{vs:Us}{its:List Value},Vals (vs.map λu=>V.ref u.2) its->its=vs.map λu=>Value.ref u.2
 |[],_, .nil=>rfl
 |_ :: _,_, .cons r t=>by
  obtain rfl:=r
  rw[tJ t];rfl
theorem tR:∀vs:Us,Vals (vs.map λu=>V.ref u.2) (vs.map λu=>Value.ref u.2)
 |[] => .nil
 |_ :: vs => .cons rfl (tR vs)
theorem aCD (hc:X.calm=true):CallR X (.builtin "sorted") (aHR X.w X.K):=by
 intro pins s σ H xs us Q I r ⟨a,vs,e,ha,hrow,q⟩
 subst e
 obtain⟨u,rfl,ru⟩:=r.one
 obtain rfl:u=Value.ref a:=ru
 have hS:aBh X.w a vs s.heap:=(I.hok a _ ha).1
 obtain⟨ep,mk,pls,mv,o1,o2,o3⟩:=id hS
 have few:=o2.few
 refine aDx (I.ok.hd hc) o1 o2 o3 (λv hv=>?_) λl h' tk us' c hl hk he pm srt=>?_
 ·obtain⟨zs,rvs,pl,_⟩:=I.tuple (hrow v hv)
  exact⟨zs,pl,cD rvs⟩
 ·refine⟨.ref l,_,I.laid (a:=l) (t':=tk) (o := .lst (us'.map λu=>V.ref u.2)) hk hl ⟨?_,us'.map λu=>Value.ref u.2,c,tR us',by simpa using he⟩,rfl,q us' l (I.hok.fresh hl) pm srt⟩
  rw[ae,pm.length_eq,ly]
  lia
theorem aJq {K: aa}{H: Hp}{us: Us}(h:aMQ K H us):Rows K H (us.map λu=>V.ref u.2) (us.map (·.1)):=by
 refine⟨by rw[ae,ae],λi row hr=>?_⟩
 rw[aw] at hr
 obtain⟨u,hu,rfl⟩:=jm.mp hr
 exact⟨u.2,by rw[aw,hu];rfl,h u (ar hu)⟩
end L2
namespace L2
open PySem PySem.Spec PyProof.Rows
end L2
namespace L2
open PySem PySem.W PyProof.Rows
end L2
namespace L2
open PySem PySem.Spec PyProof.Rows
end L2
namespace L2
open PySem PySem.Spec PySem.W PyProof.Rows
theorem wF {s: Shared}{l: Addr}{items: Array Value}{vs: Us}(hu:A.units+20<cLine)(hh:A.handled=none)(hl:s.heap.IsList l items)(hi:items.toList=vs.map λu=>Value.ref u.2)(hB:∀u∈vs,j6 (mh prog w) s.heap u.1 u.2)(h8:∀u∈vs,u.1∈K28)(h28:items.size<=28)(h:∀(h':Heap) (tk:Nat) (us:Us),aBh w s.heap.objs.size us h'->(∀u∈us,u∈vs)->(∀u∈vs,u.1∈us.map (·.1))->(∀b o,b<s.heap.objs.size->s.heap.get? b=some o->h'.get? b=some o)->Q (.ref s.heap.objs.size) { s with heap:=h',toks:=tk }):
  wpAny (model prog w) A (call (.type "set") [.ref l]) Q E s:=by
 obtain⟨c,tl,hmro⟩:=pf.mro
 have hmade:=pf.made
 have hsub:=pf.sub
 refine wpAny_call (zg ?_)
 show wpAny _ _ (callAny (.type "set") _) _ _ _
 refine aq ⟨Code.quiet_builtin _ (by decide+kernel),jq F.entry_type_call ?_⟩
 rw[Around.under_plain (weight_type_call_type "set" [.ref l] []) rfl]
 have h1:=pf.notType
 have h2:=pf.canCreate
 have hct:=F.typeCall_set_1 (.ref l)
 repeat (any_goals (first | assumption | wp_step))
 refine lh (aLf (.ref l) (E:=E) (Q₁:=λobj s1=>obj = .ref s.heap.objs.size/\s1={ s with heap:=s.heap.push (smO w #[] 0 []) }) ⟨rfl,rfl⟩) λr s1 hr=>?_
 cases r with
 |error e=>exact hr
 |ok fl=>
  cases fl with
  |ret obj=>
   obtain⟨rfl,rfl⟩:=hr
   have hS:(s.heap.push (smO w #[] 0 [])).get? s.heap.objs.size=some (smO w #[] 0 []):=bp _ rfl
   have hT:Shared.TypeIs { s with heap:=s.heap.push (smO w #[] 0 []) } (.ref s.heap.objs.size) "set":=⟨_,hS,rfl⟩
   have hli:=pf.init.lookup
   have hbi:=pf.init.bind (.ref s.heap.objs.size)
   repeat (any_goals (first | assumption | wp_step))
   refine lh (codeAny_call_builtin (R:=wants (λr s2=>r = .none/\∃h' tk us,s2={ s with heap:=h',toks:=tk }/\aBh w s.heap.objs.size us h'/\(∀u∈us,u∈vs)/\(∀u∈vs,u.1∈us.map (·.1))/\∀b o,b<s.heap.objs.size->s.heap.get? b=some o->h'.get? b=some o) E) pf.init.plain F.entry_set_init (check_set_init_1 hT ?_)) λr2 s2 hr2=>?_
   ·obtain⟨ol,hol,hcl,nl,hdl⟩:=hl
    obtain⟨ocls,odict,odata,oslots⟩:=ol
    simp only at hcl hdl
    subst hcl;subst hdl
    have hol':(s.heap.push (smO w #[] 0 [])).get? l=some { cls := .type "list",dict:=odict,data := .seq items nl,slots:=oslots }:=ak _ hol
    have hsls:=F.sub_list_set
    have hslf:=F.sub_list_frozenset
    have hne:(Value.type "list" == Value.type "dict")=false:=by decide
    have hl1:(s.heap.push (smO w #[] 0 [])).IsList l items:=⟨_,hol',rfl,nl,rfl⟩
    have hlS:l<s.heap.objs.size:=bu hol
    unfold Builtin.«set.__init__» noKeywords Builtin.Frozenset.updateFrom
    generalize hPI:Bj=PI
    wp_walk
    subst hPI
    refine tm hl1 ?_
    refine af (Ar ?_)
    have hh3:A.in1.in1.in1.handled=none:=by simp[hh]
    have hneI:l≠(s.heap.push (smO w #[] 0 [])).objs.size:=by
     rw[gm]
     exact dt (i5 hlS)
    have hlen:items.size=vs.length:=by rw[<- fm,hi,ae]
    have hat:∀i,i<items.size->∃u∈vs,vs.getD i ([],0)=u/\vs[i]?=some u:=λi h=>by
     rw[hlen] at h
     exact⟨vs[i],fv h,by rw[aj,ah h];rfl,ah h⟩
    have old:∀u∈vs,u.2<s.heap.objs.size:=λu hu'=>by
     obtain⟨o,_,_,ho,_⟩:=hB u hu'
     exact bu ho
    refine aJw (show A.units+1+1+1<cLine by lia) ((Walks.list hh3 _ l hneI items).toS) s.heap.objs.size ?_ (λi=>vs.getD i ([],0)) (λi v hlt hv=>?_) (λi hlt=>?_) (λi hlt=>?_) h28 (items.size - 0) 0 [] _ (by lia) (bg _) ⟨⟨_,bp _ rfl,rfl,rfl⟩,hl1.push _⟩ ?_ (λm hm=>?_) (λu hu'=>by cases hu') (λm hm=>absurd hm (ou m)) ?_
    ·rw[gm]
     simp only[bq,j7,or_false,not_or]
     exact⟨dt (k9 _),kr hlS⟩
    ·obtain⟨u,hu',e1,e2⟩:=hat i hlt
     try dsimp only
     rw[e1]
     have hv:items[i]?=some v:=hv
     rw[<- ua,hi,aw,e2] at hv
     exact(bo hv).symm
    ·obtain⟨u,hu',e1,e2⟩:=hat i hlt
     try dsimp only
     rw[e1];exact h8 u hu'
    ·obtain⟨u,hu',e1,e2⟩:=hat i hlt
     try dsimp only
     rw[e1,gm]
     have:=old u hu'
     simp only[bq,j7,or_false,not_or]
     exact⟨dt this,dt (i5 this)⟩
    ·obtain⟨ep,mk,pl,mv,a1,a2⟩:=aGT (w:=w) s.heap
     exact⟨ep,mk,pl,mv,ak _ a1,a2⟩
    ·obtain⟨u,hu',e1,e2⟩:=hat m hm
     try dsimp only
     rw[e1]
     exact uU (hB u hu') λo e=>ak _ (ak _ e)
    ·intro us' s' hm hS' hks1 hks2
     obtain⟨h',g',d',tk',os'⟩:=s'
     have eg:g'=s.gens:=hm.gens
     have ed:d'=s.drawn:=hm.drawn
     have eo:os'=s.os:=hm.os
     subst eg ed eo
     show wpAny _ _ _ _ _ _
     refine aq ?_
     show wpAny _ _ (ret Value.none) _ _ _
     refine aq ⟨rfl,h',tk',us',rfl,hS',λu hu'=>?_,λu hu'=>?_,λb o hb e=>hm.heap b o ?_ (ak _ (ak _ e))⟩
     ·obtain⟨m,h1,rfl⟩:=hks1 u hu'
      obtain⟨v,hv,e1,e2⟩:=hat m h1
      rw[e1];exact hv
     ·obtain⟨m,hm'⟩:=f6.mp hu'
      have h1:m<items.size:=by rw[hlen];exact(ai.mp hm').1
      have:=hks2 m h1
      try dsimp only at this
      rw[aj,hm'] at this
      exact this
     ·rw[gm]
      simp only[bq,j7,or_false,not_or]
      exact⟨dt hb,dt (i5 hb)⟩
   ·cases r2 with
    |error e=>exact hr2
    |ok fl2=>
     cases fl2 with
     |ret r=>
      obtain⟨rfl,h',tk,us,rfl,hd⟩:=hr2
      repeat (any_goals (first | assumption | wp_step))
      exact h _ _ _ hd.1 hd.2.1 hd.2.2.1 hd.2.2.2
     |_=>exact hr2.elim
  |_=>exact hr.elim
def aIn (w:World)(K:aa):List V->Hp->VK->Prop:=λvs H Q=>∃(a:Addr) (xs:List V) (R:List (List Int)),vs=[.ref a]/\SqL K H a xs/\Rows K H xs R/\(∀r∈R,r∈K28)/\R.length<=28/\∀(p:Addr) (us:Us),H p=none->(us.map (·.1)).Nodup->(∀r,r∈us.map (·.1)↔r∈R)->aMQ K H us->Q (.ref p) (upd H p (.ext (aBh w p us)))
theorem aCE (hc:X.calm=true)(hu:X.A.units+20<cLine):CallR X (.type "set") (aIn X.w X.K):=by
 intro pins s σ H xs us Q I r ⟨a,ys,R,e,ha,hR,h8,h28,q⟩
 subst e
 obtain⟨u,rfl,ru⟩:=r.one
 obtain rfl:u=Value.ref a:=ru
 obtain⟨vs,rfl,rfl,hrow⟩:=aMF hR
 obtain⟨its,rv,pl,hz⟩:=I.list ha
 have ei:=tJ rv
 subst ei
 have key:∀v∈vs,j6 (mh X.prog X.w) s.heap v.1 v.2:=λv hv=>by
  obtain⟨zs,rvs,⟨o,b1,b2,n,b3⟩,_⟩:=I.tuple (hrow v hv)
  exact⟨o,zs.toArray,n,b1,b2,b3,by simpa using aIj (cD rvs)⟩
 refine wF (items:=(vs.map λu:List Int×Addr=>Value.ref u.2).toArray) (vs:=vs) hu (I.ok.hd hc) pl.isList (by simp) key (λv hv=>h8 _ (vp hv)) (by rw[av,ae];rw[ae] at h28;exact h28) λh' tk us' d1 d2 d3 d4=>?_
 obtain⟨ep,mk,pls,mv,o1,o2,o3⟩:=id d1
 refine⟨.ref s.heap.objs.size,_,I.laid (a:=s.heap.objs.size) (o := .ext (aBh X.w s.heap.objs.size us')) (λb u e=>d4 b u (bu e) e) (bc _) ⟨d1,⟨_,o1⟩,λh1 h2 ⟨ep,mk,pls,mv,z1,z2⟩ k=>⟨ep,mk,pls,mv,k _ z1,z2⟩⟩,rfl,q _ _ (I.hok.fresh (bc _)) o2.nd (λr=>⟨λh=>?_,λh=>?_⟩) λu hu=>hrow u (d2 u hu)⟩
 ·obtain⟨u,hu,rfl⟩:=b6.mp h
  exact vp (d2 u hu)
 ·obtain⟨u,hu,rfl⟩:=b6.mp h
  exact d3 u hu
def aJx (K:aa):List V->Hp->VK->Prop:=λvs H Q=>∃(a:Addr) (xs:List V) (R:List (List Int)),vs=[.ref a]/\SqL K H a xs/\Rows K H xs R/\(∀r∈R,r∈K28)/\R.length<=28 /\
 ∀(ys:List V) (R':List (List Int)),R'.Pairwise (λa b=>lexL b a=false)->R'.Nodup->(∀r,r∈R'↔r∈R)->∀H',Same H H'->Rows K H' ys R'->∀l,H' l=none->Q (.ref l) (upd H' l (.lst ys))
theorem aJz {K: aa}{x y: Str}{p p' pos pos': Pos}{e: Expr}{es: List Expr}{t: TA}{k: Nat}(hK:X.K=K)(hc:X.calm=true)(hr:Room k X.A)(hg:Gl X x)(hm:X.mg x=none)(hv:fz x=some (.builtin "sorted"))(hg':Gl X y)(hm':X.mg y=none)(hv':fz y=some (.type "set"))(ha:PA X (e :: es) t)(hn:x≠"__name__":=by decide)(hdb:(x == ("__debug__" : Str))=false:=by decide)(hn':y≠"__name__":=by decide)(hdb':(y == ("__debug__" : Str))=false:=by decide)(he:ft (e :: es) X.env=(false,eval e X.env) :: ft es X.env:=by rfl)(hpl:(wc pos' (ft es X.env)).any (·.1)=false:=by rfl):PE X (.Call (.Name x p) [.Call (.Name y p') (e :: es) [] pos'] [] pos) (tCB (aJx K) t):=by
 subst hK
 have hu:X.A.units+20<cLine:=by have:=aKz hr;lia
 have h1:PE X (.Call (.Name x p) [.Call (.Name y p') (e :: es) [] pos'] [] pos) (tCB (aHR X.w X.K) (aB (tCB (aIn X.w X.K) (tCl t)) aH)):=bE (aCD hc) hg hm hv (gO (eI (aCE hc hu) hg' hm' hv' (aNx ha) hn' hdb' he hpl) bO) hn hdb
 intro pins s σ H Q I h
 refine h1 pins s σ H Q I ⟨_,h,λvs H1 ⟨a,xs,R,e1,e2,e3,e4,e4',e5⟩=>⟨a,xs,R,e1,e2,e3,e4,e4',λp us hp nd hm hrow=>?_⟩⟩
 have sp:=aD hp (.ext (aBh X.w p us))
 refine⟨p,us,rfl,aA,λu hu=>sp.tup (hrow u hu),λus' l hl pm srt=>?_⟩
 exact e5 _ _ srt ((pm.map _).nodup_iff.mpr nd) (λr=>by rw[(pm.map (·.1)).mem_iff];exact hm r) _ sp (aJq λu hu=>sp.tup (hrow u (pm.mem_iff.mp hu))) l hl
end L2
namespace L2
open PySem PySem.W PyProof.Rows
open PySem.SeqAt
theorem sF {s: Shared}{a: Addr}{vs: List Value}{n: Nat}{R: List (List Int)}(ho:s.heap.get? a=some (jj "list" vs.toArray n))(hlen:vs.length=R.length){PP: Heap->Prop}(hP:PP s.heap)(kp:∀h h':Heap,PP h->(∀x us,IsTup h x us->IsTup h' x us)->PP h')(fst:∀h,PP h->∃fs,KatTups h vs fs/\fs.length=R.length/\∀v∈fs,∃x us,v = .ref x/\IsTup h x us)(ask:∀(s:Shared) (i j:Nat) (C:Bool->Shared->Prop),PP s.heap->i<R.length->j<R.length->C (rlt (mV R) i j) s->kas_ask prog w A (AF false) vs i j C s)(h64:vs.length<64)(h:∀p,Put R p->P (.done (.ret .none)) { s with heap:=Bh s.heap a vs (jg (p.toList.map λi=>vs.getD i Value.none)) }):wpAny (model prog w) A (Builtin.«list.sort» ⟨[.ref a],[]⟩) P E s:=by
 have ha:=bu ho
 have hz:vs.length<=bx:=by rw[ly];lia
 obtain⟨e1,ho1⟩:∃e1,(s.heap.update a (i4 λ_=>#[])).get? a=some (jj "list" #[] e1):=⟨_,zk ho λ_=>#[]⟩
 rw[list_sort_plain]
 refine af (zj ho rfl (af (u3 ho rfl ?g1 (by rw[av];exact hz) (bg _))))
 case g1=>
 refine af (AG ho1 rfl (af (w9 ?g2 (by show vs.length<=_;exact hz))))
 case g2=>
 refine af (qd (gj ?g3) (bg _))
 case g3=>
 obtain⟨h3,eh⟩:∃h3,h3=((s.heap.update a (i4 λ_=>(#[]:Array Value))).push (jj "tuple" vs.toArray 0)).push (jj "list" #[] 0):=⟨_,rfl⟩
 show wpAny (model prog w) A _ P E { s with heap:=((s.heap.update a (i4 λ_=>#[])).push (jj "tuple" vs.toArray 0)).push (jj "list" #[] 0) }
 rw[<- eh]
 have ho3:h3.get? a=some (jj "list" #[] e1):=by
  rw[eh]
  exact ak _ (ak _ ho1)
 have hv3:PP h3:=kp _ _ hP λx us ⟨o,b1,b2,b3⟩=>by
  have hx:x≠a:=λe=>by
   subst e
   rw[ho] at b1
   cases b1
   exact absurd (Value.type.inj (show Value.type "list" = Value.type "tuple" from b2)) (by decide)
  refine⟨o,?_,b2,b3⟩
  rw[eh]
  exact ak _ (ak _ (by rw[qu _ _ _ _ hx];exact b1))
 dsimp only
 have fin:∀(p:Array Nat) (st':SortSt),Put R p->p.size=vs.length->arrOf st'=p.map (kas_item (vs.toArray.zip vs.toArray))->A5 st'=none->wpAny (model prog w) A (do
   let touched:=(<- seqEpoch a) != e1
   yh (.ref a) λ_=>(arrOf st').map (·.2)
   if let some e:=A5 st' then rule "list.sort.comparison-raised";throw e
   if touched then rule "list.sort.modified";raiseError "ValueError" "list modified during sort"
   ret .none) P E { s with heap:=h3 }:=λp st' hp hsz har hf=>by
  rw[kat_snds rfl har,hf]
  refine af (AG ho3 rfl (af (u3 ho3 rfl ?g4 (bg _) ?g5)))
  case g5=>
   show(jg _).size<=_
   rw[av,ae,fm];lia
  case g4=>
   simp only[bne_self_eq_false,gc,if_false]
   have:=h p hp
   unfold Bh at this
   rw[<- eh] at this
   exact aq this
 by_cases c:vs.toArray.size<2
 ·rw[if_pos c,if_pos c]
  refine af (aq ?g6)
  case g6=>
  rw[StateT.run_pure]
  refine af (aq ?g7)
  case g7=>
  have e2:(vs.toArray.zip vs.toArray).size=vs.length:=by simp
  refine fin (jg (ao vs.length)) (SortSt.mk' general' (vs.toArray.zip vs.toArray) #[] 7 none) ⟨by rw[hlen],λi j hij hj=>?_⟩ (by simp) ?_ rfl
  ·have hl:R.length<2:=by rw[<- hlen];simpa using c
   rw[show i=j by lia]
   exact gP _
  ·have:=kas_range (vs.toArray.zip vs.toArray)
   rw[e2] at this
   exact this.symm
 ·rw[if_neg c,if_neg c]
  have h2:2<=vs.length:=by simpa using c
  obtain⟨fs,k1,k2,k3⟩:=fst _ hv3
  refine af (kat_kind (s:={ s with heap:=h3 }) (T := .type "tuple") k1 (by have:=hlen;lia) (λv hv'=>?g8) (by decide) ?g9)
  case g8=>
   obtain⟨x,us,rfl,o,b1,b2,_⟩:=k3 v hv'
   exact kitAt_ty _ _ ⟨o,b1,b2⟩
  case g9=>
  obtain⟨q1,q2,q3⟩:=aAV (r:=mV R) (n:=vs.length) (by lia)
  refine af (i9 (kat_run (ks:=vs) (vs:=vs) (s:={ s with heap:=h3 }) (κ:=AF false) (Q:=λst' s'=>s'={ s with heap:=h3 }/\arrOf st'=(aN (mV R) (lx vs.length)).map (kas_item (vs.toArray.zip vs.toArray))/\A5 st'=none) (G:=λp' s'=>p'=aN (mV R) (lx vs.length)/\s'={ s with heap:=h3 }) rfl h2 h64 (λp' st' s' a1 a2 a3 a4=>⟨a4.2,by rw[<- a4.1];exact a2,a3⟩)
   (aFo (N:=vs.length) (r:=mV R) (λi j C hi hj hC=>ask { s with heap:=h3 } i j C hv3 (by rw[<- hlen];exact hi) (by rw[<- hlen];exact hj) hC) _ (aBL (by lia)) ⟨rfl,rfl⟩)) ?_ λ_ _ e=>e)
  rintro⟨⟨⟩,st'⟩ s' ⟨rfl,har,hf⟩
  refine fin _ st' ⟨by rw[<- hlen];exact q1,λi j hij hj=>?_⟩ q2 har hf
  have hle:=q3 i j hij (by rw[hlen];exact hj)
  have bd:∀k,k<vs.length->(aN (mV R) (lx vs.length)).getD k 0<R.length:=λk hk=>by
   rw[dk,fi (by lia)]
   have:=q1.mem_iff.mp (xo (show k<(aN (mV R) (lx vs.length)).size by lia))
   rw[<- hlen]
   simpa using this
  have hlt:=lB (R:=R) (bd j (by rw[hlen];exact hj)) (bd i (by rw[hlen];lia))
  cases z:lexL (R.getD ((aN (mV R) (lx vs.length)).getD j 0) []) (R.getD ((aN (mV R) (lx vs.length)).getD i 0) []) with
  |false=>rfl
  |true=>
   have:=hlt.mpr z
   unfold Kr at hle
   lia
theorem aAy {s: Shared}{l: Addr}{ob: Obj}{n: Nat}{T: String}{us: List Value}{R: List (List Int)}(e0:s.heap.get? l=some ob)(ec:ob.cls = .type T)(eT:T="list"\/T="tuple")(ed:ob.data = .seq us.toArray n)(hlen:us.length=R.length){PP: Heap->Prop}(hP:PP s.heap)(kp:∀h h':Heap,PP h->(∀x us,IsTup h x us->IsTup h' x us)->PP h')(fst:∀h,PP h->∃fs,KatTups h us fs/\fs.length=R.length/\∀v∈fs,∃x us,v = .ref x/\IsTup h x us)(ask:∀(s:Shared) (i j:Nat) (C:Bool->Shared->Prop),PP s.heap->i<R.length->j<R.length->C (rlt (mV R) i j) s->kas_ask prog w A.in1.in1 (AF false) us i j C s)(h64:us.length<64)(q:∀p,Put R p->Q (.ref (s.heap.objs.size+1)) { s with heap:=AV s.heap us (jg (p.toList.map λi=>us.getD i Value.none)) }):wpAny (model prog w) A (call (.builtin "sorted") [.ref l]) Q E s:=by
 refine l8 AA zm zo (zp _) ?g1
 case g1=>
 unfold ud
 refine af (m:=Bg "sorted" 1 1 _) (aq (af (kS e0 ec eT ed (af (qd ?g2)) (de (i7 h64) (by decide)))))
 case g2=>
 obtain⟨h1,eh1⟩:∃h1,h1=(s.heap.push (jj "list" #[] 0)).update s.heap.objs.size (i4 (· ++ us.toArray)):=⟨_,rfl⟩
 have z1:h1.objs.size=s.heap.objs.size+1:=by rw[eh1,yo,size_push']
 have old:∀x o,s.heap.get? x=some o->(h1.push (jj "list" us.toArray 0)).get? x=some o:=λx o e=>by
  have hx:=bu e
  refine ak _ ?_
  rw[eh1,qu _ _ _ _ (dt hx)]
  exact ak _ e
 have e2:(h1.push (jj "list" us.toArray 0)).get? (s.heap.objs.size+1)=some (jj "list" us.toArray 0):=by rw[<- z1];exact bp _ rfl
 have hv2:PP (h1.push (jj "list" us.toArray 0)):=kp _ _ hP λx vs ⟨o,b1,b2,b3⟩=>⟨o,old x o b1,b2,b3⟩
 show wpAny _ _ _ _ _ { s with heap:=((s.heap.push (jj "list" #[] 0)).update s.heap.objs.size (i4 (· ++ us.toArray))).push (jj "list" us.toArray 0) }
 rw[<- eh1,z1]
 refine af (gj (gf w5 ⟨_,e2,rfl⟩ vh (sF (s:={ s with heap:=h1.push (jj "list" us.toArray 0) }) e2 hlen hv2 kp fst ask h64 λp hp=>⟨_,rfl,aq ⟨_,rfl,?g3⟩⟩) (w6 _)))
 case g3=>
  have:=q p hp
  unfold AV at this
  rw[<- eh1] at this
  exact this
def PtAt (h:Heap)(vs:List Value)(R:List (List Int)):Prop:=vs.length=R.length/\∀(i:Nat) (row:List Int),R[i]?=some row->∃(x q f:Addr) (us ws:List Value) (r:List Int),vs[i]?=some (.ref x)/\IsTup h x [Value.ref q, .ref f].toArray/\IsTup h q us.toArray/\IntsAre us row/\IsTup h f ws.toArray/\IntsAre ws r
theorem PtAt.keep (hv:PtAt h vs R)(k:∀x us,IsTup h x us->IsTup h' x us):PtAt h' vs R:=
 ⟨hv.1,λi row hr=>by obtain⟨x,q,f,us,ws,r,e1,e2,e3,e4,e5,e6⟩:=hv.2 i row hr;exact⟨x,q,f,us,ws,r,e1,k _ _ e2,k _ _ e3,e4,k _ _ e5,e6⟩⟩
theorem yR:∀{vs:List Value}{R:List (List Int)},PtAt h vs R->∃fs,KatTups h vs fs/\fs.length=R.length/\∀v∈fs,∃x us,v = .ref x/\IsTup h x us
 |[],[],_=>⟨[],trivial,rfl,λ_ z=>by cases z⟩
 |[],_ :: _,hv=>by cases hv.1
 |_ :: _,[],hv=>by cases hv.1
 |v :: vs,q :: R,hv=>by
  obtain⟨x,q',f,us,ws,r,e1,⟨o,a1,a2,n,a3⟩,e3,_⟩:=hv.2 0 q rfl
  obtain⟨fs,k,l,f'⟩:=yR (vs:=vs) (R:=R) ⟨by simpa using hv.1,λi row hr=>hv.2 (i+1) row hr⟩
  obtain rfl:v = .ref x:=by simpa using e1
  exact⟨.ref q' :: fs,⟨⟨x,o,_,n,rfl,a1,a2,a3,rfl⟩,k⟩,by simp[l],λv hv'=>by
   rcases bq.mp hv' with e | hv'
   ·exact⟨q',_,e,e3⟩
   ·exact f' v hv'⟩
theorem aMB (hu:A.units+10<cLine)(nd:R.Nodup)(hv:PtAt s.heap vs R)(hi:i<R.length)(hj:j<R.length)(h:C (rlt (mV R) i j) s):kas_ask prog w A (AF false) vs i j C s:=by
 have at':∀k,k<R.length->∃(x q f:Addr) (us ws:List Value) (r:List Int),vs.getD k Value.none = .ref x/\IsTup s.heap x [Value.ref q, .ref f].toArray/\IsTup s.heap q us.toArray/\IntsAre us (R.getD k [])/\IsTup s.heap f ws.toArray/\IntsAre ws r:=λk hk=>by
  obtain⟨x,q,f,us,ws,r,e1,e2,e3,e4,e5,e6⟩:=hv.2 k R[k] (ah hk)
  refine⟨x,q,f,us,ws,r,by rw[aj,e1];rfl,e2,e3,?_,e5,e6⟩
  rw[aj,ah hk]
  exact e4
 have e:rlt (mV R) i j=lexL (R.getD i []) (R.getD j []):=by
  unfold rlt
  by_cases c:lexL (R.getD i []) (R.getD j [])=true
  ·rw[c];exact decide_eq_true ((lB hi hj).mpr c)
  ·rw[gx _ |>.mp c];exact decide_eq_false λz=>c ((lB hi hj).mp z)
 rw[e] at h
 show wpAny (model prog w) A (keyLt' (AF false) (vs.getD i Value.none) (vs.getD j Value.none)) C (λ_ _=>False) s
 by_cases hij:i=j
 ·subst hij
  obtain⟨x,q,f,us,ws,r,e1,⟨ox,a1,_,n1,d1⟩,o1,w1,o2,w2⟩:=at' i hi
  rw[e1]
  refine kat_lt a1 d1 a1 d1 ?_
  refine kat_cons (aAJ (by lia) o1 o1 w1 w1 prog w _ _ ?_)
  rw[show eqL ((R.getD i []).map Dt.int) ((R.getD i []).map Dt.int)=true from cZ _]
  refine kat_yes (kat_cons (aAJ (by lia) o2 o2 w2 w2 prog w _ _ ?_))
  rw[show eqL (r.map Dt.int) (r.map Dt.int)=true from cZ _]
  rw[gP] at h
  exact kat_yes (kat_nil h)
 ·obtain⟨x,q,f,us,ws,r,e1,⟨ox,a1,_,n1,d1⟩,o1,w1,_,_⟩:=at' i hi
  obtain⟨x',q',f',us',ws',r',e2,⟨oy,a2,_,n2,d2⟩,o2,w2,_,_⟩:=at' j hj
  rw[e1,e2]
  refine kat_lt a1 d1 a2 d2 ?_
  refine kat_cons (aAJ (by lia) o1 o2 w1 w2 prog w _ _ ?_)
  have ne:eqL ((R.getD i []).map Dt.int) ((R.getD j []).map Dt.int)=false:=by
   rw[<- gx]
   intro z
   have z:=uG z
   rw[aj,aj,ah hi,ah hj] at z
   exact hij ((qq nd).mp z)
  rw[ne]
  exact kat_no (kat_one _ _ (aDf (by lia) o1 o2 w1 w2 h))
def Pt (K:aa)(H:Hp)(b:Addr)(e:List Int×Int×Int):Prop:=∃(q f:Addr),SqT K H b [.ref q, .ref f]/\SqT K H q (e.1.map V.int)/\SqT K H f [.int e.2.1, .int e.2.2]
def xX (K:aa)(H:Hp)(xs:List V)(W:List (List Int×Int×Int)):Prop:=xs.length=W.length/\∀(i:Nat) (e:List Int×Int×Int),W[i]?=some e->∃b,xs[i]?=some (.ref b)/\Pt K H b e
def vT (K:aa):List V->Hp->VK->Prop:=λvs H Q=>∃(a:Addr) (xs:List V) (W:List (List Int×Int×Int)),vs=[.ref a]/\Sq K H a xs/\xX K H xs W/\(W.map (·.1)).Nodup/\W.length<64 /\
 ∀(ys:List V) (W':List (List Int×Int×Int)),W'.Perm W->(W'.map (·.1)).Pairwise (λa b=>lexL b a=false)->ys.Perm xs->xX K H ys W'->∀l,H l=none->Q (.ref l) (upd H l (.lst ys))
theorem aAq (hr:Room k X.A):CallR X (.builtin "sorted") (vT X.K):=by
 intro pins s σ H vs us Q I r ⟨a,xs,W,e,hq,hR,nd,h64,q⟩
 subst e
 obtain⟨u,rfl,ru⟩:=yG r
 obtain rfl:u=Value.ref a:=ru
 have go:∀(its:List Value) (ob:Obj) (n:Nat) (T:String),Vals xs its->s.heap.get? a=some ob->ob.cls = .type T->(T="list"\/T="tuple")->ob.data = .seq its.toArray n->wpAny (model X.prog X.w) X.A (call (.builtin "sorted") [.ref a]) (EP X pins σ Q) X.xe s:=by
  intro its ob n T rv e0 ec eT ed
  have hl:=rv.length
  have hv:PtAt s.heap its (W.map (·.1)):=⟨by rw[<- hl,ae];exact hR.1,λi row hr=>by
   rw[aw] at hr
   cases ew:W[i]? with
   |none=>rw[ew] at hr;cases hr
   |some e=>
   rw[ew] at hr
   obtain rfl:e.1=row:=bo hr
   obtain⟨b,e1,q,f,e2,e3,e4⟩:=hR.2 i e ew
   obtain⟨u,eu,rU⟩:=rv.get e1
   obtain rfl:u=Value.ref b:=rU
   obtain⟨vs,rvs,pl,_⟩:=I.tuple e2
   obtain⟨ws,rws,pq,_⟩:=I.tuple e3
   obtain⟨zs,rzs,pz,_⟩:=I.tuple e4
   cases rvs with
   |cons r1 rvs=>
    cases rvs with
    |cons r2 rvs=>
     cases rvs
     obtain rfl:=(show _=Value.ref q from r1)
     obtain rfl:=(show _=Value.ref f from r2)
     exact⟨b,q,f,ws,zs,[e.2.1,e.2.2],eu,pl,pq,cD rws,pz,cD (by simpa using rzs)⟩⟩
  refine aAy e0 ec eT ed hv.1 hv (λh h' hv k=>hv.keep k) (λh hv=>yR hv) (λs i j C hv hi hj hC=>aMB (by have:=hr.un;show X.A.units+1+1+10<cLine;lia) nd hv hi hj hC) (by rw[<- hl,hR.1];exact h64) λp hp=>?_
  obtain⟨f1,f2⟩:=vN hp
  have pl:p.toList.Perm (ao W.length):=by simpa using k7.mp hp.1
  have hb:∀i∈p.toList,i<W.length:=λi hi=>az.mp (pl.mem_iff.mp hi)
  obtain⟨c,he⟩:=Bo s.heap its (jg (p.toList.map λi=>its.getD i Value.none))
  have ex:(ao W.length).map (λi=>xs.getD i V.non)=xs:=by
   apply nq
   ·simp[hR.1]
   ·intro i h1 h2
    rw[lg,n5,aj,ah h2];rfl
  have py:(p.toList.map λi=>xs.getD i V.non).Perm xs:=by have:=pl.map λi=>xs.getD i V.non;rw[ex] at this;exact this
  have exW:(ao W.length).map (λi=>W.getD i ([],0,0))=W:=by
   apply nq
   ·simp
   ·intro i h1 h2
    rw[lg,n5,aj,ah h2];rfl
  have pW:(p.toList.map λi=>W.getD i ([],0,0)).Perm W:=by have:=pl.map λi=>W.getD i ([],0,0);rw[exW] at this;exact this
  have eW:(p.toList.map λi=>W.getD i ([],0,0)).map (·.1)=p.toList.map λi=>(W.map (·.1)).getD i []:=by
   rw[dw]
   refine gw λi hi=>?_
   show(W.getD i ([],0,0)).1=_
   rw[aj,aj,aw]
   cases W[i]? <;> rfl
  refine⟨.ref (s.heap.objs.size+1),_,I.laid (t':=s.toks) (o := .lst (p.toList.map λi=>xs.getD i V.non)) (λb ob q=>AW q) (tj _) ?_,rfl,q _ (p.toList.map λi=>W.getD i ([],0,0)) pW (by rw[eW];exact f2) py ?_ _ (I.hok.fresh (tj _))⟩
  ·refine⟨?_,p.toList.map λi=>its.getD i Value.none,c,?_,by simpa using he⟩
   ·rw[ae,pl.length_eq,br]
    exact de (i7 h64) (by decide)
   ·have all:∀l:List Nat,(∀i∈l,i<W.length)->Vals (l.map λi=>xs.getD i V.non) (l.map λi=>its.getD i Value.none):=by
     intro l
     induction l with
     |nil=>intro _;exact .nil
     |cons i l ih=>
      intro h
      have hi:i<xs.length:=by rw[hR.1];exact h i (cv ..)
      obtain⟨u,eu,rU⟩:=rv.get (ah hi)
      refine .cons ?_ (ih λj hj=>h j (ay _ hj))
      show RelV (xs.getD i V.non) (its.getD i Value.none)
      rw[aj,aj,eu,ah hi]
      exact rU
    exact all _ hb
  ·refine⟨by rw[ae,ae],λi row hr=>?_⟩
   rw[aw] at hr
   cases ep:p.toList[i]? with
   |none=>rw[ep] at hr;cases hr
   |some k=>
    rw[ep] at hr
    obtain rfl:W.getD k ([],0,0)=row:=bo hr
    have hk:=hb k (ar ep)
    obtain⟨b,e1,e2⟩:=hR.2 k W[k] (ah hk)
    refine⟨b,?_,?_⟩
    ·rw[aw,ep]
     show some (xs.getD k V.non)=_
     rw[aj,e1];rfl
    ·rw[aj,ah hk];exact e2
 rcases hq with hq | hq
 ·obtain⟨its,rv,pl,hz⟩:=I.list hq
  obtain⟨o,ho,hc,n,hd⟩:=pl.isList
  exact go its o n "list" rv ho hc (.inl rfl) hd
 ·obtain⟨its,rv,pl,hz⟩:=I.tuple hq
  obtain⟨o,ho,hc,n,hd⟩:=pl
  exact go its o n "tuple" rv ho hc (.inr rfl) hd
theorem wR {K: aa}{k: Nat}(hK:X.K=K)(hr:Room k X.A):CallR X (.builtin "sorted") (vT K):=by subst hK;exact aAq hr
end L2
namespace L2
open PySem PySem.Spec PySem.W PyProof.Rows
open PySem.SeqAt
end L2
namespace L2
open PySem PySem.Spec PyProof.Rows
def cnm (sc:Scope):List Str:=(sc.names.tail.filter λp=>p.2 == .local || p.2 == .free).map (·.1)
theorem aGp (hi:PI X target iter wi)(hg:∀s H fp,PG (bV X (cnm scope) scope s H fp) target g)(hts:∀s H fp,PTs (bV X (cnm scope) scope s H fp) ifs ts)(hb:∀s H fp acc,PB (bV X (cnm scope) scope s H fp) elt (⟨target,iter,ifs,0⟩ :: rest) scope pos 0 acc (tb acc))(hok:gG X.N scope.names X.env.scope.names (cnm scope) ix=true:=by rfl)(hk:scope.kind = .function:=by rfl)(hc:X.calm=true:=by rfl)(hn:∀g',rest[0]?=some g'->g'.is_async=0:=by intro _ h;first | cases h;rfl | cases h)(hs:∀x,kx iter X.env x=pure x:=by intro _;rfl):
  PE X (.ListComp elt (⟨target,iter,ifs,0⟩ :: rest) scope pos) (bI ix wi g ts tb):=kE hok hk hc hi hg hts hb hn hs
theorem zV {elt target iter: Expr}{ifs: List Expr}{rest: List Comprehension}{scope: Scope}{pos: Pos}{ix: List (Option Nat)}{wi: TI}{g: TG}{ts: List TT}{tb: Addr->TS}{i: Nat}{x: Str}{pos' spos: Pos}(hN:X.N.Nodup)(hix:X.N[i]?=some x)(hx:Loc X.env.scope x)(hi:PI X target iter wi)(hg:∀s H fp,PG (bV X (cnm scope) scope s H fp) target g)(hts:∀s H fp,PTs (bV X (cnm scope) scope s H fp) ifs ts)(hb:∀s H fp acc,PB (bV X (cnm scope) scope s H fp) elt (⟨target,iter,ifs,0⟩ :: rest) scope pos 0 acc (tb acc))(hok:gG X.N scope.names X.env.scope.names (cnm scope) ix=true:=by rfl)(hk:scope.kind = .function:=by rfl)(hc:X.calm=true:=by rfl)(hsw:AM (.ListComp elt (⟨target,iter,ifs,0⟩ :: rest) scope pos) (some (.Name x pos')) spos.line X.env=pure true:=by rfl)(hf:X.fn x=true\/X.env.scope.names.lookup x=some .local:=by first | exact .inl rfl | exact .inr rfl | assumption)(hn:∀g',rest[0]?=some g'->g'.is_async=0:=by intro _ h;first | cases h;rfl | cases h)(hs:∀x,kx iter X.env x=pure x:=by intro _;rfl):
  PS X (.Assign [.Name x pos'] (.ListComp elt (⟨target,iter,ifs,0⟩ :: rest) scope pos) spos) (aQ (bI ix wi g ts tb) (aE i)):=aCd hN hix hx hok hk hc hi hg hts hb hsw hf hn hs
theorem ndC (h:N.Nodup): (bV X N scope s H fp).N.Nodup:=h
theorem aJC {pos: Pos}{x: Str}{k0 k: Nat}{ps: List Str}{sp: Sp}{p: Pos}{e: Expr}{es: List Expr}{t: TA}(D:Def X.prog X.w X.K X.mg X.base x k0 ps sp)(hr:Room k X.A)(hk:k0<=k)(ha:PA X (e :: es) t)(hg:Gl X x:=by rfl)(hdb:(x == ("__debug__" : Str))=false:=by decide)(he:ft (e :: es) X.env=(false,eval e X.env) :: ft es X.env:=by rfl)(hpl:(wc pos (ft es X.env)).any (·.1)=false:=by rfl):
  PE X (.Call (.Name x p) (e :: es) [] pos) (aO sp [] E0 t):=aHT (D.mono hk) hr hg ha hdb he hpl
theorem aBf {pos: Pos}{x: Str}{k0 k: Nat}{ps: List Str}{sp: Sp}{p: Pos}{e: Expr}{es: List Expr}{t: TA}(D:DefX X.prog X.w X.K X.mg X.base x k0 ps sp)(hr:Room k X.A)(hk:k0<=k)(hx:pX (zK X.prog X.w) X E)(ha:PA X (e :: es) t)(hg:Gl X x:=by rfl)(hdb:(x == ("__debug__" : Str))=false:=by decide)(he:ft (e :: es) X.env=(false,eval e X.env) :: ft es X.env:=by rfl)(hpl:(wc pos (ft es X.env)).any (·.1)=false:=by rfl):
  PE X (.Call (.Name x p) (e :: es) [] pos) (aO sp [] E t):=aDX (D.mono hk) hr hg hx ha hdb he hpl
end L2
namespace K39
open PySem L2
def top (i:Nat):Stmt:=PySem.Challenge.pw_homeround_k39_best_prices.main.body.getD i (.Pass ⟨0,0,0,0⟩)
local macro_rules | `(tactic| walk_at "S")=>`(tactic| first
 | ((with_reducible show PSs _ [] _);exact cK)
 |exact aY (by walk_at "s") (by walk_at "S"))
local macro_rules | `(tactic| walk_at "s")=>`(tactic| first
 | ((with_reducible show PS _ _ (aQ (bI _ _ _ _ _) (aE _)));exact zV (by walk_at "n") rfl (by first | exact .inl rfl | exact .inr rfl) (by walk_at "i") (λ_ _ _=>(by walk_at "g")) (λ_ _ _=>(by walk_at "p")) (λ_ _ _ _=>(by walk_at "b")))
 | ((with_reducible show PS _ _ (aQ _ (aE _)));exact pH (by walk_at "n") rfl (by first | exact .inl rfl | exact .inr rfl) (by walk_at "e"))
 | ((with_reducible show PS _ _ (aQ _ _));exact aEM (by walk_at "e") (by walk_at "g"))
 | ((with_reducible show PS _ _ (gQ _ _ _));exact aBd pg rfl (by walk_at "i") (by walk_at "g") (by walk_at "S"))
 | ((with_reducible show PS _ _ (oI _ _));exact aBB pg (by walk_at "t") (by walk_at "S"))
 | ((with_reducible show PS _ _ (cV _ _ _));exact aGQ (by walk_at "t") (by walk_at "S") (by walk_at "S"))
 | ((with_reducible show PS _ _ (cE _));exact aBa (by walk_at "e"))
 | ((with_reducible show PS _ _ (iZ _));exact aAI (by walk_at "e"))
 | ((with_reducible show PS _ _ (aMX _ _ _));exact aLZ rfl (by walk_at "n") rfl rfl (by decide) rfl rfl (by walk_at "a") rfl)
 | ((with_reducible show PS _ _ (aJr _ _ _));exact aJV (aJQ ‹_›) (by walk_at "e") (by walk_at "e") (by walk_at "e") rfl))
local macro_rules | `(tactic| walk_at "X")=>`(tactic| first
 | ((with_reducible show PSs _ [] _);exact cK)
 |exact aY (by walk_at "x") (by walk_at "X"))
local macro_rules | `(tactic| walk_at "x")=>`(tactic| first
 | ((with_reducible show PS _ _ (jL _ _));exact aFi rfl aCg rfl rfl ‹_› ‹_›)
 | ((with_reducible show PS _ _ (cV _ _ _));exact aGQ (PT.nox (by walk_at "t")) (by walk_at "X") (by walk_at "X"))
 |exact PS.nox (by walk_at "s")
 | ((with_reducible show PS _ _ _);exact(by walk_at "s")))
local macro_rules | `(tactic| walk_at "e")=>`(tactic| first
 | ((with_reducible show PE _ _ (aC _));exact pv _)
 | ((with_reducible show PE _ (.Constant (.int _) _ _) _);exact tE)
 | ((with_reducible show PE _ (.Constant (.bool _) _ _) _);exact aNK)
 | ((with_reducible show PE _ (.Constant .none _ _) _);exact aLo)
 | ((with_reducible show PE _ (.BinOp _ _ _ _) _);exact uJ (by walk_at "o") (by walk_at "e") (by walk_at "e"))
 | ((with_reducible show PE _ _ (tUn wZ _));exact aNF aLM (by walk_at "e"))
 | ((with_reducible show PE _ _ (tOp (aL _) _ _));exact qE (fW rfl) (by walk_at "e") (by walk_at "e") (λ_ _=>rfl))
 | ((with_reducible show PE _ (.Compare _ _ _ _) (tOp _ _ _));exact aJe (by walk_at "o") (by walk_at "e") (by walk_at "e") (by walk_at "q"))
 | ((with_reducible show PE _ _ (tSl (aCO _) _ _ _));exact aGw (aNa rfl) (by walk_at "e") (by walk_at "l") (by walk_at "l"))
 | ((with_reducible show PE _ _ (fF _));exact aDt (by walk_at "a"))
 | ((with_reducible show PE _ _ (tX _));exact aFt (by walk_at "a"))
 | ((with_reducible show PE _ _ (aO _ _ _ _));exact aJC ‹_› ‹_› (by decide) (by walk_at "a"))
 | ((with_reducible show PE _ _ (aO _ _ _ _));exact aBf ‹_› ‹_› (by decide) aIZ (by walk_at "a"))
 | ((with_reducible show PE _ _ (aO _ _ _ _));exact aBf ‹_› ‹_› (by decide) tL (by walk_at "a"))
 | ((with_reducible show PE _ _ (bI _ _ _ _ _));exact aGp (by walk_at "i") (λ_ _ _=>(by walk_at "g")) (λ_ _ _=>(by walk_at "p")) (λ_ _ _ _=>(by walk_at "b")))
 | ((with_reducible show PE _ _ (tIf _ _ _));exact aAR (by walk_at "t") (by walk_at "e") (by walk_at "e"))
 | ((with_reducible show PE _ _ (aFF _ _));exact aLz (by walk_at "e") (by walk_at "e"))
 | ((with_reducible show PE _ _ (aNf _ _));exact aNy (by walk_at "e") (by walk_at "e"))
 | ((with_reducible show PE _ _ (aII _));exact aMa (by walk_at "e"))
 | ((with_reducible show PE _ (.BoolOp _ [_] _) _);exact aLb (by walk_at "e"))
 | ((with_reducible show PE _ _ (aFL _ _));exact aFe (aJQ ‹_›) (by walk_at "e") (by walk_at "e") (λ_ _=>rfl))
 | ((with_reducible show PE _ _ aEy);exact aGi)
 | ((with_reducible show PE _ _ (aAp _ _ _ _ _ _ _));exact aEG (by walk_at "o") (by walk_at "o") (by walk_at "o") (by walk_at "e") (by walk_at "e") (by walk_at "e") (by walk_at "e"))
 | ((with_reducible show PE _ _ (tBM _ "list" eA _ _));exact aBE rfl ni q9 rf iU (by walk_at "e") (by walk_at "a"))
 | ((with_reducible show PE _ _ (tBM _ "list" aIz _ _));exact aBE rfl ni PySem.F.slot_list_remove PySem.F.type_list_remove aIS (by walk_at "e") (by walk_at "a"))
 | ((with_reducible show PE _ _ (tCB (eP _) _));exact bE (fV rfl) rfl ‹mG _›.len wJ (by walk_at "a"))
 | ((with_reducible show PE _ _ (tCB (aFD _) _));exact bE (aFu rfl) rfl ‹mG _›.isi aLm (by walk_at "a"))
 | ((with_reducible show PE _ _ (tCB (aNg _) _));exact bE (aEr rfl rfl) rfl ‹mG _›.all aMk (by walk_at "a"))
 | ((with_reducible show PE _ _ (tCB aGY _));exact bE (tO rfl) rfl ‹mG _›.max aHV (by walk_at "a"))
 | ((with_reducible show PE _ _ (tCB lT _));exact bE (sZ rfl) rfl ‹mG _›.min xV (by walk_at "a"))
 | ((with_reducible show PE _ _ (tCB (aDu _) _));exact bE (kD rfl ‹_› rfl) rfl ‹mG _›.min xV (by walk_at "a"))
 | ((with_reducible show PE _ _ (tCB (tD _) _));exact bE (aAn rfl) rfl ‹mG _›.sorted pY (by walk_at "a"))
 | ((with_reducible show PE _ _ (tCB (vT _) _));exact bE (wR rfl ‹_›) rfl ‹mG _›.sorted pY (by walk_at "a"))
 | ((with_reducible show PE _ _ (tCB (aJg _) _));exact bE (aEX rfl rfl) rfl ‹mG _›.sum aLU (by walk_at "a"))
 | ((with_reducible show PE _ _ (tCB aAd _));exact bE aEc rfl ‹mG _›.abs aLG (by walk_at "a"))
 | ((with_reducible show PE _ _ (tCB (aCj _) _));exact eI (aCy rfl rfl) rfl ‹mG _›.list aEL (by walk_at "a"))
 | ((with_reducible show PE _ _ (tCB (gH _) _));exact eI (iC rfl) rfl ‹mG _›.tuple nX (by walk_at "a"))
 | ((with_reducible show PE _ _ (tCB aMV _));exact eI aEZ rfl ‹mG _›.range aGK (by walk_at "a"))
 | ((with_reducible show PE _ _ (tCB (aJx _) _));exact aJz rfl rfl ‹_› rfl ‹mG _›.sorted pY rfl ‹mG _›.set aMp (by walk_at "a"))
 | ((with_reducible show PE _ _ (tC (.ty "bool")));exact uA rfl ‹mG _›.bool aKb rfl)
 | ((with_reducible show PE _ _ (tC (.ty "int")));exact uA rfl ‹mG _›.int aKK rfl)
 | ((with_reducible show PE _ _ (tC (.ty "list")));exact uA rfl ‹mG _›.list aEL rfl)
 | ((with_reducible show PE _ _ (tC (.ty "tuple")));exact uA rfl ‹mG _›.tuple nX rfl)
 | ((with_reducible show PE _ (.Name _ _) (tC _));exact aEi rfl ‹_› ⟨_,rfl⟩)
 | ((with_reducible show PE _ (.Name _ _) (tC _));exact aEi rfl ‹_› rfl))
local macro_rules | `(tactic| walk_at "l")=>`(tactic| first
 |exact aIC
 |exact aJd (by walk_at "e"))
local macro_rules | `(tactic| walk_at "a")=>`(tactic| first
 | ((with_reducible show PA _ [] _);exact bO)
 | ((with_reducible show PA _ (.Name _ _ :: _) _);exact bJ (by walk_at "e") (by walk_at "a"))
 | ((with_reducible show PA _ (.Constant _ _ _ :: _) _);exact aHo (by walk_at "e") (by walk_at "a"))
 | ((with_reducible show PA _ (.Subscript _ _ _ :: _) _);exact jQ (by walk_at "e") (by walk_at "a"))
 | ((with_reducible show PA _ (.BinOp _ _ _ _ :: _) _);exact aGh (by walk_at "e") (by walk_at "a"))
 | ((with_reducible show PA _ (.Call _ _ _ _ :: _) _);exact gO (by walk_at "e") (by walk_at "a"))
 | ((with_reducible show PA _ (.Tuple _ _ _ :: _) _);exact aBC (by walk_at "e") (by walk_at "a"))
 | ((with_reducible show PA _ (.UnaryOp _ _ _ :: _) _);exact aHs (by walk_at "e") (by walk_at "a"))
 |exact dE (by walk_at "e") (by walk_at "a"))
local macro_rules | `(tactic| walk_at "g")=>`(tactic| first
 | ((with_reducible show PG _ _ (aE _));exact bU (by walk_at "n") rfl (by first | exact .inl rfl | exact .inr rfl))
 | ((with_reducible show PG _ _ (gE _ _ _));exact kT rfl rfl (by walk_at "G"))
 | ((with_reducible show PG _ _ (jZ _ _ cL));exact aIb (by walk_at "e") (by walk_at "e") aBS))
local macro_rules | `(tactic| walk_at "G")=>`(tactic| first
 | ((with_reducible show PGs _ [] _);exact kF)
 |exact cA (by walk_at "g") (by walk_at "G"))
local macro_rules | `(tactic| walk_at "n")=>`(tactic| first
 |assumption
 |exact ndC (by decide+kernel))
local macro_rules | `(tactic| walk_at "i")=>`(tactic| first
 | ((with_reducible show PI _ _ _ (eD _ _));exact uI rfl (by walk_at "e"))
 | ((with_reducible show PI _ _ _ (eZ _));exact qU rfl ‹mG _›.range (by walk_at "a"))
 | ((with_reducible show PI _ _ _ (aCw _));exact aEE rfl ‹mG _›.range (by walk_at "a"))
 | ((with_reducible show PI _ _ _ (zS _ _));exact uE rfl rfl ‹mG _›.enumerate (by walk_at "a"))
 | ((with_reducible show PI _ _ _ (aKt _ _));exact aEQ rfl rfl ‹mG _›.zip (by walk_at "a")))
local macro_rules | `(tactic| walk_at "t")=>`(tactic| first
 | ((with_reducible show PT _ _ (aP (tOp _ _ _)));exact kQ (by walk_at "o") (by walk_at "e") (by walk_at "e") (by walk_at "q"))
 | ((with_reducible show PT _ _ (aP (aFf _ _ _ _ _)));exact aGJ (by walk_at "o") (by walk_at "o") (by walk_at "e") (by walk_at "e") (by walk_at "e"))
 | ((with_reducible show PT _ _ (xF _));exact aLT (by walk_at "t"))
 | ((with_reducible show PT _ _ (tB _));exact aLN (by walk_at "e"))
 | ((with_reducible show PT _ _ (aNP _ _));exact aJb rfl (by walk_at "e") (λ_=>rfl))
 | ((with_reducible show PT _ (.BoolOp _ _ _) _);exact PW.pt (by walk_at "w")))
local macro_rules | `(tactic| walk_at "w")=>`(tactic| first
 | ((with_reducible show PW _ _ (aIr _ _));exact aLY (by walk_at "t") (by walk_at "w"))
 | ((with_reducible show PW _ _ (tOr _ _));exact aNQ (by walk_at "t") (by walk_at "w"))
 | ((with_reducible show PW _ (.BoolOp .And _ _) _);exact aIF (by walk_at "t"))
 |exact aLa (by walk_at "t"))
local macro_rules | `(tactic| walk_at "p")=>`(tactic| first
 |exact .nil
 |exact .cons (by walk_at "t") (by walk_at "p"))
local macro_rules | `(tactic| walk_at "b")=>`(tactic| first
 | ((with_reducible show PB _ _ _ _ _ _ _ (bF _ _));exact kH rfl (by walk_at "e") rfl)
 | ((with_reducible show PB _ _ _ _ _ _ _ (gQ _ _ _));exact aIN rfl rfl rfl (by intro _ h;first | cases h;rfl | cases h) (by walk_at "i") (by walk_at "g") (by walk_at "p") (by walk_at "b")))
local macro_rules | `(tactic| walk_at "o")=>`(tactic| first
 | ((with_reducible show OpR _ _ (bC _));exact aEf rfl)
 | ((with_reducible show OpR _ _ jY);exact aBm)
 | ((with_reducible show OpR _ _ bQ);exact uV)
 | ((with_reducible show OpR _ _ zD);exact aKW)
 | ((with_reducible show OpR _ _ kG);exact aAT)
 | ((with_reducible show OpR _ _ aFR);exact aLt)
 | ((with_reducible show OpR _ _ yLt);exact aKN)
 | ((with_reducible show OpR _ _ yLe);exact aNk)
 | ((with_reducible show OpR _ _ yGt);exact aOj)
 | ((with_reducible show OpR _ _ yGe);exact aOl)
 | ((with_reducible show OpR _ _ (gB _));exact aMC rfl (by assumption))
 | ((with_reducible show OpR _ _ (zH _));exact aFn rfl (by assumption))
 | ((with_reducible show OpR _ _ (rIn _ false));exact aIq rfl)
 | ((with_reducible show OpR _ _ (rIn _ true));exact xZ rfl)
 | ((with_reducible show OpR _ _ aOb);exact aLv)
 | ((with_reducible show OpR _ _ uP);exact aCS))
local macro_rules | `(tactic| walk_at "q")=>`(tactic| first | exact aAZ _ | rfl)
section
variable {P:Program}{w:World}{K:aa}{mg:Str->Option Value}{base:Heap}
variable (B:mG mg){p0:Sp}(d0:Def P w K mg base "common_measure" 1 ["one","other"] p0){p1:Sp}(d1:Def P w K mg base "common_bottom" 2 ["some"] p1){p2:Sp}(d2:Def P w K mg base "lowest" 2 ["top","bottom"] p2){p3:Sp}(d3:Def P w K mg base "tops_over" 1 ["some","bottom"] p3){t0:Tok}(g0:mg "LEAST_PLACES" = some (.int 3 t0)){t1:Tok}(g1:mg "MOST_PLACES" = some (.int 6 t1)){c0:Addr}(e0:mg "NotEven" = some (.ref c0)){c1:Addr}(e1:mg "TooFew" = some (.ref c1)){c2:Addr}(e2:mg "TooMany" = some (.ref c2))(x0:kq K c0 aIm "ValueError.__new__" = true)(x1:kq K c1 aIm "ValueError.__new__" = true)(x2:kq K c2 aIm "ValueError.__new__" = true){p4:Sp}(d4:Def P w K mg base "is_even" 1 ["table"] p4){p5:Sp}(d5:Def P w K mg base "all_pairs" 1 ["many"] p5){p6:Sp}(d6:Def P w K mg base "climb" 3 ["rows","held"] p6){p7:Sp}(d7:Def P w K mg base "first_rows" 2 ["table","pairs","steps"] p7){p8:Sp}(d8:Def P w K mg base "price_steps" 2 ["many"] p8){p9:Sp}(d9:Def P w K mg base "told_cuts" 3 ["steps","rows","held","bottom"] p9){p10:Sp}(y0:DefX P w K mg base "refuse_unfit" 2 ["table"] p10){p11:Sp}(d10:Def P w K mg base "all_sets" 1 ["many"] p11){p12:Sp}(d11:Def P w K mg base "does_part" 1 ["some","i","j"] p12){p13:Sp}(d12:Def P w K mg base "rising_column" 1 ["rows"] p13){p14:Sp}(d13:Def P w K mg base "tightest_row" 2 ["rows","held","column"] p14){p15:Sp}(d14:Def P w K mg base "turn" 1 ["rows","at","column","bottom"] p15){p16:Sp}(d15:Def P w K mg base "is_tighter" 1 ["rows","held","column","at","other"] p16){p17:Sp}(d16:Def P w K mg base "total" 3 ["some"] p17){p18:Sp}(y1:DefX P w K mg base "shares" 4 ["table"] p18){p19:Sp}(d17:Def P w K mg base "tree_sum" 1 ["table","ties"] p19){p20:Sp}(d18:Def P w K mg base "counted" 1 ["table","tops","bottom"] p20){p21:Sp}(y2:DefX P w K mg base "least_tree" 2 ["table"] p21){p22:Sp}(d19:Def P w K mg base "_law_cmixed" 1 ["cell","at"] p22){p23:Sp}(d20:Def P w K mg base "_law_cdraw" 2 ["feed","many"] p23){p24:Sp}(d21:Def P w K mg base "_law_cpairs" 1 ["many"] p24){p25:Sp}(d22:Def P w K mg base "_law_cshort" 1 ["rows"] p25){p26:Sp}(d23:Def P w K mg base "_law_clow" 1 ["top","bottom"] p26){p27:Sp}(d24:Def P w K mg base "_law_cwhole" 1 ["thing"] p27){p28:Sp}(d25:Def P w K mg base "_law_ctree_sum" 1 ["places","counts"] p28){p29:Sp}(d26:Def P w K mg base "_law_cis_fraction" 2 ["thing"] p29){p30:Sp}(d27:Def P w K mg base "_law_cis_tie" 2 ["many","thing"] p30){p31:Sp}(d28:Def P w K mg base "_law_cover_sum" 3 ["some","side"] p31){p32:Sp}(d29:Def P w K mg base "_law_cplus" 2 ["some"] p32){p33:Sp}(d30:Def P w K mg base "_law_csets" 1 ["many"] p33){p34:Sp}(d31:Def P w K mg base "_law_cover" 1 ["some","i","j"] p34){p35:Sp}(d32:Def P w K mg base "_law_care_shares" 4 ["table","some","worth"] p35){p36:Sp}(d33:Def P w K mg base "_law_cbound" 2 ["table","prices"] p36){p37:Sp}(d34:Def P w K mg base "_law_ceven" 3 ["feed","least","most"] p37){p38:Sp}(d35:Def P w K mg base "_law_copen" 1 ["script"] p38){p39:Sp}(y3:DefX P w K mg base "best_prices" 5 ["table"] p39){p40:Sp}(y4:DefX P w K mg base "hung" 3 ["table","prices"] p40)
def zO (K:aa)(p0:Sp):TS:=aG (cV (aP (tOp yLt (aC 1) (tC (.int 0)))) (aG (aQ (tUn wZ (aC 2)) (aE 2)) aF) aF) (aG (cE (fF (aB (tOp kG (aC 0) (aC 2)) (aB (tOp kG (aC 1) (aC 2)) aH)))) aF)
def aBj (K:aa)(p0:Sp):TS:=aG (aQ (aO p0 [] E0 (aB (aC 0) (aB (aC 1) aH))) (aE 2)) (zO K p0)
def aFm:OkN P w K mg base "lowest" (top 6) 2 ["top","bottom","measure"] ["top","bottom"] (aBj K p0):=okN λ_ _ _ _ _ _ _ _ _=>by walk_at "S"
def iS (K:aa):TS:=aG (oI (aP (tOp yGt (aC 1) (tC (.int 0)))) (aG (aQ (tOp zD (aC 0) (aC 1)) (aE 2)) (aG (aQ (aC 1) (aE 0)) (aG (aQ (aC 2) (aE 1)) aF)))) (aG (cE (aC 0)) aF)
def iD (K:aa):TS:=aG (aQ (tCB aAd (aB (aC 1) aH)) (aE 1)) (iS K)
def fG (K:aa):TS:=aG (aQ (tCB aAd (aB (aC 0) aH)) (aE 0)) (iD K)
def kL:OkN P w K mg base "common_measure" (top 7) 1 ["one","other","left"] ["one","other"] (fG K):=okN λ_ _ _ _ _ _ _ _ _=>by walk_at "S"
def iY (K:aa)(p0:Sp):TS:=aG (gQ (eD K (aC 0)) (gE K 2 (aR (aE 2) (aR (aE 3) gX))) (aG (aQ (tOp bQ (aC 1) (tOp kG (aC 3) (aO p0 [] E0 (aB (aC 1) (aB (aC 3) aH))))) (aE 1)) aF)) (aG (cE (aC 1)) aF)
def fX (K:aa)(p0:Sp):TS:=aG (aQ (tC (.int 1)) (aE 1)) (iY K p0)
def mB:OkN P w K mg base "common_bottom" (top 8) 2 ["some","common","top","bottom"] ["some"] (fX K p0):=okN λ_ _ _ _ _ _ _ _ _=>by walk_at "S"
def pP (K:aa):TS:=aG (cE (bI [none,none,some 1] (eD K (aC 0)) (gE K 2 (aR (aE 0) (aR (aE 1) gX))) [] λacc=>(bF (tOp bQ (aC 0) (tOp kG (aC 2) (aC 1))) acc))) aF
def xO:OkN P w K mg base "tops_over" (top 9) 1 ["some","bottom"] ["some","bottom"] (pP K):=okN λ_ _ _ _ _ _ _ _ _=>by walk_at "S"
def aCa (K:aa)(p1 p2 p3:Sp):TS:=aG (cE (aO p2 [] E0 (aB (tCB (aJg K) (aB (aO p3 [] E0 (aB (aC 0) (aB (aC 1) aH))) aH)) (aB (aC 1) aH)))) aF
def aEk (K:aa)(p1 p2 p3:Sp):TS:=aG (aQ (aO p1 [] E0 (aB (aC 0) aH)) (aE 1)) (aCa K p1 p2 p3)
def aHM:OkN P w K mg base "total" (top 10) 3 ["some","bottom"] ["some"] (aEk K p1 p2 p3):=okN λ_ _ _ _ _ _ _ _ _=>by walk_at "S"
def wX (K:aa):TS:=aG (cE (tCB (aNg K) (aB (bI [none,none,some 0] (eZ (aB (aC 1) aH)) (aE 0) [] λacc=>(gQ (eZ (aB (aC 0) aH)) (aE 1) (eE [] (bF (tOp (gB K) (tOp (aL K) (tOp (aL K) (aC 2) (aC 0)) (aC 1)) (tOp (aL K) (tOp (aL K) (aC 2) (aC 1)) (aC 0))) acc)))) aH))) aF
def yS (K:aa):TS:=aG (aQ (tCB (eP K) (aB (aC 0) aH)) (aE 1)) (wX K)
def aCl:OkN P w K mg base "is_even" (top 12) 1 ["table","many"] ["table"] (yS K):=okN λ_ _ _ _ _ _ _ _ _=>by walk_at "S"
def kC (K:aa)(c0 c1 c2:Addr)(E:XK)(p4:Sp):TS:=aG (cV (aP (tOp yLt (tCB (eP K) (aB (aC 0) aH)) (tC (.int 3)))) (aG (jL c1 E) aF) aF) (aG (cV (aP (tOp yGt (tCB (eP K) (aB (aC 0) aH)) (tC (.int 6)))) (aG (jL c2 E) aF) aF) aF)
def gZ (K:aa)(c0 c1 c2:Addr)(E:XK)(p4:Sp):TS:=aG (cV (xF (tB (aO p4 [] E0 (aB (aC 0) aH)))) (aG (jL c0 E) aF) aF) (kC K c0 c1 c2 E p4)
def pQ:OkX P w K mg base "refuse_unfit" (top 16) 2 ["table"] ["table"] (λE=>gZ K c0 c1 c2 E p4):=okX λ_ _ _ _ _ _ _ _ _=>by walk_at "X"
def pS (K:aa):TS:=aG (cE (bI [none,none,some 0] (eZ (aB (aC 0) aH)) (aE 0) [] λacc=>(gQ (aCw (aB (tOp (bC K) (aC 0) (tC (.int 1))) (aB (aC 2) aH))) (aE 1) (eE [] (bF (fF (aB (aC 0) (aB (aC 1) aH))) acc))))) aF
def wQ:OkN P w K mg base "all_pairs" (top 17) 1 ["many"] ["many"] (pS K):=okN λ_ _ _ _ _ _ _ _ _=>by walk_at "S"
def vO (K:aa):TS:=aG (gQ (eZ (aB (aC 0) aH)) (aE 2) (aG (aQ (tOp (bC K) (aC 1) (bI [none,some 2] (eD K (aC 1)) (aE 0) [] λacc=>(bF (tOp (bC K) (aC 0) (fF (aB (aC 1) aH))) acc))) (aE 1)) aF)) (aG (cE (tSl (aCO K) (aC 1) (kA (tC (.int 1))) (kA (tUn wZ (tC (.int 1)))))) aF)
def tS (K:aa):TS:=aG (aQ (tX (aB (fF aH) aH)) (aE 1)) (vO K)
def aAb:OkN P w K mg base "all_sets" (top 18) 1 ["many","sets","place"] ["many"] (tS K):=okN λ_ _ _ _ _ _ _ _ _=>by walk_at "S"
def rA (K:aa):TS:=aG (cE (tOp (zH K) (tOp (rIn K false) (aC 1) (aC 0)) (tOp (rIn K false) (aC 2) (aC 0)))) aF
def yK:OkN P w K mg base "does_part" (top 19) 1 ["some","i","j"] ["some","i","j"] (rA K):=okN λ_ _ _ _ _ _ _ _ _=>by walk_at "S"
def aAj (K:aa)(E:XK)(p5 p6 p7 p2 p8 p9 p10:Sp):TS:=aG (cE (fF (aB (aO p2 [] E0 (aB (tOp (aL K) (tOp (aL K) (aC 3) (tUn wZ (tC (.int 1)))) (tUn wZ (tC (.int 1)))) (aB (aC 5) aH))) (aB (aC 7) (aB (aO p9 [] E0 (aB (aC 2) (aB (aC 3) (aB (aC 4) (aB (aC 5) aH))))) aH))))) aF
def zP (K:aa)(E:XK)(p5 p6 p7 p2 p8 p9 p10:Sp):TS:=aG (aQ (bI [none,none,none,some 5] (aKt K (aB (aC 1) (aB (aC 6) aH))) (gE K 2 (aR (gE K 2 (aR (aE 0) (aR (aE 1) gX))) (aR (aE 2) gX))) [(aP (tOp yGt (aC 2) (tC (.int 0))))] λacc=>(bF (fF (aB (aC 0) (aB (aC 1) (aB (aO p2 [] E0 (aB (aC 2) (aB (aC 3) aH))) aH)))) acc)) (aE 7)) (aAj K E p5 p6 p7 p2 p8 p9 p10)
def aAF (K:aa)(E:XK)(p5 p6 p7 p2 p8 p9 p10:Sp):TS:=aG (aQ (tSl (aCO K) (tOp (aL K) (aC 3) (tUn wZ (tC (.int 1)))) (kA (tCB (eP K) (aB (aC 2) aH))) (kA (tUn wZ (tC (.int 1))))) (aE 6)) (zP K E p5 p6 p7 p2 p8 p9 p10)
def aAr (K:aa)(E:XK)(p5 p6 p7 p2 p8 p9 p10:Sp):TS:=aG (aQ (aO p6 [] E0 (aB (aC 3) (aB (aC 4) aH))) (aE 5)) (aAF K E p5 p6 p7 p2 p8 p9 p10)
def zU (K:aa)(E:XK)(p5 p6 p7 p2 p8 p9 p10:Sp):TS:=aG (aQ (bI [none,some 2] (eZ (aB (tCB (eP K) (aB (aC 1) aH)) aH)) (aE 0) [] λacc=>(bF (tOp (bC K) (tCB (eP K) (aB (aC 1) aH)) (aC 0)) acc)) (aE 4)) (aAr K E p5 p6 p7 p2 p8 p9 p10)
def aAi (K:aa)(E:XK)(p5 p6 p7 p2 p8 p9 p10:Sp):TS:=aG (aQ (aO p7 [] E0 (aB (aC 0) (aB (aC 1) (aB (aC 2) aH)))) (aE 3)) (zU K E p5 p6 p7 p2 p8 p9 p10)
def aAa (K:aa)(E:XK)(p5 p6 p7 p2 p8 p9 p10:Sp):TS:=aG (aQ (aO p8 [] E0 (aB (tCB (eP K) (aB (aC 0) aH)) aH)) (aE 2)) (aAi K E p5 p6 p7 p2 p8 p9 p10)
def zW (K:aa)(E:XK)(p5 p6 p7 p2 p8 p9 p10:Sp):TS:=aG (aQ (aO p5 [] E0 (aB (tCB (eP K) (aB (aC 0) aH)) aH)) (aE 1)) (aAa K E p5 p6 p7 p2 p8 p9 p10)
def aBp (K:aa)(E:XK)(p5 p6 p7 p2 p8 p9 p10:Sp):TS:=aG (iZ (aO p10 [] E (aB (aC 0) aH))) (zW K E p5 p6 p7 p2 p8 p9 p10)
def aDG:OkX P w K mg base "shares" (top 20) 4 ["table","pairs","steps","rows","held","bottom","tops","found"] ["table"] (λE=>aBp K E p5 p6 p7 p2 p8 p9 p10):=okX λ_ _ _ _ _ _ _ _ _=>by walk_at "X"
def lV (K:aa)(p11:Sp):TS:=aG (cE (tOp (bC K) (bI [none] (eD K (aC 1)) (aE 0) [] λacc=>(bF (fF (aB (aC 0) (aB (tC (.int 1)) aH))) acc)) (bI [none] (eD K (aC 1)) (aE 0) [(aP (tOp (gB K) (tCB (eP K) (aB (aC 0) aH)) (tC (.int 1))))] λacc=>(bF (fF (aB (aC 0) (aB (tUn wZ (tC (.int 1))) aH))) acc)))) aF
def jN (K:aa)(p11:Sp):TS:=aG (aQ (bI [none,some 0] (eD K (aO p11 [] E0 (aB (aC 0) aH))) (aE 0) [(tOr (aP (tOp (gB K) (aC 0) (fF (aB (tC (.int 0)) aH)))) (aIr (aP (tOp (rIn K true) (tC (.int 0)) (aC 0))) (aP (tOp yLt (tCB (eP K) (aB (aC 0) aH)) (tOp jY (aC 1) (tC (.int 1)))))))] λacc=>(bF (aC 0) acc)) (aE 1)) (lV K p11)
def sG:OkN P w K mg base "price_steps" (top 21) 2 ["many","sets"] ["many"] (jN K p11):=okN λ_ _ _ _ _ _ _ _ _=>by walk_at "S"
def oP (K:aa)(p12:Sp):TS:=aG (iZ (tBM K "list" eA (aC 3) (aB (tOp (bC K) (tOp (bC K) (aC 6) (bI [none,some 4,some 5] (eD K (aC 1)) (aE 0) [] λacc=>(bF (tIf (aP (tOp (gB K) (aC 0) (fF (aB (aC 1) (aB (aC 2) aH))))) (tC (.int 1)) (tC (.int 0))) acc))) (tX (aB (tOp (aL K) (tOp (aL K) (aC 0) (aC 4)) (aC 5)) aH))) aH))) aF
def qG (K:aa)(p12:Sp):TS:=aG (cE (tOp (bC K) (aC 3) (tX (aB (tOp (bC K) (tOp (bC K) (bI [none,none] (eD K (aC 2)) (gE K 2 (aR (aE 0) (aR (aE 1) gX))) [] λacc=>(bF (tOp bQ (tUn wZ (tC (.int 2))) (aC 1)) acc)) (bI [none] (eD K (aC 1)) (aE 0) [] λacc=>(bF (tC (.int 0)) acc))) (tX (aB (tC (.int 0)) aH))) aH)))) aF
def pN (K:aa)(p12:Sp):TS:=aG (gQ (eD K (aC 1)) (gE K 2 (aR (aE 4) (aR (aE 5) gX))) (aG (aQ (bI [none,none,some 4,some 5] (eD K (aC 2)) (gE K 2 (aR (aE 0) (aR (aE 1) gX))) [] λacc=>(bF (tIf (tB (aO p12 [] E0 (aB (aC 0) (aB (aC 2) (aB (aC 3) aH))))) (aC 1) (tC (.int 0))) acc)) (aE 6)) (oP K p12))) (qG K p12)
def lQ (K:aa)(p12:Sp):TS:=aG (aQ (tX aH) (aE 3)) (pN K p12)
def vW:OkN P w K mg base "first_rows" (top 22) 2 ["table","pairs","steps","rows","i","j","taken"] ["table","pairs","steps"] (lQ K p12):=okN λ_ _ _ _ _ _ _ _ _=>by walk_at "S"
def aBZ (K:aa)(p13 p14 p15:Sp):TS:=aG (aQ (tOp (aL K) (tOp (aL K) (aC 0) (aC 4)) (aC 3)) (aE 2)) (aG (aQ (aO p13 [] E0 (aB (aC 0) aH)) (aE 3)) aF)
def aCk (K:aa)(p13 p14 p15:Sp):TS:=aG (aQ (aC 3) (jZ (aC 1) (aC 4) cL)) (aBZ K p13 p14 p15)
def aCx (K:aa)(p13 p14 p15:Sp):TS:=aG (iZ (aO p15 [] E0 (aB (aC 0) (aB (aC 4) (aB (aC 3) (aB (aC 2) aH)))))) (aCk K p13 p14 p15)
def aCG (K:aa)(p13 p14 p15:Sp):TS:=aG (oI (aP (tOp uP (aC 3) (tC .non))) (aG (aQ (aO p14 [] E0 (aB (aC 0) (aB (aC 1) (aB (aC 3) aH)))) (aE 4)) (aCx K p13 p14 p15))) (aG (cE (aC 2)) aF)
def aCn (K:aa)(p13 p14 p15:Sp):TS:=aG (aQ (aO p13 [] E0 (aB (aC 0) aH)) (aE 3)) (aCG K p13 p14 p15)
def aDQ (K:aa)(p13 p14 p15:Sp):TS:=aG (aQ (tC (.int 1)) (aE 2)) (aCn K p13 p14 p15)
def aHn:OkN P w K mg base "climb" (top 23) 3 ["rows","held","bottom","column","at"] ["rows","held"] (aDQ K p13 p14 p15):=okN λ_ _ _ _ _ _ _ _ _=>by walk_at "S"
def gF (K:aa):TS:=aG (gQ (zS K (aB (tSl (aCO K) (tOp (aL K) (aC 0) (tUn wZ (tC (.int 1)))) eX (kA (tUn wZ (tC (.int 1))))) aH)) (gE K 2 (aR (aE 1) (aR (aE 2) gX))) (aG (cV (aP (tOp yLt (aC 2) (tC (.int 0)))) (aG (cE (aC 1)) aF) aF) aF)) (aG (cE (tC .non)) aF)
def mI:OkN P w K mg base "rising_column" (top 24) 1 ["rows","column","turned"] ["rows"] (gF K):=okN λ_ _ _ _ _ _ _ _ _=>by walk_at "S"
def kM (K:aa)(p16:Sp):TS:=aG (gQ (zS K (aB (tSl (aCO K) (aC 0) eX (kA (tUn wZ (tC (.int 1))))) aH)) (gE K 2 (aR (aE 4) (aR (aE 5) gX))) (aG (cV (aIr (aP (tOp yGt (tOp (aL K) (aC 5) (aC 2)) (tC (.int 0)))) (tOr (aP (tOp aOb (aC 3) (tC .non))) (tB (aO p16 [] E0 (aB (aC 0) (aB (aC 1) (aB (aC 2) (aB (aC 4) (aB (aC 3) aH))))))))) (aG (aQ (aC 4) (aE 3)) aF) aF) aF)) (aG (cE (aC 3)) aF)
def iB (K:aa)(p16:Sp):TS:=aG (aQ (tC .non) (aE 3)) (kM K p16)
def qD:OkN P w K mg base "tightest_row" (top 25) 2 ["rows","held","column","best","at","row"] ["rows","held","column"] (iB K p16):=okN λ_ _ _ _ _ _ _ _ _=>by walk_at "S"
def qY (K:aa):TS:=aG (cE (aNf (tOp yLt (aC 5) (aC 6)) (aFF (tOp (gB K) (aC 5) (aC 6)) (tOp yLt (tOp (aL K) (aC 1) (aC 3)) (tOp (aL K) (aC 1) (aC 4)))))) aF
def oJ (K:aa):TS:=aG (aQ (tOp bQ (tOp (aL K) (tOp (aL K) (aC 0) (aC 4)) (tUn wZ (tC (.int 1)))) (tOp (aL K) (tOp (aL K) (aC 0) (aC 3)) (aC 2))) (aE 6)) (qY K)
def lM (K:aa):TS:=aG (aQ (tOp bQ (tOp (aL K) (tOp (aL K) (aC 0) (aC 3)) (tUn wZ (tC (.int 1)))) (tOp (aL K) (tOp (aL K) (aC 0) (aC 4)) (aC 2))) (aE 5)) (oJ K)
def uH:OkN P w K mg base "is_tighter" (top 26) 1 ["rows","held","column","at","other","one_room","other_room"] ["rows","held","column","at","other"] (lM K):=okN λ_ _ _ _ _ _ _ _ _=>by walk_at "S"
def aDN (K:aa):TS:=aG (aQ (bI [none,none,some 4,some 2,some 6,some 3] (aKt K (aB (tOp (aL K) (aC 0) (aC 5)) (aB (aC 4) aH))) (gE K 2 (aR (aE 0) (aR (aE 1) gX))) [] λacc=>(bF (tOp kG (tOp jY (tOp bQ (aC 0) (tOp (aL K) (aC 2) (aC 3))) (tOp bQ (aC 4) (aC 1))) (aC 5)) acc)) (jZ (aC 0) (aC 5) cL)) aF
def aFq (K:aa):TS:=aG (gQ (eZ (aB (tCB (eP K) (aB (aC 0) aH)) aH)) (aE 5) (aG (cV (aP (tOp (zH K) (aC 5) (aC 1))) (aG (aQ (tOp (aL K) (tOp (aL K) (aC 0) (aC 5)) (aC 2)) (aE 6)) (aDN K)) aF) aF)) aF
def aHW (K:aa):TS:=aG (aQ (tOp (aL K) (aC 0) (aC 1)) (aE 4)) (aFq K)
def aIY:OkN P w K mg base "turn" (top 27) 1 ["rows","at","column","bottom","pivot","other","factor"] ["rows","at","column","bottom"] (aHW K):=okN λ_ _ _ _ _ _ _ nd hr=>(aY (pH (i:=4) nd rfl (.inr rfl) (qE (fW (K:=K) rfl) (pv 0) (pv 1) (λ_ _=>rfl))) (aY (aBd pg rfl (qU rfl B.range (gO (bE (fV (K:=K) rfl) rfl B.len wJ (bJ (pv 0) bO)) bO)) (bU (i:=5) nd rfl (Or.inl rfl)) (aY (aGQ (kQ (aFn (K:=K) rfl hr) (pv 5) (pv 1) (aAZ _)) (aY (pH (i:=6) nd rfl (.inr rfl) (qE (fW (K:=K) rfl) (qE (fW (K:=K) rfl) (pv 0) (pv 5) (λ_ _=>rfl)) (pv 2) (λ_ _=>rfl))) (aY (aEM (kE (N':=["part","own","pivot","column","factor","bottom"]) (ix:=[none,none,some 4,some 2,some 6,some 3]) rfl rfl rfl (aEQ (K:=K) rfl rfl B.zip (jQ (qE (fW (K:=K) rfl) (pv 0) (pv 5) (λ_ _=>rfl)) (bJ (pv 4) bO))) (λ_ _ _=>(kT (K:=K) rfl rfl (cA (bU (i:=0) (show(["part","own","pivot","column","factor","bottom"]:List Str).Nodup from by decide+kernel) rfl (Or.inl rfl)) (cA (bU (i:=1) (show(["part","own","pivot","column","factor","bottom"]:List Str).Nodup from by decide+kernel) rfl (Or.inl rfl)) kF)))) (λ_ _ _ => .nil) (λ_ _ _ _=>(kH rfl (uJ aAT (uJ aBm (uJ uV (pv 0) (qE (fW (K:=K) rfl) (pv 2) (pv 3) (λ_ _=>rfl))) (uJ uV (pv 4) (pv 1))) (pv 5)) rfl))) (aIb (pv 0) (pv 5) aBS)) cK)) cK) cK)) cK))
def rX (K:aa)(p2:Sp):TS:=aG (iZ (tBM K "list" eA (aC 4) (aB (fF (aB (aC 7) (aB (aO p2 [] E0 (aB (tOp bQ (aC 8) (tOp (aL K) (aC 5) (tUn wZ (tC (.int 1))))) (aB (aC 3) aH))) aH))) aH))) aF
def sJ (K:aa)(p2:Sp):TS:=aG (gQ (aKt K (aB (aC 1) (aB (aC 2) aH))) (gE K 2 (aR (aE 5) (aR (aE 6) gX))) (aG (cV (aIr (aP (tOp yLt (aC 6) (tCB (eP K) (aB (aC 0) aH)))) (aP (tOp (zH K) (tOp (aL K) (aC 5) (tUn wZ (tC (.int 1)))) (tC (.int 0))))) (aG (aQ (tOp (aL K) (aC 0) (aC 6)) (gE K 2 (aR (aE 7) (aR (aE 8) gX)))) (rX K p2)) aF) aF)) (aG (cE (tCB (vT K) (aB (aC 4) aH))) aF)
def oE (K:aa)(p2:Sp):TS:=aG (aQ (tX aH) (aE 4)) (sJ K p2)
def xM:OkN P w K mg base "told_cuts" (top 28) 3 ["steps","rows","held","bottom","cuts","row","column","some","sign"] ["steps","rows","held","bottom"] (oE K p2):=okN λ_ _ _ _ _ _ _ _ _=>by walk_at "S"
def lW (K:aa)(E:XK)(p17 p18:Sp):TS:=aG (cE (tCB (gH K) (aB (bI [none,some 3] (eZ (aB (tCB (eP K) (aB (aC 0) aH)) aH)) (aE 0) [] λacc=>(bF (aO p17 [] E0 (aB (bI [none,none,some 0] (eD K (aC 1)) (gE K 2 (aR (aE 0) (aR (aE 1) gX))) [(aP (tOp (rIn K false) (aC 2) (aC 0)))] λacc=>(bF (aC 1) acc)) aH)) acc)) aH))) aF
def iW (K:aa)(E:XK)(p17 p18:Sp):TS:=aG (aQ (aO p18 [] E (aB (aC 0) aH)) (gE K 3 (aR (aE 1) (aR (aE 2) (aR (aE 3) gX))))) (lW K E p17 p18)
def sL:OkX P w K mg base "best_prices" (top 29) 5 ["table","worth","found","cuts"] ["table"] (λE=>iW K E p17 p18):=okX λ_ _ _ _ _ _ E nd hr=>(aY (aEM (aDX (y1.mono (by decide)) hr rfl tL (bJ (pv 0) bO)) (kT (K:=K) rfl rfl (cA (bU (i:=1) nd rfl (Or.inl rfl)) (cA (bU (i:=2) nd rfl (Or.inl rfl)) (cA (bU (i:=3) nd rfl (Or.inr rfl)) kF))))) (aY (PS.nox (aBa (eI (iC (K:=K) rfl) rfl B.tuple nX (dE (kE (N':=["place","cuts"]) (ix:=[none,some 3]) rfl rfl rfl (qU rfl B.range (gO (bE (fV (K:=K) rfl) rfl B.len wJ (bJ (pv 0) bO)) bO)) (λ_ _ _=>(bU (i:=0) (show(["place","cuts"]:List Str).Nodup from by decide+kernel) rfl (Or.inr rfl))) (λ_ _ _ => .nil) (λ_ _ _ _=>(kH rfl (aHT (d16.mono (by decide)) hr rfl (dE (kE (N':=["cut","price","place"]) (ix:=[none,none,some 0]) rfl rfl rfl (uI (K:=K) rfl (pv 1)) (λ_ _ _=>(kT (K:=K) rfl rfl (cA (bU (i:=0) (show(["cut","price","place"]:List Str).Nodup from by decide+kernel) rfl (Or.inl rfl)) (cA (bU (i:=1) (show(["cut","price","place"]:List Str).Nodup from by decide+kernel) rfl (Or.inl rfl)) kF)))) (λ_ _ _=>(.cons (kQ (aIq (K:=K) rfl) (pv 2) (pv 0) rfl) .nil)) (λ_ _ _ _=>(kH rfl (pv 1) rfl))) bO)) rfl))) bO)))) cK))
def qB (K:aa)(c0:Addr)(E:XK)(p4 p19:Sp):TS:=aG (iZ (tBM K "list" eA (aC 1) (aB (fF (aB (tCB lT (aB (aC 5) (aB (aC 6) aH))) (aB (tCB aGY (aB (aC 5) (aB (aC 6) aH))) aH))) aH))) (aG (iZ (tBM K "list" eA (aC 2) (aB (aC 6) aH))) (aG (iZ (tBM K "list" aIz (aC 3) (aB (aC 6) aH))) aF))
def oD (K:aa)(c0:Addr)(E:XK)(p4 p19:Sp):TS:=aG (cE (fF (aB (aO p19 [] E0 (aB (aC 0) (aB (aC 1) aH))) (aB (tCB (tD K) (aB (aC 1) aH)) aH)))) aF
def pB (K:aa)(c0:Addr)(E:XK)(p4 p19:Sp):TS:=aG (oI (aNP K (aC 3)) (aG (aQ (tCB (aDu K) (aB (bI [none,none,some 3,some 0] (eD K (aC 2)) (aE 0) [] λacc=>(gQ (eD K (aC 2)) (aE 1) (eE [] (bF (fF (aB (tOp (aL K) (tOp (aL K) (aC 3) (aC 0)) (aC 1)) (aB (aC 0) (aB (aC 1) aH)))) acc)))) aH)) (gE K 3 (aR (aE 4) (aR (aE 5) (aR (aE 6) gX))))) (qB K c0 E p4 p19))) (oD K c0 E p4 p19)
def qX (K:aa)(c0:Addr)(E:XK)(p4 p19:Sp):TS:=aG (aQ (tCB (aCj K) (aB (tCB aMV (aB (tC (.int 1)) (aB (tCB (eP K) (aB (aC 0) aH)) aH))) aH)) (aE 3)) (pB K c0 E p4 p19)
def oR (K:aa)(c0:Addr)(E:XK)(p4 p19:Sp):TS:=aG (aQ (tX (aB (tC (.int 0)) aH)) (aE 2)) (qX K c0 E p4 p19)
def rE (K:aa)(c0:Addr)(E:XK)(p4 p19:Sp):TS:=aG (aQ (tX aH) (aE 1)) (oR K c0 E p4 p19)
def lL (K:aa)(c0:Addr)(E:XK)(p4 p19:Sp):TS:=aG (cV (xF (tB (aO p4 [] E0 (aB (aC 0) aH)))) (aG (jL c0 E) aF) aF) (rE K c0 E p4 p19)
def uQ:OkX P w K mg base "least_tree" (top 31) 2 ["table","ties","inside","outside","way","one","other"] ["table"] (λE=>lL K c0 E p4 p19):=okX λ_ _ _ _ _ _ _ _ _=>by walk_at "X"
def tI (K:aa):TS:=aG (cE (tCB (aJg K) (aB (bI [none,none,some 0] (eD K (aC 1)) (gE K 2 (aR (aE 0) (aR (aE 1) gX))) [] λacc=>(bF (tOp (aL K) (tOp (aL K) (aC 2) (aC 0)) (aC 1)) acc)) aH))) aF
def aAu:OkN P w K mg base "tree_sum" (top 32) 1 ["table","ties"] ["table","ties"] (tI K):=okN λ_ _ _ _ _ _ _ _ _=>by walk_at "S"
def aEj (K:aa)(c0 c1:Addr)(E:XK)(p1 p20 p4 p2 p3 p21:Sp):TS:=aG (aQ (tOp (bC K) (tOp (bC K) (aC 5) (tCB (aJg K) (aB (bI [none,none] (eD K (aC 7)) (gE K 2 (aR (aE 0) (aR (aE 1) gX))) [] λacc=>(bF (aC 0) acc)) aH))) (tOp bQ (tC (.int 2)) (tCB (aJg K) (aB (aC 3) aH)))) (aE 9)) (aG (cE (fF (aB (aO p2 [] E0 (aB (aC 9) (aB (aC 2) aH))) (aB (tCB (tD K) (aB (aC 8) aH)) aH)))) aF)
def aDb (K:aa)(c0 c1:Addr)(E:XK)(p1 p20 p4 p2 p3 p21:Sp):TS:=aG (aQ (tOp (bC K) (bI [none,none] (eD K (aC 7)) (gE K 2 (aR (aE 0) (aR (aE 1) gX))) [] λacc=>(bF (fF (aB (tC (.int 0)) (aB (aC 1) aH))) acc)) (bI [none,none] (eD K (aC 6)) (gE K 2 (aR (aE 0) (aR (aE 1) gX))) [] λacc=>(bF (fF (aB (tOp (bC K) (aC 0) (tC (.int 1))) (aB (tOp (bC K) (aC 1) (tC (.int 1))) aH))) acc))) (aE 8)) (aEj K c0 c1 E p1 p20 p4 p2 p3 p21)
def aDm (K:aa)(c0 c1:Addr)(E:XK)(p1 p20 p4 p2 p3 p21:Sp):TS:=aG (aQ (tSl (aCO K) (tCB (tD K) (aB (bI [none,some 4] (aCw (aB (tC (.int 1)) (aB (tCB (eP K) (aB (aC 0) aH)) aH))) (aE 0) [] λacc=>(bF (fF (aB (tOp (aL K) (tOp (aL K) (aC 1) (tC (.int 0))) (aC 0)) (aB (aC 0) aH))) acc)) aH)) eX (kA (tC (.int 2)))) (aE 7)) (aDb K c0 c1 E p1 p20 p4 p2 p3 p21)
def aCW (K:aa)(c0 c1:Addr)(E:XK)(p1 p20 p4 p2 p3 p21:Sp):TS:=aG (aQ (aO p21 [] E (aB (tCB (gH K) (aB (bI [none] (eD K (tSl (aCO K) (aC 4) (kA (tC (.int 1))) eX)) (aE 0) [] λacc=>(bF (tSl (aCO K) (aC 0) (kA (tC (.int 1))) eX) acc)) aH)) aH)) (gE K 2 (aR (aE 5) (aR (aE 6) gX)))) (aDm K c0 c1 E p1 p20 p4 p2 p3 p21)
def aDc (K:aa)(c0 c1:Addr)(E:XK)(p1 p20 p4 p2 p3 p21:Sp):TS:=aG (aQ (aO p20 [] E0 (aB (aC 0) (aB (aC 3) (aB (aC 2) aH)))) (aE 4)) (aCW K c0 c1 E p1 p20 p4 p2 p3 p21)
def aDg (K:aa)(c0 c1:Addr)(E:XK)(p1 p20 p4 p2 p3 p21:Sp):TS:=aG (aQ (aO p3 [] E0 (aB (aC 1) (aB (aC 2) aH))) (aE 3)) (aDc K c0 c1 E p1 p20 p4 p2 p3 p21)
def aDO (K:aa)(c0 c1:Addr)(E:XK)(p1 p20 p4 p2 p3 p21:Sp):TS:=aG (aQ (aO p1 [] E0 (aB (aC 1) aH)) (aE 2)) (aDg K c0 c1 E p1 p20 p4 p2 p3 p21)
def aCU (K:aa)(c0 c1:Addr)(E:XK)(p1 p20 p4 p2 p3 p21:Sp):TS:=aG (cV (aP (tOp yLt (tCB (eP K) (aB (aC 0) aH)) (tC (.int 3)))) (aG (jL c1 E) aF) aF) (aDO K c0 c1 E p1 p20 p4 p2 p3 p21)
def aIx (K:aa)(c0 c1:Addr)(E:XK)(p1 p20 p4 p2 p3 p21:Sp):TS:=aG (cV (xF (tB (aO p4 [] E0 (aB (aC 0) aH)))) (aG (jL c0 E) aF) aF) (aCU K c0 c1 E p1 p20 p4 p2 p3 p21)
def aJv:OkX P w K mg base "hung" (top 34) 3 ["table","prices","bottom","tops","counts","count","ties","at_home","all_ties","whole"] ["table","prices"] (λE=>aIx K c0 c1 E p1 p20 p4 p2 p3 p21):=okX λ_ _ _ _ _ _ _ _ _=>by walk_at "X"
def xW (K:aa):TS:=aG (cE (bI [none,none,some 2,some 1] (zS K (aB (aC 0) aH)) (gE K 2 (aR (aE 0) (aR (aE 1) gX))) [] λacc=>(bF (tCB (gH K) (aB (bI [none,none,some 0,some 2,some 3] (zS K (aB (aC 1) aH)) (gE K 2 (aR (aE 0) (aR (aE 1) gX))) [] λacc=>(bF (tIf (aP (tOp (zH K) (aC 2) (aC 0))) (tOp jY (tOp jY (tOp bQ (aC 1) (aC 3)) (tOp (aL K) (aC 4) (aC 2))) (tOp (aL K) (aC 4) (aC 0))) (tC (.int 0))) acc)) aH)) acc))) aF
def aCt:OkN P w K mg base "counted" (top 35) 1 ["table","tops","bottom"] ["table","tops","bottom"] (xW K):=okN λ_ _ _ _ _ _ _ nd hr=>(aY (aBa (kE (N':=["i","row","bottom","tops"]) (ix:=[none,none,some 2,some 1]) rfl rfl rfl (uE (K:=K) rfl rfl B.enumerate (bJ (pv 0) bO)) (λ_ _ _=>(kT (K:=K) rfl rfl (cA (bU (i:=0) (show(["i","row","bottom","tops"]:List Str).Nodup from by decide+kernel) rfl (Or.inr rfl)) (cA (bU (i:=1) (show(["i","row","bottom","tops"]:List Str).Nodup from by decide+kernel) rfl (Or.inl rfl)) kF)))) (λ_ _ _ => .nil) (λ_ _ _ _=>(kH rfl (eI (iC (K:=K) rfl) rfl B.tuple nX (dE (kE (N':=["j","way","i","bottom","tops"]) (ix:=[none,none,some 0,some 2,some 3]) rfl rfl rfl (uE (K:=K) rfl rfl B.enumerate (bJ (pv 1) bO)) (λ_ _ _=>(kT (K:=K) rfl rfl (cA (bU (i:=0) (show(["j","way","i","bottom","tops"]:List Str).Nodup from by decide+kernel) rfl (Or.inl rfl)) (cA (bU (i:=1) (show(["j","way","i","bottom","tops"]:List Str).Nodup from by decide+kernel) rfl (Or.inl rfl)) kF)))) (λ_ _ _ => .nil) (λ_ _ _ _=>(kH rfl (aAR (kQ (aFn (K:=K) rfl hr) (pv 2) (pv 0) (aAZ _)) (uJ aBm (uJ aBm (uJ uV (pv 1) (pv 3)) (qE (fW (K:=K) rfl) (pv 4) (pv 2) (λ_ _=>rfl))) (qE (fW (K:=K) rfl) (pv 4) (pv 0) (λ_ _=>rfl))) tE) rfl))) bO)) rfl)))) cK)
def mY (K:aa):TS:=aG (aQ (tOp zD (tOp (bC K) (tOp (bC K) (tOp bQ (aC 3) (aC 3)) (tOp bQ (aC 2) (tC (.int 31)))) (tC (.int 5))) (tC (.int 2147483563))) (aE 4)) (aG (cE (tOp (bC K) (tOp bQ (tOp (bC K) (tOp bQ (aC 2) (tC (.int 2147483659))) (aC 3)) (tC (.int 2147483693))) (aC 4))) aF)
def mE (K:aa):TS:=aG (aQ (tOp zD (tOp (bC K) (tOp (bC K) (tOp bQ (aC 2) (aC 2)) (tOp bQ (aC 1) (tC (.int 7919)))) (tOp zD (aC 0) (tC (.int 65537)))) (tC (.int 2147483587))) (aE 3)) (mY K)
def jK (K:aa):TS:=aG (aQ (tOp zD (tOp (bC K) (tOp (bC K) (tOp bQ (tOp zD (aC 0) (tC (.int 1000000007))) (tC (.int 69069))) (tOp bQ (aC 1) (tC (.int 40503)))) (tC (.int 977))) (tC (.int 2147483629))) (aE 2)) (mE K)
def rT:OkN P w K mg base "_law_cmixed" (top 37) 1 ["cell","at","one","two","three"] ["cell","at"] (jK K):=okN λ_ _ _ _ _ _ _ _ _=>by walk_at "S"
def lD (K:aa):TS:=aG (cE (tX (aB (tCB (aCj K) (aB (tSl (aCO K) (aC 0) eX (kA (tC (.int 40)))) aH)) (aB (tC (.int 0)) (aB (tC (.int 0)) aH))))) aF
def tZ:OkN P w K mg base "_law_copen" (top 38) 1 ["script"] ["script"] (lD K):=okN λ_ _ _ _ _ _ _ _ _=>by walk_at "S"
def pI (K:aa)(p22:Sp):TS:=aG (cV (tOr (aP (tOp yLt (aC 3) (tOp aFR (tC (.int 10)) (tC (.int 18))))) (aP (tOp yGe (aC 2) (tCB (eP K) (aB (tOp (aL K) (aC 0) (tC (.int 0))) aH))))) (aG (aQ (aO p22 [] E0 (aB (aC 3) (aB (aC 2) aH))) (jZ (aC 0) (tC (.int 2)) cL)) aF) aF) aF
def oF (K:aa)(p22:Sp):TS:=aG (aQ (aC 3) (jZ (aC 0) (tC (.int 2)) cL)) (pI K p22)
def pU (K:aa)(p22:Sp):TS:=aG (aQ (tOp (bC K) (aC 2) (tC (.int 1))) (jZ (aC 0) (tC (.int 1)) cL)) (oF K p22)
def oY (K:aa)(p22:Sp):TS:=aG (aQ (tOp (aL K) (tOp (aL K) (aC 0) (tC (.int 0))) (tOp zD (aC 2) (tCB (eP K) (aB (tOp (aL K) (aC 0) (tC (.int 0))) aH)))) (aE 3)) (pU K p22)
def qS (K:aa)(p22:Sp):TS:=aG (aQ (tOp zD (tOp (aL K) (aC 0) (tC (.int 2))) (aC 1)) (aE 4)) (aG (aQ (tOp kG (tOp (aL K) (aC 0) (tC (.int 2))) (aC 1)) (jZ (aC 0) (tC (.int 2)) cL)) (aG (cE (aC 4)) aF))
def lI (K:aa)(p22:Sp):TS:=aG (cV (aIr (aP (tOp yLt (tOp (aL K) (aC 0) (tC (.int 2))) (aC 1))) (aP (tOp yGt (tCB (eP K) (aB (tOp (aL K) (aC 0) (tC (.int 0))) aH)) (tC (.int 0))))) (aG (aQ (tOp (aL K) (aC 0) (tC (.int 1))) (aE 2)) (oY K p22)) aF) (qS K p22)
def vV:OkN P w K mg base "_law_cdraw" (top 39) 2 ["feed","many","at","cell","found"] ["feed","many"] (lI K p22):=okN λ_ _ _ _ _ _ _ _ _=>by walk_at "S"
def jH (K:aa):TS:=aG (cE (aFF (tCB (aFD K) (aB (aC 0) (aB (tC (.ty "int")) aH))) (aII (tCB (aFD K) (aB (aC 0) (aB (tC (.ty "bool")) aH)))))) aF
def rY:OkN P w K mg base "_law_cwhole" (top 40) 1 ["thing"] ["thing"] (jH K):=okN λ_ _ _ _ _ _ _ _ _=>by walk_at "S"
def mU (K:aa):TS:=aG (gQ (eZ (aB (aC 0) aH)) (aE 2) (aG (aQ (tOp (bC K) (aC 1) (bI [none,some 2] (aCw (aB (tOp (bC K) (aC 2) (tC (.int 1))) (aB (aC 0) aH))) (aE 0) [] λacc=>(bF (fF (aB (aC 1) (aB (aC 0) aH))) acc))) (aE 1)) aF)) (aG (cE (aC 1)) aF)
def jT (K:aa):TS:=aG (aQ (tX aH) (aE 1)) (mU K)
def sI:OkN P w K mg base "_law_cpairs" (top 41) 1 ["many","found","i"] ["many"] (jT K):=okN λ_ _ _ _ _ _ _ _ _=>by walk_at "S"
def mS (K:aa):TS:=aG (aQ (tCB lT (aB (tOp (aL K) (tOp (aL K) (aC 1) (aC 3)) (aC 4)) (aB (aC 5) aH))) (jZ (tOp (aL K) (aC 1) (aC 3)) (aC 4) cL)) aF
def lZ (K:aa):TS:=aG (cE (tCB (gH K) (aB (bI [none] (eD K (aC 1)) (aE 0) [] λacc=>(bF (tCB (gH K) (aB (aC 0) aH)) acc)) aH))) aF
def mP (K:aa):TS:=aG (gQ (eZ (aB (tCB (eP K) (aB (aC 0) aH)) aH)) (aE 2) (aG (gQ (eZ (aB (tCB (eP K) (aB (aC 0) aH)) aH)) (aE 3) (aG (gQ (eZ (aB (tCB (eP K) (aB (aC 0) aH)) aH)) (aE 4) (aG (aQ (tOp (bC K) (tOp (aL K) (tOp (aL K) (aC 1) (aC 3)) (aC 2)) (tOp (aL K) (tOp (aL K) (aC 1) (aC 2)) (aC 4))) (aE 5)) (mS K))) aF)) aF)) (lZ K)
def jA (K:aa):TS:=aG (aQ (bI [none] (eD K (aC 0)) (aE 0) [] λacc=>(bF (tCB (aCj K) (aB (aC 0) aH)) acc)) (aE 1)) (mP K)
def sK:OkN P w K mg base "_law_cshort" (top 42) 1 ["rows","found","k","i","j","step"] ["rows"] (jA K):=okN λ_ _ _ _ _ _ _ _ _=>by walk_at "S"
def qK (K:aa)(p23 p24 p25:Sp):TS:=aG (aQ (tCB lT (aB (aC 10) (aB (tOp aFR (tC (.int 10)) (tC (.int 6))) aH))) (jZ (tOp (aL K) (aC 6) (aC 8)) (aC 9) cL)) (aG (aQ (tOp (aL K) (tOp (aL K) (aC 6) (aC 8)) (aC 9)) (jZ (tOp (aL K) (aC 6) (aC 9)) (aC 8) cL)) aF)
def oX (K:aa)(p23 p24 p25:Sp):TS:=aG (cV (aP (tOp (gB K) (aC 4) (tC (.int 4)))) (aG (aQ (tOp jY (aC 5) (tC (.int 1))) (aE 10)) aF) aF) (qK K p23 p24 p25)
def oU (K:aa)(p23 p24 p25:Sp):TS:=aG (cV (aP (tOp (gB K) (aC 4) (tC (.int 3)))) (aG (aQ (tOp (bC K) (aC 10) (tCB aAd (aB (tOp jY (tOp (aL K) (tOp (aL K) (aC 7) (aC 8)) (tC (.int 1))) (tOp (aL K) (tOp (aL K) (aC 7) (aC 9)) (tC (.int 1)))) aH))) (aE 10)) aF) aF) (oX K p23 p24 p25)
def rF (K:aa)(p23 p24 p25:Sp):TS:=aG (cV (tOr (aP (tOp (gB K) (aC 4) (tC (.int 2)))) (aP (tOp (gB K) (aC 4) (tC (.int 3))))) (aG (aQ (tCB aAd (aB (tOp jY (tOp (aL K) (tOp (aL K) (aC 7) (aC 8)) (tC (.int 0))) (tOp (aL K) (tOp (aL K) (aC 7) (aC 9)) (tC (.int 0)))) aH)) (aE 10)) aF) aF) (oU K p23 p24 p25)
def pJ (K:aa)(p23 p24 p25:Sp):TS:=aG (cV (aP (tOp (gB K) (aC 4) (tC (.int 1)))) (aG (aQ (tOp bQ (tOp zD (aC 10) (tC (.int 2))) (tOp jY (aC 5) (tC (.int 1)))) (aE 10)) aF) aF) (rF K p23 p24 p25)
def oH (K:aa)(p23 p24 p25:Sp):TS:=aG (cE (tCB (gH K) (aB (bI [none] (eD K (aC 6)) (aE 0) [] λacc=>(bF (tCB (gH K) (aB (aC 0) aH)) acc)) aH))) aF
def pG (K:aa)(p23 p24 p25:Sp):TS:=aG (cV (aP (tOp yGt (aC 4) (tC (.int 5)))) (aG (cE (aO p25 [] E0 (aB (aC 6) aH))) aF) aF) (oH K p23 p24 p25)
def qO (K:aa)(p23 p24 p25:Sp):TS:=aG (gQ (eD K (aO p24 [] E0 (aB (aC 3) aH))) (gE K 2 (aR (aE 8) (aR (aE 9) gX))) (aG (aQ (aO p23 [] E0 (aB (aC 0) (aB (aC 5) aH))) (aE 10)) (pJ K p23 p24 p25))) (pG K p23 p24 p25)
def oM (K:aa)(p23 p24 p25:Sp):TS:=aG (aQ (bI [none,some 0,some 5] (eZ (aB (aC 3) aH)) (aE 0) [] λacc=>(bF (fF (aB (aO p23 [] E0 (aB (aC 1) (aB (aC 2) aH))) (aB (aO p23 [] E0 (aB (aC 1) (aB (aC 2) aH))) aH))) acc)) (aE 7)) (qO K p23 p24 p25)
def qI (K:aa)(p23 p24 p25:Sp):TS:=aG (aQ (bI [none,some 3] (eZ (aB (aC 3) aH)) (aE 0) [] λacc=>(bF (tOp bQ (tX (aB (tC (.int 0)) aH)) (aC 1)) acc)) (aE 6)) (oM K p23 p24 p25)
def mK (K:aa)(p23 p24 p25:Sp):TS:=aG (aQ (tOp (aL K) (tX (aB (tC (.int 2)) (aB (tC (.int 5)) (aB (tC (.int 30)) (aB (tC (.int 1000001)) aH))))) (aO p23 [] E0 (aB (aC 0) (aB (tC (.int 4)) aH)))) (aE 5)) (qI K p23 p24 p25)
def lX (K:aa)(p23 p24 p25:Sp):TS:=aG (aQ (aO p23 [] E0 (aB (aC 0) (aB (tC (.int 8)) aH))) (aE 4)) (mK K p23 p24 p25)
def lG (K:aa)(p23 p24 p25:Sp):TS:=aG (aQ (tOp (bC K) (aC 1) (aO p23 [] E0 (aB (aC 0) (aB (tOp (bC K) (tOp jY (aC 2) (aC 1)) (tC (.int 1))) aH)))) (aE 3)) (lX K p23 p24 p25)
def vR:OkN P w K mg base "_law_ceven" (top 43) 3 ["feed","least","most","many","way","top","rows","spots","i","j","found"] ["feed","least","most"] (lG K p23 p24 p25):=okN λ_ _ _ _ _ _ _ _ _=>by walk_at "S"
def rZ (K:aa):TS:=aG (oI (aP (tOp yGt (aC 3) (tC (.int 0)))) (aG (aMX 2 3 (aB (aC 3) (aB (tOp zD (aC 2) (aC 3)) aH))) aF)) (aG (cE (fF (aB (tOp kG (aC 0) (aC 2)) (aB (tOp kG (aC 1) (aC 2)) aH)))) aF)
def pC (K:aa):TS:=aG (aMX 2 3 (aB (tCB aAd (aB (aC 0) aH)) (aB (aC 1) aH))) (rZ K)
def yJ:OkN P w K mg base "_law_clow" (top 44) 1 ["top","bottom","one","other"] ["top","bottom"] (pC K):=okN λ_ _ _ _ _ _ _ _ _=>by walk_at "S"
def pO (K:aa)(p26:Sp):TS:=aG (gQ (eD K (aC 0)) (aE 3) (aG (aQ (aO p26 [] E0 (aB (tOp (bC K) (tOp bQ (aC 1) (tOp (aL K) (aC 3) (tC (.int 1)))) (tOp bQ (tOp (aL K) (aC 3) (tC (.int 0))) (aC 2))) (aB (tOp bQ (aC 2) (tOp (aL K) (aC 3) (tC (.int 1)))) aH))) (gE K 2 (aR (aE 1) (aR (aE 2) gX)))) aF)) (aG (cE (fF (aB (aC 1) (aB (aC 2) aH)))) aF)
def lK (K:aa)(p26:Sp):TS:=aG (aQ (fF (aB (tC (.int 0)) (aB (tC (.int 1)) aH))) (gE K 2 (aR (aE 1) (aR (aE 2) gX)))) (pO K p26)
def uK:OkN P w K mg base "_law_cplus" (top 45) 2 ["some","top","bottom","one"] ["some"] (lK K p26):=okN λ_ _ _ _ _ _ _ _ _=>by walk_at "S"
def fM (K:aa)(p26 p27:Sp):TS:=aG (cE (tOp (gB K) (aO p26 [] E0 (aB (tOp (aL K) (aC 0) (tC (.int 0))) (aB (tOp (aL K) (aC 0) (tC (.int 1))) aH))) (aC 0))) aF
def fL (K:aa)(p26 p27:Sp):TS:=aG (cV (tOr (xF (tB (aO p27 [] E0 (aB (tOp (aL K) (aC 0) (tC (.int 0))) aH)))) (tOr (xF (tB (aO p27 [] E0 (aB (tOp (aL K) (aC 0) (tC (.int 1))) aH)))) (aP (tOp yLt (tOp (aL K) (aC 0) (tC (.int 1))) (tC (.int 1)))))) (aG (cE (tC (.bl false))) aF) aF) (fM K p26 p27)
def dI (K:aa)(p26 p27:Sp):TS:=aG (cV (tOr (xF (tB (tCB (aFD K) (aB (aC 0) (aB (tC (.ty "tuple")) aH))))) (aP (tOp (zH K) (tCB (eP K) (aB (aC 0) aH)) (tC (.int 2))))) (aG (cE (tC (.bl false))) aF) aF) (fL K p26 p27)
def gY:OkN P w K mg base "_law_cis_fraction" (top 46) 2 ["thing"] ["thing"] (dI K p26 p27):=okN λ_ _ _ _ _ _ _ _ _=>by walk_at "S"
def kZ (K:aa)(p27:Sp):TS:=aG (cV (tOr (xF (tB (aO p27 [] E0 (aB (tOp (aL K) (aC 1) (tC (.int 0))) aH)))) (xF (tB (aO p27 [] E0 (aB (tOp (aL K) (aC 1) (tC (.int 1))) aH))))) (aG (cE (tC (.bl false))) aF) aF) (aG (cE (aAp yLe yLt yLt (tC (.int 0)) (tOp (aL K) (aC 1) (tC (.int 0))) (tOp (aL K) (aC 1) (tC (.int 1))) (aC 0))) aF)
def hJ (K:aa)(p27:Sp):TS:=aG (cV (tOr (xF (tB (tCB (aFD K) (aB (aC 1) (aB (tC (.ty "tuple")) aH))))) (aP (tOp (zH K) (tCB (eP K) (aB (aC 1) aH)) (tC (.int 2))))) (aG (cE (tC (.bl false))) aF) aF) (kZ K p27)
def qZ:OkN P w K mg base "_law_cis_tie" (top 47) 2 ["many","thing"] ["many","thing"] (hJ K p27):=okN λ_ _ _ _ _ _ _ _ _=>by walk_at "S"
def iE (K:aa):TS:=aG (aQ (tOp (bC K) (aC 3) (tOp (aL K) (tCB (aDu K) (aB (aC 4) aH)) (tC (.int 0)))) (aE 3)) (aG (iZ (tBM K "list" eA (aC 2) (aB (tOp (aL K) (tCB (aDu K) (aB (aC 4) aH)) (tC (.int 1))) aH))) aF)
def iO (K:aa):TS:=aG (gQ (eD K (aC 2)) (aE 5) (aG (gQ (eD K (aC 0)) (aE 6) (aG (cV (aP (tOp (rIn K true) (aC 6) (aC 2))) (aG (iZ (tBM K "list" eA (aC 4) (aB (fF (aB (aFL (aC 1) (fF (aB (tCB lT (aB (aC 5) (aB (aC 6) aH))) (aB (tCB aGY (aB (aC 5) (aB (aC 6) aH))) aH)))) (aB (aC 6) aH))) aH))) aF) aF) aF)) aF)) (iE K)
def iI (K:aa):TS:=aG (oI (aP (tOp yLt (tCB (eP K) (aB (aC 2) aH)) (tCB (eP K) (aB (aC 0) aH)))) (aG (aQ (tX aH) (aE 4)) (iO K))) (aG (cE (aC 3)) aF)
def iH (K:aa):TS:=aG (aQ (tC (.int 0)) (aE 3)) (iI K)
def fJ (K:aa):TS:=aG (aQ (tX (aB (tOp (aL K) (aC 0) (tC (.int 0))) aH)) (aE 2)) (iH K)
def kJ:OkN P w K mg base "_law_ctree_sum" (top 48) 1 ["places","counts","inside","found","some","one","two"] ["places","counts"] (fJ K):=okN λ_ _ _ _ _ _ _ nd hr=>(aY (pH (i:=2) nd rfl (.inl rfl) (aFt (jQ (qE (fW (K:=K) rfl) (pv 0) tE (λ_ _=>rfl)) bO))) (aY (pH (i:=3) nd rfl (.inl rfl) tE) (aY (aBB pg (kQ aKN (bE (fV (K:=K) rfl) rfl B.len wJ (bJ (pv 2) bO)) (bE (fV (K:=K) rfl) rfl B.len wJ (bJ (pv 0) bO)) (aAZ _)) (aY (pH (i:=4) nd rfl (.inl rfl) (aFt bO)) (aY (aBd pg rfl (uI (K:=K) rfl (pv 2)) (bU (i:=5) nd rfl (Or.inl rfl)) (aY (aBd pg rfl (uI (K:=K) rfl (pv 0)) (bU (i:=6) nd rfl (Or.inl rfl)) (aY (aGQ (kQ (xZ (K:=K) rfl) (pv 6) (pv 2) rfl) (aY (aAI (aBE (K:=K) rfl ni q9 rf iU (pv 4) (aBC (aDt (jQ (aFe (aJQ hr) (pv 1) (aDt (gO (bE (sZ rfl) rfl B.min xV (bJ (pv 5) (bJ (pv 6) bO))) (gO (bE (tO rfl) rfl B.max aHV (bJ (pv 5) (bJ (pv 6) bO))) bO))) (λ_ _=>rfl)) (bJ (pv 6) bO))) bO))) cK) cK) cK)) cK)) (aY (pH (i:=3) nd rfl (.inl rfl) (uJ (aEf (K:=K) rfl) (pv 3) (qE (fW (K:=K) rfl) (bE (kD (K:=K) rfl hr rfl) rfl B.min xV (bJ (pv 4) bO)) tE (λ_ _=>rfl)))) (aY (aAI (aBE (K:=K) rfl ni q9 rf iU (pv 2) (jQ (qE (fW (K:=K) rfl) (bE (kD (K:=K) rfl hr rfl) rfl B.min xV (bJ (pv 4) bO)) tE (λ_ _=>rfl)) bO))) cK))))) (aY (aBa (pv 3)) cK))))
def mJ (K:aa)(p26 p24 p28:Sp):TS:=aG (cE (aO p26 [] E0 (aB (tOp (bC K) (aC 9) (tOp bQ (tC (.int 2)) (tCB (aJg K) (aB (aC 4) aH)))) (aB (aC 2) aH)))) aF
def lU (K:aa)(p26 p24 p28:Sp):TS:=aG (aQ (tOp (bC K) (tOp (bC K) (tOp (aL K) (aC 8) (tC (.int 0))) (tOp (aL K) (aC 8) (tC (.int 1)))) (aO p28 [] E0 (aB (tCB (aCj K) (aB (tCB aMV (aB (tC (.int 1)) (aB (tCB (eP K) (aB (aC 0) aH)) aH))) aH)) (aB (aC 5) aH)))) (aE 9)) (mJ K p26 p24 p28)
def mQ (K:aa)(p26 p24 p28:Sp):TS:=aG (aQ (tCB (tD K) (aB (bI [none,some 5] (aCw (aB (tC (.int 1)) (aB (tCB (eP K) (aB (aC 0) aH)) aH))) (aE 0) [] λacc=>(bF (aFL (aC 1) (fF (aB (tC (.int 0)) (aB (aC 0) aH)))) acc)) aH)) (aE 8)) (lU K p26 p24 p28)
def lY (K:aa)(p26 p24 p28:Sp):TS:=aG (gQ (eD K (aO p24 [] E0 (aB (tCB (eP K) (aB (aC 0) aH)) aH))) (gE K 2 (aR (aE 6) (aR (aE 7) gX))) (aG (aJr (aC 5) (fF (aB (aC 6) (aB (aC 7) aH))) (tOp jY (tOp jY (tOp bQ (tOp (aL K) (tOp (aL K) (aC 0) (aC 6)) (aC 7)) (aC 2)) (tOp (aL K) (aC 4) (aC 6))) (tOp (aL K) (aC 4) (aC 7)))) aF)) (mQ K p26 p24 p28)
def mZ (K:aa)(p26 p24 p28:Sp):TS:=aG (aQ aEy (aE 5)) (lY K p26 p24 p28)
def mH (K:aa)(p26 p24 p28:Sp):TS:=aG (aQ (bI [none,some 2] (eD K (aC 1)) (aE 0) [] λacc=>(bF (tOp kG (tOp bQ (tOp (aL K) (aC 0) (tC (.int 0))) (aC 1)) (tOp (aL K) (aC 0) (tC (.int 1)))) acc)) (aE 4)) (mZ K p26 p24 p28)
def mT (K:aa)(p26 p24 p28:Sp):TS:=aG (gQ (eD K (aC 1)) (aE 3) (aG (aQ (tOp bQ (aC 2) (tOp (aL K) (aO p26 [] E0 (aB (aC 2) (aB (tOp (aL K) (aC 3) (tC (.int 1))) aH))) (tC (.int 1)))) (aE 2)) aF)) (mH K p26 p24 p28)
def jR (K:aa)(p26 p24 p28:Sp):TS:=aG (aQ (tC (.int 1)) (aE 2)) (mT K p26 p24 p28)
def rV:OkN P w K mg base "_law_cbound" (top 49) 2 ["table","prices","by","price","paid","counts","i","j","ones","found"] ["table","prices"] (jR K p26 p24 p28):=okN λ_ _ _ _ _ _ _ _ _=>by walk_at "S"
def pK (K:aa):TS:=aG (cE (bI [none,some 0] (eD K (aC 1)) (aE 0) [(aP (aFf yLt yLt (tC (.int 0)) (tCB (eP K) (aB (aC 0) aH)) (aC 1)))] λacc=>(bF (aC 0) acc))) aF
def rB (K:aa):TS:=aG (gQ (eZ (aB (aC 0) aH)) (aE 2) (aG (aQ (tOp (bC K) (aC 1) (bI [none,some 2] (eD K (aC 1)) (aE 0) [] λacc=>(bF (tOp (bC K) (aC 0) (fF (aB (aC 1) aH))) acc))) (aE 1)) aF)) (pK K)
def lE (K:aa):TS:=aG (aQ (tX (aB (fF aH) aH)) (aE 1)) (rB K)
def vL:OkN P w K mg base "_law_csets" (top 50) 1 ["many","found","place"] ["many"] (lE K):=okN λ_ _ _ _ _ _ _ _ _=>by walk_at "S"
def wL (K:aa):TS:=aG (cE (tOp (zH K) (tOp (rIn K false) (aC 1) (aC 0)) (tOp (rIn K false) (aC 2) (aC 0)))) aF
def vE:OkN P w K mg base "_law_cover" (top 51) 1 ["some","i","j"] ["some","i","j"] (wL K):=okN λ_ _ _ _ _ _ _ _ _=>by walk_at "S"
def fS (K:aa)(p29 p30 p31 p32 p33:Sp):TS:=aG (cV (aP (tOp yLt (tOp (aL K) (tOp (aL K) (aC 4) (tC (.int 2))) (tC (.int 0))) (tC (.int 1)))) (aG (cE (tC (.bl false))) aF) aF) aF
def fZ (K:aa)(p29 p30 p31 p32 p33:Sp):TS:=aG (cV (tOr (xF (tB (aO p30 [] E0 (aB (aC 3) (aB (tSl (aCO K) (aC 4) eX (kA (tC (.int 2)))) aH))))) (xF (tB (aO p29 [] E0 (aB (tOp (aL K) (aC 4) (tC (.int 2))) aH))))) (aG (cE (tC (.bl false))) aF) aF) (fS K p29 p30 p31 p32 p33)
def fR (K:aa)(p29 p30 p31 p32 p33:Sp):TS:=aG (cV (tOr (aP (tOp yLt (tOp (aL K) (aC 7) (tC (.int 0))) (tOp bQ (tC (.int 2)) (tOp (aL K) (aC 7) (tC (.int 1)))))) (aIr (aP (tOp (gB K) (tCB (eP K) (aB (aC 6) aH)) (tC (.int 1)))) (aP (tOp (zH K) (aC 7) (fF (aB (tC (.int 2)) (aB (tC (.int 1)) aH))))))) (aG (cE (tC (.bl false))) aF) aF) aF
def fU (K:aa)(p29 p30 p31 p32 p33:Sp):TS:=aG (gQ (eD K (aC 1)) (gE K 3 (aR (aE 9) (aR (aE 10) (aR (aE 11) gX)))) (aG (iZ (tBM K "list" eA (aC 8) (aB (fF (aB (tOp bQ (tOp (aL K) (aC 11) (tC (.int 0))) (tOp (aL K) (tOp (aL K) (aC 0) (aC 9)) (aC 10))) (aB (tOp (aL K) (aC 11) (tC (.int 1))) aH))) aH))) aF)) (aG (cE (tOp (gB K) (aO p32 [] E0 (aB (aC 8) aH)) (aC 2))) aF)
def fQ (K:aa)(p29 p30 p31 p32 p33:Sp):TS:=aG (aQ (tX aH) (aE 8)) (fU K p29 p30 p31 p32 p33)
def fO (K:aa)(p29 p30 p31 p32 p33:Sp):TS:=aG (gQ (eD K (aO p33 [] E0 (aB (aC 3) aH))) (aE 6) (aG (aQ (aO p31 [] E0 (aB (aC 1) (aB (aC 6) aH))) (aE 7)) (fR K p29 p30 p31 p32 p33))) (fQ K p29 p30 p31 p32 p33)
def fP (K:aa)(p29 p30 p31 p32 p33:Sp):TS:=aG (cV (aP (tOp (zH K) (aC 5) (tCB (aJx K) (aB (aC 5) aH)))) (aG (cE (tC (.bl false))) aF) aF) (fO K p29 p30 p31 p32 p33)
def gJ (K:aa)(p29 p30 p31 p32 p33:Sp):TS:=aG (aQ (bI [none] (eD K (aC 1)) (aE 0) [] λacc=>(bF (tSl (aCO K) (aC 0) eX (kA (tC (.int 2)))) acc)) (aE 5)) (fP K p29 p30 p31 p32 p33)
def gD (K:aa)(p29 p30 p31 p32 p33:Sp):TS:=aG (gQ (eD K (aC 1)) (aE 4) (aG (cV (tOr (xF (tB (tCB (aFD K) (aB (aC 4) (aB (tC (.ty "tuple")) aH))))) (aP (tOp (zH K) (tCB (eP K) (aB (aC 4) aH)) (tC (.int 3))))) (aG (cE (tC (.bl false))) aF) aF) (fZ K p29 p30 p31 p32 p33))) (gJ K p29 p30 p31 p32 p33)
def gA (K:aa)(p29 p30 p31 p32 p33:Sp):TS:=aG (cV (xF (tB (tCB (aFD K) (aB (aC 1) (aB (tC (.ty "list")) aH))))) (aG (cE (tC (.bl false))) aF) aF) (gD K p29 p30 p31 p32 p33)
def dO (K:aa)(p29 p30 p31 p32 p33:Sp):TS:=aG (aQ (tCB (eP K) (aB (aC 0) aH)) (aE 3)) (gA K p29 p30 p31 p32 p33)
def iJ:OkN P w K mg base "_law_care_shares" (top 52) 4 ["table","some","worth","many","thing","pairs","side","over","whole","i","j","part"] ["table","some","worth"] (dO K p29 p30 p31 p32 p33):=okN λ_ _ _ _ _ _ _ _ _=>by walk_at "S"
def iN (K:aa)(p34 p32:Sp):TS:=aG (gQ (eD K (aC 0)) (gE K 3 (aR (aE 3) (aR (aE 4) (aR (aE 5) gX)))) (aG (cV (tB (aO p34 [] E0 (aB (aC 1) (aB (aC 3) (aB (aC 4) aH))))) (aG (iZ (tBM K "list" eA (aC 2) (aB (aC 5) aH))) aF) aF) aF)) (aG (cE (aO p32 [] E0 (aB (aC 2) aH))) aF)
def fE (K:aa)(p34 p32:Sp):TS:=aG (aQ (tX aH) (aE 2)) (iN K p34 p32)
def kI:OkN P w K mg base "_law_cover_sum" (top 53) 3 ["some","side","found","i","j","part"] ["some","side"] (fE K p34 p32):=okN λ_ _ _ _ _ _ _ _ _=>by walk_at "S"
def aFN (K:aa)(p35 p36 p37 p29 p38 p39 p40 p18:Sp):TS:=aG (cV (tOr (aP (tOp (zH K) (aO p36 [] E0 (aB (aC 3) (aB (aC 8) aH))) (aC 4))) (aP (tOp (zH K) (tOp (aL K) (aO p40 [] E0 (aB (aC 3) (aB (aC 8) aH))) (tC (.int 0))) (aC 4)))) (aG (cE (tC (.bl false))) aF) aF) aF
def aHy (K:aa)(p35 p36 p37 p29 p38 p39 p40 p18:Sp):TS:=aG (cV (aP (tOp (rIn K false) (tC (.bl false)) (bI [none] (eD K (aC 8)) (aE 0) [] λacc=>(bF (aO p29 [] E0 (aB (aC 0) aH)) acc)))) (aG (cE (tC (.bl false))) aF) aF) (aFN K p35 p36 p37 p29 p38 p39 p40 p18)
def aFH (K:aa)(p35 p36 p37 p29 p38 p39 p40 p18:Sp):TS:=aG (cV (tOr (xF (tB (tCB (aFD K) (aB (aC 8) (aB (tC (.ty "tuple")) aH))))) (aP (tOp (zH K) (tCB (eP K) (aB (aC 8) aH)) (tCB (eP K) (aB (aC 3) aH))))) (aG (cE (tC (.bl false))) aF) aF) (aHy K p35 p36 p37 p29 p38 p39 p40 p18)
def aHu (K:aa)(p35 p36 p37 p29 p38 p39 p40 p18:Sp):TS:=aG (gQ (eZ (aB (tC (.int 2)) aH)) (aE 7) (aG (aQ (aO p39 [] E0 (aB (aC 3) aH)) (aE 8)) (aFH K p35 p36 p37 p29 p38 p39 p40 p18))) aF
def aFY (K:aa)(p35 p36 p37 p29 p38 p39 p40 p18:Sp):TS:=aG (cV (xF (tB (aO p35 [] E0 (aB (aC 3) (aB (aC 5) (aB (aC 4) aH)))))) (aG (cE (tC (.bl false))) aF) aF) (aHu K p35 p36 p37 p29 p38 p39 p40 p18)
def aHp (K:aa)(p35 p36 p37 p29 p38 p39 p40 p18:Sp):TS:=aG (aQ (aO p18 [] E0 (aB (aC 3) aH)) (gE K 3 (aR (aE 4) (aR (aE 5) (aR (aE 6) gX))))) (aFY K p35 p36 p37 p29 p38 p39 p40 p18)
def aGk (K:aa)(p35 p36 p37 p29 p38 p39 p40 p18:Sp):TS:=aG (gQ (eZ (aB (tC (.int 2)) aH)) (aE 2) (aG (aQ (aO p37 [] E0 (aB (aC 1) (aB (tC (.int 3)) (aB (tC (.int 6)) aH)))) (aE 3)) (aHp K p35 p36 p37 p29 p38 p39 p40 p18))) (aG (cE (tC (.bl true))) aF)
def aMJ (K:aa)(p35 p36 p37 p29 p38 p39 p40 p18:Sp):TS:=aG (aQ (aO p38 [] E0 (aB (aC 0) aH)) (aE 1)) (aGk K p35 p36 p37 p29 p38 p39 p40 p18)
def aLO:OkN P w K mg base "law" (top 54) 6 ["script","feed","turn_v","table","worth","some","cuts","again","prices"] ["script"] (aMJ K p35 p36 p37 p29 p38 p39 p40 p18):=okN λ_ _ _ _ _ _ _ _ _=>by walk_at "S"
end
theorem lH {p: Int->Bool}{a: Int}{L: List Int}(h:a∈L):L.countP p=(L.erase a).countP p+if p a=true then 1 else 0:=by
 have:=(uo h).countP_eq p
 rw[this,uh]
theorem aHB {A B: List Int}(h:A.Perm B):A.sum=B.sum:=by
 induction h with
 |nil=>rfl
 |cons a _ ih=>rw[dz,dz,ih]
 |swap a b l=>rw[dz,dz,dz,dz];lia
 |trans _ _ h1 h2=>rw[h1,h2]
theorem xK {a: Int}{L: List Int}(h:a∈L):L.sum=a+(L.erase a).sum:=by
 have:=aHB (uo h)
 rw[this,dz]
theorem aIt:∀(L:List Int),L≠[]->∃a∈L,∀x∈L,x<=a
 |[a],_=>⟨a,by simp,λx hx=>by rw[cq.mp hx];exact ij _⟩
 |a :: b :: L,_=>by
  obtain⟨m,hm,h⟩:=aIt (b :: L) (by simp)
  by_cases c:a<=m
  ·exact⟨m,ay _ hm,λx hx=>by rcases bq.mp hx with rfl | hx;exact c;exact h x hx⟩
  ·exact⟨a,by simp,λx hx=>by
    rcases bq.mp hx with rfl | hx
    ·exact ij _
    ·have:=h x hx;lia⟩
theorem aMA:∀(n:Nat) (A B:List Int),A.length=n->B.length=n->(∀t:Int,A.countP (λx=>decide (t<x))<=B.countP (λx=>decide (t<x)))->A.sum<=B.sum
 |0,A,B,ha,hb,_=>by
  rw[nr ha,nr hb];exact ij _
 |n+1,A,B,ha,hb,h=>by
  obtain⟨a,hma,ma⟩:=aIt A (by intro e;rw[e] at ha;cases ha)
  have h1:0<A.countP (λx=>decide (a - 1<x)):=AI.mpr ⟨a,hma,decide_eq_true (by lia)⟩
  obtain⟨b,hmb,hb'⟩:=AI.mp (cg h1 (h (a - 1)))
  have hab:a<=b:=by have:=of_decide_eq_true hb';lia
  have:=aMA n (A.erase a) (B.erase b) (by rw[mr hma];lia) (by rw[mr hmb];lia) λt=>by
   by_cases c:t<a
   ·have e:=h t
    rw[lH hma,lH hmb,if_pos (decide_eq_true c),if_pos (decide_eq_true (show t<b by lia))] at e
    lia
   ·have:(A.erase a).countP (λx=>decide (t<x))=0:=AJ.mpr λx hx=>by
     have:=ma x (List.mem_of_mem_erase hx)
     simp
     lia
    lia
  rw[xK hma,xK hmb]
  lia
inductive Gr:List Nat->List (Nat×Nat)->Prop
 |one (r:Nat):Gr [r] []
 |more {vs:List Nat}{es:List (Nat×Nat)}{p c:Nat}:Gr vs es->p∈vs->c∉vs->Gr (vs++[c]) (es++[(p,c)])
def wts (C:Nat->Nat->Int)(es:List (Nat×Nat)):List Int:=es.map λe=>C e.1 e.2
theorem Gr.len (h:Gr vs es):vs.length=es.length+1:=by
 induction h with
 |one r=>rfl
 |more _ _ _ ih=>rw[au,au,ih];rfl
theorem Gr.nd (h:Gr vs es):vs.Nodup:=by
 induction h with
 |one r=>simp
 |more _ _ hc ih=>
  rw[tw]
  exact⟨ih,by simp,λa ha b hb e=>hc (by rw[<- cq.mp hb,<- e];exact ha)⟩
theorem Gr.mem (h:Gr vs es):∀e∈es,e.1∈vs/\e.2∈vs/\e.1≠e.2:=by
 induction h with
 |one r=>intro e he;cases he
 | @more vs' es' p c g hp hc ih=>
  intro e he
  rcases di.mp he with he | he
  ·have:=ih e he
   exact⟨fe _ this.1,fe _ this.2.1,this.2.2⟩
  ·rw[cq.mp he]
   exact⟨fe _ hp,df _ (by simp),λe=>hc (by have e':p=c:=e;rw[<- e'];exact hp)⟩
def uO (C:Nat->Nat->Int)(vs:List Nat)(ws:List Int):Prop:=∀k w,ws[k]?=some w->∀x∈vs.take (k+1),∀y∈vs.drop (k+1),w<=C x y
def cnt (t:Int)(ws:List Int)(j:Nat):Nat:=(ws.take j).countP λx=>decide (t<x)
theorem aHd (t:Int)(ws:List Int)(j:Nat):cnt t ws (j+1)<=cnt t ws j+1:=by
 unfold cnt
 rw[e8,wt]
 have:(ws[j]?.toList).length<=1:=by cases ws[j]? <;> simp
 have:=de (List.countP_le_length (p:=λx=>decide (t<x)) (l:=ws[j]?.toList)) this
 lia
theorem aBF (t:Int)(ws:List Int):∀(j b:Nat),b<=cnt t ws j->∃i,i<=j/\cnt t ws i=b
 |0,b,h=>⟨0,bc _,by
  have:cnt t ws 0=0:=by unfold cnt;simp
  lia⟩
 |j+1,b,h=>by
  by_cases c:b<=cnt t ws j
  ·obtain⟨i,h1,h2⟩:=aBF t ws j b c
   exact⟨i,by lia,h2⟩
  ·have:=aHd t ws j
   exact⟨j+1,bc _,by lia⟩
theorem aIQ (t:Int)(ws:List Int)(b:Nat)(h:b<=ws.countP (λx=>decide (t<x))):∃j,j<=ws.length/\cnt t ws j=b:=aBF t ws ws.length b (by unfold cnt;rw[fc];exact h)
theorem aMm (hij:i<=j)(h:cnt t ws i≠cnt t ws j):∃k w,i<=k/\k<j/\ws[k]?=some w/\t<w:=by
 apply b9
 intro no
 apply h
 unfold cnt
 have e:ws.take j=ws.take i++(ws.take j).drop i:=by
  have:=(pe i (ws.take j)).symm
  rwa[List.take_take,ph hij] at this
 rw[e,wt]
 have:((ws.take j).drop i).countP (λx=>decide (t<x))=0:=AJ.mpr λx hx=>by
  obtain⟨k,hk,rfl⟩:=nc hx
  rw[gp,c9] at hk
  simp only[List.getElem_drop,List.getElem_take]
  intro e1
  exact no ⟨i+k,ws[i+k]'(by lia),by lia,by lia,ah (by lia),of_decide_eq_true e1⟩
 lia
theorem aAK (sym:∀x y,x<m->y<m->C x y=C y x)(g:Gr vs es)(l:uO C vs (wts C es))(pv:vs.Perm (ao m))(g':Gr us fs)(pu:us.Perm (ao m)): (wts C es).sum<=(wts C fs).sum:=by
 have lv:vs.length=m:=by rw[pv.length_eq,br]
 have lu:us.length=m:=by rw[pu.length_eq,br]
 have le:=g.len
 have lf:=g'.len
 refine aMA (m - 1) _ _ (by unfold wts;rw[ae];lia) (by unfold wts;rw[ae];lia) λt=>?_
 let β:Nat->Nat:=λv=>cnt t (wts C es) (vs.idxOf v)
 have apart:∀x y,x<m->y<m->β x≠β y->t<C x y:=λx y hx hy hne=>by
  have ix:vs.idxOf x<vs.length:=vv (pv.mem_iff.mpr (az.mpr hx))
  have iy:vs.idxOf y<vs.length:=vv (pv.mem_iff.mpr (az.mpr hy))
  have key:∀x y,vs.idxOf x<vs.length->vs.idxOf y<vs.length->vs.idxOf x<=vs.idxOf y->β x≠β y->t<C x y:=λx y ix iy hle hne=>by
   obtain⟨k,w,h1,h2,h3,h4⟩:=aMm hle hne
   have:=l k w h3 x (by
    rw[List.mem_take_iff_getElem]
    exact⟨vs.idxOf x,by lia,List.getElem_idxOf ix⟩) y (by
    rw[List.mem_drop_iff_getElem]
    exact⟨vs.idxOf y - (k+1),by lia,by
     have:k+1+(vs.idxOf y - (k+1))=vs.idxOf y:=by lia
     simp only[this]
     exact List.getElem_idxOf iy⟩)
   lia
  rcases Br (vs.idxOf x) (vs.idxOf y) with h | h
  ·exact key x y ix iy h hne
  ·rw[sym x y hx hy]
   exact key y x iy ix h (gy hne)
 let met:List Nat->Nat:=λws=>((ao ((wts C es).countP (λx=>decide (t<x))+1)).filter λb=>ws.any λv=>decide (β v=b)).length
 have grow:∀{ws:List Nat}{hs:List (Nat×Nat)},Gr ws hs->(∀v∈ws,v<m)->met ws<=1+(wts C hs).countP (λx=>decide (t<x)):=by
  intro ws hs g
  induction g with
  |one r=>
   intro _
   have:met [r]<=1:=by
    show((ao _).filter _).length<=1
    have nd:((ao ((wts C es).countP (λx=>decide (t<x))+1)).filter λb=>[r].any λv=>decide (β v=b)).Nodup:=qw.nodup ji
    have sub:∀b∈((ao ((wts C es).countP (λx=>decide (t<x))+1)).filter λb=>[r].any λv=>decide (β v=b)),b=β r:=λb hb=>by
     have:=(fg.mp hb).2
     simp at this
     exact this.symm
    generalize ((ao ((wts C es).countP (λx=>decide (t<x))+1)).filter λb=>[r].any λv=>decide (β v=b))=Z at nd sub
    match Z,nd,sub with
    |[],_,_=>simp
    |[_],_,_=>simp
    |a :: b :: Z,nd,sub=>
     have h1:=sub a (by simp)
     have h2:=sub b (by simp)
     rw[h1,h2] at nd
     simp at nd
   lia
  | @more ws hs p c g hp hc ih=>
   intro hw
   have ih:=ih λv hv=>hw v (fe _ hv)
   have e1:(wts C (hs++[(p,c)])).countP (λx=>decide (t<x))=(wts C hs).countP (λx=>decide (t<x))+if t<C p c then 1 else 0:=by
    unfold wts
    rw[bj,wt,cf,og,uh,List.countP_nil]
    simp
   rw[e1]
   by_cases cb:∃v∈ws,β v=β c
   ·have e2:met (ws++[c])=met ws:=by
     show((ao _).filter _).length=((ao _).filter _).length
     congr 1
     refine List.filter_congr λb _=>?_
     rw[List.any_append]
     cases h:ws.any λv=>decide (β v=b) with
     |true=>rfl
     |false=>
      simp
      intro e
      obtain⟨v,hv,ev⟩:=cb
      rw[List.any_eq_false] at h
      exact h v hv (decide_eq_true (by rw[ev];exact e))
    lia
   ·have hlt:t<C p c:=apart p c (hw p (fe _ hp)) (hw c (df _ (by simp))) λe=>cb ⟨p,hp,e⟩
    rw[if_pos hlt]
    have e3:met (ws++[c])<=met ws+1:=by
     show((ao _).filter _).length<=((ao _).filter _).length+1
     have nd:∀Z:List Nat,Z.Nodup->(Z.filter λb=>(ws++[c]).any λv=>decide (β v=b)).length<=(Z.filter λb=>ws.any λv=>decide (β v=b)).length+if β c∈Z then 1 else 0:=by
      intro Z
      induction Z with
      |nil=>intro _;simp
      |cons z Z ihZ=>
       intro nz
       have nz':=gg.mp nz
       have ih':=ihZ nz'.2
       by_cases cz:β c=z
       ·have hnot:β c∉Z:=by rw[cz];exact nz'.1
        rw[if_neg hnot] at ih'
        rw[if_pos (by rw[cz];simp)]
        rw[uj,uj]
        split <;> split <;> first | lia | (simp only[da];lia)
       ·have e4:((ws++[c]).any λv=>decide (β v=z))=ws.any λv=>decide (β v=z):=by
         rw[List.any_append]
         simp[cz]
        have e5:(β c∈z :: Z)↔β c∈Z:=by
         rw[bq]
         exact⟨λh=>h.resolve_left cz, .inr⟩
        rw[uj,uj,e4]
        simp only[e5]
        split <;> first | lia | (simp only[da];lia)
     have h2:=nd (ao ((wts C es).countP (λx=>decide (t<x))+1)) ji
     split at h2 <;> lia
    lia
 have all:met us=(wts C es).countP (λx=>decide (t<x))+1:=by
  show((ao _).filter _).length=_
  rw[qx.mpr,br]
  intro b hb
  have hb:=az.mp hb
  obtain⟨j,hj,ej⟩:=aIQ t (wts C es) b (by lia)
  have hj':j<vs.length:=by
   unfold wts at hj
   rw[ae] at hj
   lia
  rw[qr]
  refine⟨vs[j],pu.mem_iff.mpr (pv.mem_iff.mp (fv hj')),decide_eq_true ?_⟩
  show cnt t (wts C es) (vs.idxOf vs[j])=b
  rw[g.nd.idxOf_getElem]
  exact ej
 have:=grow g' λv hv=>az.mp (pu.mem_iff.mp hv)
 lia
def cC (t:Nat->Nat->Int)(D:Int)(u:Nat->Int)(i j:Nat):Int:=t i j*D - u i - u j
def co (t:Nat->Nat->Int)(D:Int)(u:Nat->Int)(n:Nat)(es:List (Nat×Nat))(a b:Nat):Int:=(wts (λi j=>cC t D u (i+1) (j+1)) es).sum+cC t D u 0 a+cC t D u 0 b+2*((ao n).map u).sum
structure One (n:Nat)(vs:List Nat)(es:List (Nat×Nat))(a b:Nat):Prop where
 gr:Gr vs es
 pm:vs.Perm (ao (n - 1))
 a1:1<=a
 an:a<n
 b1:1<=b
 bn:b<n
 ne:a≠b
def IsW (t:Nat->Nat->Int)(D:Int)(u:Nat->Int)(n:Nat)(W:Int):Prop:=(∃vs es a b,One n vs es a b/\W=co t D u n es a b)/\∀vs es a b,One n vs es a b->W<=co t D u n es a b
theorem wD:∀{es:List (Nat×Nat)},(∀e∈es,q*C' e.1 e.2=p*C e.1 e.2 - z)->q*(wts C' es).sum=p*(wts C es).sum - (es.length:Int)*z
 |[],_=>by simp[wts]
 |e :: es,h=>by
  have ih:=wD (es:=es) λx hx=>h x (ay _ hx)
  have h0:=h e (by simp)
  show q*(C' e.1 e.2+(wts C' es).sum)=p*(C e.1 e.2+(wts C es).sum) - ((es.length+1:Nat):Int)*z
  rw[fh,fh,ih,h0,vw,pw]
  simp
  lia
theorem wG:∀{L:List Nat},(∀i∈L,q*u' i=p*u i+z)->q*(L.map u').sum=p*(L.map u).sum+(L.length:Int)*z
 |[],_=>by simp
 |i :: L,h=>by
  have ih:=wG (L:=L) λx hx=>h x (ay _ hx)
  have h0:=h i (by simp)
  show q*(u' i+(L.map u').sum)=p*(u i+(L.map u).sum)+((L.length+1:Nat):Int)*z
  rw[fh,fh,ih,h0,vw,pw]
  simp
  lia
theorem aGd (h3:3<=n)(o:One n vs es a b)(h:∀i,i<n->g*D*u' i=g*D'*u i+z):g*D*co t D' u' n es a b=g*D'*co t D u n es a b:=by
 have cc:∀i j,i<n->j<n->g*D*cC t D' u' i j=g*D'*cC t D u i j - 2*z:=λi j hi hj=>by
  unfold cC
  rw[j5,j5,j5,j5,h i hi,h j hj]
  have:g*D*(t i j*D')=g*D'*(t i j*D):=by
   rw[cm,cm,dm D (t i j) D',dm D' (t i j) D,b8 D D']
  lia
 have le:es.length+2=n:=by
  have:=o.gr.len
  rw[o.pm.length_eq,br] at this
  lia
 have lt:∀e∈es,e.1+1<n/\e.2+1<n:=λe he=>by
  have:=o.gr.mem e he
  have h1:=az.mp (o.pm.mem_iff.mp this.1)
  have h2:=az.mp (o.pm.mem_iff.mp this.2.1)
  lia
 have e1:=wD (C:=λi j=>cC t D u (i+1) (j+1)) (C':=λi j=>cC t D' u' (i+1) (j+1)) (p:=g*D') (q:=g*D) (z:=2*z) (es:=es) λe he=>cc _ _ (lt e he).1 (lt e he).2
 have e2:=wG (u:=u) (u':=u') (p:=g*D') (q:=g*D) (z:=z) (L:=ao n) λi hi=>h i (az.mp hi)
 rw[br] at e2
 have e3:=cc 0 a (by lia) o.an
 have e4:=cc 0 b (by lia) o.bn
 unfold co
 rw[fh,fh,fh,fh,fh,fh,e1,e3,e4]
 have e5:g*D*(2*((ao n).map u').sum)=2*(g*D'*((ao n).map u).sum+(n:Int)*z):=by
  rw[<- e2,dm]
 have e6:g*D'*(2*((ao n).map u).sum)=2*(g*D'*((ao n).map u).sum):=dm ..
 rw[e5,e6]
 have e7:(es.length:Int)*(2*z)=2*((n:Int)*z) - 4*z:=by
  rw[show(es.length:Int)=(n:Int) - 2 by lia,Int.sub_mul,dm]
  lia
 lia
def gd (i j:Int):Int:=((i.gcd j:Nat):Int)
theorem fH (h:0<j):0<gd i j:=by
 unfold gd
 have:0<i.gcd j:=Int.gcd_pos_of_ne_zero_right i (by lia)
 lia
theorem fI (h:0<j):i=gd i j*(i / gd i j)/\j=gd i j*(j / gd i j)/\0<j / gd i j/\(i / gd i j).gcd (j / gd i j)=1:=by
 have g0:=fH (i:=i) h
 have d1:gd i j ∣ i:=Int.gcd_dvd_left i j
 have d2:gd i j ∣ j:=Int.gcd_dvd_right i j
 have e2:j=gd i j*(j / gd i j):=(uq d2).symm
 refine⟨(uq d1).symm,e2,?_,?_⟩
 ·apply b9
  intro hn
  have:=Int.mul_nonpos_of_nonneg_of_nonpos (show 0<=gd i j by lia) (show j / gd i j<=0 by lia)
  lia
 ·exact Int.gcd_ediv_gcd_ediv_gcd (by unfold gd at g0;lia)
theorem zL {a b d: Int}(h:b ∣ a*d)(g:a.gcd b=1):b ∣ d:=by
 have h1:b.natAbs ∣ a.natAbs*d.natAbs:=by rw[<- xc];exact Af.mpr h
 have h2:Nat.Coprime b.natAbs a.natAbs:=by unfold Nat.Coprime;rw[wu];exact g
 exact Af.mp (Nat.Coprime.dvd_of_dvd_mul_left h2 h1)
theorem aLE (hb:0<b)(hd:0<d)(h:a*d=c*b):a / gd a b=c / gd c d/\b / gd a b=d / gd c d:=by
 obtain⟨e1,e2,p1,q1⟩:=fI (i:=a) hb
 obtain⟨e3,e4,p2,q2⟩:=fI (i:=c) hd
 have g1:=fH (i:=a) hb
 have g2:=fH (i:=c) hd
 generalize gd a b=g at *
 generalize gd c d=k at *
 generalize a / g=a' at *
 generalize b / g=b' at *
 generalize c / k=c' at *
 generalize d / k=d' at *
 have h1:a'*d'=c'*b':=by
  have:(g*k)*(a'*d')=(g*k)*(c'*b'):=by
   have l:(g*k)*(a'*d')=a*d:=by rw[e1,e4];simp only[cm,dm,b8]
   have r:(g*k)*(c'*b')=c*b:=by rw[e3,e2];simp only[cm,dm,b8]
   rw[l,r,h]
  exact xf (by have:=qa g1 g2;lia) this
 have v1:b' ∣ d':=by
  have:b' ∣ a'*d':=⟨c',by rw[h1,b8]⟩
  exact zL this q1
 have v2:d' ∣ b':=by
  have:d' ∣ c'*b':=⟨a',by rw[<- h1,b8]⟩
  exact zL this q2
 have e:b'=d':=vx (ym p2 v1) (ym p1 v2)
 subst e
 exact⟨Int.eq_of_mul_eq_mul_right (by lia) h1,rfl⟩
theorem yC {x y: Int}{a b: Nat}(hx:x.natAbs<2 ^ a)(hy:y.natAbs<2 ^ b): (x*y).natAbs<2 ^ (a+b):=by
 rw[xc,BF]
 exact Nat.mul_lt_mul'' hx hy
theorem aKD (h:0<j)(hi:i.natAbs<2 ^ a): (i / gd i j).natAbs<2 ^ a:=by
 obtain⟨e1,_⟩:=fI (i:=i) h
 have g0:=fH (i:=i) h
 have:i.natAbs=(gd i j).natAbs*(i / gd i j).natAbs:=by rw[<- xc,<- e1]
 have:(i / gd i j).natAbs<=i.natAbs:=by
  rw[this]
  exact Nat.le_mul_of_pos_left _ (by lia)
 lia
theorem aNO {x: Int}{a b: Nat}(hx:x.natAbs<2 ^ a)(h:a<=b):x.natAbs<2 ^ b:=cg hx (ff (by decide) h)
def aNA:Sp:=λvs H Q _=>∃i j:Int,vs=[.int i, .int j]/\Q (.int (gd i j)) H
theorem aNv (i:Int): (if i<0 then -i else i)=((i.natAbs:Nat):Int):=by split <;> lia
theorem aOB {a b: Nat}: ((a:Int) % (b:Int))=((a % b:Nat):Int):=(Int.natCast_emod a b).symm
theorem aNS:∀vs H Q E,aNA vs H Q E->fG K { nx:=λ_ H'=>Q .non H',rt:=Q } (aW ["one","other","left"] vs) H:=by
 intro vs H Q E h
 obtain⟨i,j,rfl,q⟩:=h
 refine⟨_,rfl,i,rfl,?_⟩
 refine⟨_,rfl,j,rfl,?_⟩
 refine⟨λm σ' H'=>H'=H/\∃(a b:Nat) (x2:Option V),σ'=[some (.int (a:Int)),some (.int (b:Int)),x2]/\b=m/\Nat.gcd a b=i.gcd j,⟨j.natAbs,rfl,i.natAbs,j.natAbs,none,by rw[aNv,aNv];rfl,rfl,rfl⟩,?_⟩
 rintro m σ' H' ⟨rfl,a,b,x2,rfl,rfl,hg⟩
 refine⟨_,rfl,_,_,rfl,rfl,_,rfl,?_⟩
 by_cases c:0<b
 ·refine bW (decide_eq_true (by lia)) ⟨λσ2 H2=>H2=H'/\∃(a' b':Nat) (x2:Option V),σ2=[some (.int (a':Int)),some (.int (b':Int)),x2]/\b'<b/\Nat.gcd a' b'=i.gcd j,λσ2 H2 ⟨e,a',b',x2,e1,e2,e3⟩=>⟨b',e2,e,a',b',x2,e1,rfl,e3⟩,?_⟩
  refine⟨_,rfl,_,rfl,_,_,rfl,rfl,by show(0:Int)<(b:Int);lia,_,rfl,_,rfl,rfl,b,a % b,some (.int ((a % b:Nat):Int)),?_,Nat.mod_lt _ c,?_⟩
  ·show[some (V.int (b:Int)),some (V.int ((a:Int) % (b:Int))),some (V.int ((a:Int) % (b:Int)))]=_
   rw[aOB]
  ·rw[wu,<- Nat.gcd_rec,wu];exact hg
 ·refine aV (decide_eq_false (by lia)) ⟨_,rfl,?_⟩
  have:b=0:=by lia
  subst this
  rw[Nat.gcd_zero_right] at hg
  rw[hg]
  exact q
def uB (K:aa):Sp:=λvs H Q _=>∃i j:Int,vs=[.int i, .int j]/\0<j/\j.natAbs<2 ^ 8000/\∀p H',Same H H'->H' p=some (.tup [.int (i / gd i j), .int (j / gd i j)])->Q (.ref p) H'
theorem tG (h:0<j)(hj:j.natAbs<2 ^ 8000):aKV i (gd i j):=by
 refine⟨fH h,bh ?_ hj⟩
 have:=ym h (show gd i j ∣ j from Int.gcd_dvd_right i j)
 have:=fH (i:=i) h
 lia
theorem aMM:∀vs H Q E,uB K vs H Q E->aBj K aNA { nx:=λ_ H'=>Q .non H',rt:=Q } (aW ["top","bottom","measure"] vs) H:=by
 intro vs H Q E h
 obtain⟨i,j,rfl,hj,hb,q⟩:=h
 refine⟨_,rfl,_,rfl,i,j,rfl,?_⟩
 refine⟨_,rfl,_,_,rfl,rfl,_,rfl,aV (decide_eq_false (by lia)) ?_⟩
 refine⟨_,rfl,_,rfl,_,_,rfl,rfl,tG hj hb,_,rfl,_,rfl,_,_,rfl,rfl,tG hj hb,show 2<=bx by decide,λp hp=>?_⟩
 exact q p _ (aD hp _) aA
theorem aJG:∀vs H Q E,uB K vs H Q E->pC K { nx:=λ_ H'=>Q .non H',rt:=Q } (aW ["top","bottom","one","other"] vs) H:=by
 intro vs H Q E h
 obtain⟨i,j,rfl,hj,hb,q⟩:=h
 refine⟨_,rfl,i,rfl,_,rfl,_,_,rfl,?_⟩
 refine⟨λm σ' H'=>H'=H/\∃(a b:Nat),σ'=[some (.int i),some (.int j),some (.int (a:Int)),some (.int (b:Int))]/\b=m/\Nat.gcd a b=i.gcd j,⟨j.natAbs,rfl,i.natAbs,j.natAbs,by rw[aNv];show[_,_,_,some (V.int j)]=_;rw[show((j.natAbs:Nat):Int)=j by lia],rfl,rfl⟩,?_⟩
 rintro m σ' H' ⟨rfl,a,b,rfl,rfl,hg⟩
 refine⟨_,rfl,_,_,rfl,rfl,_,rfl,?_⟩
 by_cases c:0<b
 ·refine bW (decide_eq_true (by lia)) ⟨λσ2 H2=>H2=H'/\∃(a' b':Nat),σ2=[some (.int i),some (.int j),some (.int (a':Int)),some (.int (b':Int))]/\b'<b/\Nat.gcd a' b'=i.gcd j,λσ2 H2 ⟨e,a',b',e1,e2,e3⟩=>⟨b',e2,e,a',b',e1,rfl,e3⟩,?_⟩
  refine⟨_,rfl,_,rfl,_,rfl,_,_,rfl,rfl,by show(0:Int)<(b:Int);lia,_,_,rfl,rfl,b,a % b,?_,Nat.mod_lt _ c,?_⟩
  ·show[some (V.int i),some (V.int j),some (V.int (b:Int)),some (V.int ((a:Int) % (b:Int)))]=_
   rw[aOB]
  ·rw[wu,<- Nat.gcd_rec,wu];exact hg
 ·refine aV (decide_eq_false (by lia)) ?_
  have:b=0:=by lia
  subst this
  rw[Nat.gcd_zero_right] at hg
  have eg:(a:Int)=gd i j:=by unfold gd;rw[hg]
  rw[eg]
  refine⟨_,rfl,_,rfl,_,_,rfl,rfl,tG hj hb,_,rfl,_,rfl,_,_,rfl,rfl,tG hj hb,show 2<=bx by decide,λp hp=>?_⟩
  exact q p _ (aD hp _) aA
abbrev Pr:= List (Int×Int)
def prI (P:Pr):List (List Int):=P.map λe=>[e.1,e.2]
theorem hU {K: aa}{H: Hp}{xs: List V}(h:Rows K H xs (prI P)){i: Nat}{x: V}(hx:xs[i]?=some x):∃e b,P[i]?=some e/\x = .ref b/\SqT K H b [.int e.1, .int e.2]:=by
 have hi:i<xs.length:=(ai.mp hx).1
 have hl:i<P.length:=by rw[h.1] at hi;unfold prI at hi;rwa[ae] at hi
 obtain⟨b,e1,e2⟩:=h.2 i [P[i].1,P[i].2] (by unfold prI;rw[aw,ah hl];rfl)
 rw[hx] at e1
 exact⟨P[i],b,ah hl,bo e1,e2⟩
theorem aAS (h0:0<m)(h1:m<=4611686018427387904):CMul (a % m) j := .inl ⟨by have:=zv a (show m≠0 by lia);lia,by have:=Int.emod_lt_of_pos a h0;lia⟩
def aOV (l:Addr)(k:Nat)(z:Int):HO := .lst [.ref l, .int (k:Int), .int z]
def PenAt (H:Hp)(p l:Addr)(ns:List Int)(k:Nat)(z:Int):Prop:=H p=some (aOV l k z)/\H l=some (.lst (ns.map V.int))/\l≠p
def Pen (H:Hp)(p l:Addr)(ns:List Int):Prop:=∃k z,PenAt H p l ns k z
theorem PenAt.put (h:PenAt H p l ns k z):PenAt (upd H p (aOV l k' z')) p l ns k' z':=⟨aA,by rw[aK h.2.2];exact h.2.1,h.2.2⟩
theorem PenAt.x (h:PenAt H p l ns k z)(s:Same H H'):PenAt H' p l ns k z:=⟨s _ _ h.1,s _ _ h.2.1,h.2.2⟩
theorem Pen.x (h:Pen H p l ns)(s:Same H H'):Pen H' p l ns:=by
 obtain⟨k,z,h⟩:=h
 exact⟨k,z,h.x s⟩
theorem Pen.ne {H: Hp}{p l: Addr}{ns: List Int}(h:Pen H p l ns){x: Addr}(hx:H x=none):x≠p/\x≠l:=by
 obtain⟨k,z,h⟩:=h
 exact⟨λe=>(by rw[e,h.1] at hx;cases hx),λe=>(by rw[e,h.2.1] at hx;cases hx)⟩
theorem Pen.upd {H: Hp}{p l: Addr}{ns: List Int}(h:Pen H p l ns){x: Addr}{o: HO}(h1:x≠p)(h2:x≠l):Pen (upd H x o) p l ns:=by
 obtain⟨k,z,h⟩:=h
 exact⟨k,z,by rw[aK (gy h1)];exact h.1,by rw[aK (gy h2)];exact h.2.1,h.2.2⟩
theorem aEq:at2 (dy n (dy n 0)) a b=0:=by
 unfold at2
 have:(dy n (dy n (0:Int))).getD a []=[]\/(dy n (dy n (0:Int))).getD a []=dy n 0:=by
  rw[aj,mx]
  split
  ·exact .inr rfl
  ·exact .inl rfl
 rcases this with e | e
 ·rw[e];rfl
 ·rw[e,aj,mx]
  split <;> rfl
theorem xQ (h:SqT K H a xs)(hp:H p=some (.lst ys))(sx:SameX p H H'):SqT K H' a xs:=by
 rcases h with(h | ⟨ob,h⟩) | h
 ·exact .inl (.inl (sx _ _ (ne_of h hp (λz=>nomatch z)) h))
 ·exact .inl (.inr ⟨ob,sx _ _ (ne_of h hp (λz=>nomatch z)) h⟩)
 ·exact .inr h
def aKl:Sp:=λvs H Q _=>∃(c:Int) (k:Nat),vs=[.int c, .int (k:Int)]/\∀v:Int,Q (.int v) H
theorem aKM:∀vs H Q E,aKl vs H Q E->jK K { nx:=λ_ H'=>Q .non H',rt:=Q } (aW ["cell","at","one","two","three"] vs) H:=by
 intro vs H Q E h
 obtain⟨c,k,rfl,q⟩:=h
 refine⟨_,rfl,_,_,rfl,rfl,by show(0:Int)<1000000007;decide, .inl (.inr ⟨by decide,by decide⟩),_,rfl, .inl (.inr ⟨by decide,by decide⟩),_,_,rfl,rfl,by show(0:Int)<2147483629;decide,?_⟩
 refine⟨_,rfl,_,rfl, .inl (aAS (by decide) (by decide)),_,rfl, .inl (.inr ⟨by decide,by decide⟩),_,rfl,_,_,rfl,rfl,by show(0:Int)<65537;decide,_,_,rfl,rfl,by show(0:Int)<2147483587;decide,?_⟩
 refine⟨_,rfl,_,rfl, .inl (aAS (by decide) (by decide)),_,rfl, .inl (.inr ⟨by decide,by decide⟩),_,_,rfl,rfl,by show(0:Int)<2147483563;decide,?_⟩
 exact⟨_,rfl, .inl (.inr ⟨by decide,by decide⟩),_,rfl, .inl (.inr ⟨by decide,by decide⟩),_,rfl,q _⟩
def aIs (K:aa):Sp:=λvs H Q _=>∃(a:Addr) (ns:List Int),vs=[.ref a]/\SqL K H a (ns.map V.int)/\∀p l ms H',Same H H'->Pen H' p l ms->Q (.ref p) H'
theorem aJp:∀vs H Q E,aIs K vs H Q E->lD K { nx:=λ_ H'=>Q .non H',rt:=Q } (aW ["script"] vs) H:=by
 intro vs H Q E h
 obtain⟨a,ns,rfl,hS,q⟩:=h
 refine⟨_,rfl,_,rfl, .inl ⟨a,_,rfl,hS,λsc hsc=>?_⟩⟩
 obtain⟨ms,ems,_⟩:=aHF ns none (some 40)
 rw[ems]
 refine .inl ⟨sc,_,rfl, .inl (.of aA),λl hl=>⟨show 3<=bx by decide,λp hp=>?_⟩⟩
 have hlp:l≠p:=λe=>by rw[<- e,aA] at hp;cases hp
 refine q p l ms _ (((aD hsc _).trans (aD hl _)).trans (aD hp _)) ⟨0,0,aA,?_,hlp⟩
 rw[aK hlp]
 exact aA
def iX:Sp:=λvs H Q _=>∃(p l:Addr) (ns:List Int) (m:Nat),vs=[.ref p, .int (m:Int)]/\Pen H p l ns/\1<=m/\m<2 ^ 100/\∀(r:Nat) H',r<m->Pen H' p l ns->SameX p H H'->Q (.int (r:Int)) H'
theorem aJa:∀vs H Q E,iX vs H Q E->lI K aKl { nx:=λ_ H'=>Q .non H',rt:=Q } (aW ["feed","many","at","cell","found"] vs) H:=by
 intro vs H Q E h
 obtain⟨p,l,ns,m,rfl,⟨k,z,hP⟩,h1,hm,q⟩:=h
 have rest:∀(G:Hp) (k':Nat) (z':Int) (x2 x3:Option V),PenAt G p l ns k' z'->SameX p H G->aG (aQ (tOp zD (tOp (aL K) (aC 0) (tC (.int 2))) (aC 1)) (aE 4)) (aG (aQ (tOp kG (tOp (aL K) (aC 0) (tC (.int 2))) (aC 1)) (jZ (aC 0) (tC (.int 2)) cL)) (aG (cE (aC 4)) aF)) { nx:=λ_ H'=>Q .non H',rt:=Q } [some (.ref p),some (.int (m:Int)),x2,x3,none] G:=λG k' z' x2 x3 hG sx=>by
  obtain⟨r,er,hr⟩:=aEB (c:=z') (n:=m) h1
  refine⟨_,rfl,ixL (j:=2) (.of hG.1) rfl ⟨_,rfl,aBr h1 er ?_⟩⟩
  refine⟨_,rfl,ixL (j:=2) (.of hG.1) rfl ⟨_,rfl,_,_,rfl,rfl,⟨by lia,aNO (a:=100) (by lia) (by decide)⟩,_,rfl,p,_,2,2,rfl,rfl,hG.1,rfl,?_⟩⟩
  exact⟨_,rfl,q r _ hr ⟨k',z' / (m:Int),hG.put⟩ (sx.trans (SameX.put _))⟩
 refine⟨_,rfl,ixL (j:=2) (.of hP.1) rfl ⟨_,rfl,_,_,rfl,rfl,_,rfl,?_⟩⟩
 by_cases c1:z<(m:Int)
 ·refine bW (decide_eq_true c1) ⟨_,rfl,ixL (j:=0) (.of hP.1) rfl ⟨l,_,rfl, .inl (.of hP.2.1),_,_,rfl,rfl,_,rfl,?_⟩⟩
  rw[ae]
  by_cases c2:0<ns.length
  ·refine bW (decide_eq_true (by lia)) ?_
   obtain⟨j,ej,hj⟩:=aEB (c:=(k:Int)) (n:=ns.length) c2
   refine⟨_,rfl,ixL (j:=1) (.of hP.1) rfl ?_⟩
   refine⟨_,rfl,ixL (j:=0) (.of hP.1) rfl ⟨_,rfl,_,rfl,ixL (j:=0) (.of hP.1) rfl ⟨l,_,rfl, .inl (.of hP.2.1),?_⟩⟩⟩
   rw[ae]
   refine aBr c2 ej ?_
   refine ixL (j:=j) (v := .int (ns.getD j 0)) (.of hP.2.1) (by rw[aw,L2.iF hj];rfl) ?_
   generalize ns.getD j 0=c
   refine⟨_,rfl,_,rfl,p,_,1,1,rfl,rfl,hP.1,rfl,?_⟩
   have hP1:PenAt (upd H p (.lst ([.ref l, .int (k:Int), .int z].set 1 (.int ((k:Int)+1))))) p l ns (k+1) z:=hP.put
   have sx1:SameX p H (upd H p (.lst ([.ref l, .int (k:Int), .int z].set 1 (.int ((k:Int)+1))))):=SameX.put _
   generalize upd H p (.lst ([.ref l, .int (k:Int), .int z].set 1 (.int ((k:Int)+1))))=G1 at *
   refine⟨_,rfl,_,rfl,p,_,2,2,rfl,rfl,hP1.1,rfl,?_⟩
   have hP2:PenAt (upd G1 p (.lst ([.ref l, .int ((k+1:Nat):Int), .int z].set 2 (.int c)))) p l ns (k+1) c:=hP1.put
   have sx2:=sx1.trans (SameX.put (H:=G1) (.lst ([.ref l, .int ((k+1:Nat):Int), .int z].set 2 (.int c))))
   generalize upd G1 p (.lst ([.ref l, .int ((k+1:Nat):Int), .int z].set 2 (.int c)))=G2 at *
   have mixed:aG (aQ (aO aKl [] E0 (aB (aC 3) (aB (aC 2) aH))) (jZ (aC 0) (tC (.int 2)) cL)) aF { nx:=λσ' H'=>aG (aQ (tOp zD (tOp (aL K) (aC 0) (tC (.int 2))) (aC 1)) (aE 4)) (aG (aQ (tOp kG (tOp (aL K) (aC 0) (tC (.int 2))) (aC 1)) (jZ (aC 0) (tC (.int 2)) cL)) (aG (cE (aC 4)) aF)) { nx:=λ_ H'=>Q .non H',rt:=Q } σ' H',rt:=Q } [some (.ref p),some (.int (m:Int)),some (.int (k:Int)),some (.int c),none] G2:=by
    refine⟨_,rfl,_,rfl,c,k,rfl,λv=>⟨_,rfl,p,_,2,2,rfl,rfl,hP2.1,rfl,?_⟩⟩
    exact rest _ (k+1) v _ _ hP2.put (sx2.trans (SameX.put _))
   refine⟨_,rfl,10,18,rfl,rfl,⟨by decide,by decide,by decide⟩,_,_,rfl,rfl,_,rfl,?_⟩
   by_cases c3:c<10 ^ 18
   ·exact bW (decide_eq_true c3) (bW rfl mixed)
   ·refine aV (decide_eq_false c3) ⟨_,rfl,_,rfl,ixL (j:=0) (.of hP2.1) rfl ⟨l,_,rfl, .inl (.of hP2.2.1),_,_,rfl,rfl,_,rfl,?_⟩⟩
    exact zY (λ_=>mixed) λ_=>rest _ (k+1) c _ _ hP2 sx2
  ·exact aV (decide_eq_false (by lia)) (rest H k z _ _ hP (SameX.refl _ _))
 ·exact aV (decide_eq_false c1) (rest H k z _ _ hP (SameX.refl _ _))
def Bs (M:List (List Int))(n:Nat):Prop:=∀i j,i<n->j<n->0<=at2 M i j/\at2 M i j<=1000000
def Sy (M:List (List Int))(n:Nat):Prop:=∀i j,i<n->j<n->at2 M i j=at2 M j i
theorem aIh (b:Bs M n)(s:Sy M n)(q:Quad M n)(hi:i<n)(hj:j<n)(h0:0<=v)(h1:v<=1000000):Bs (zE (zE M i j v) j i v) n/\Sy (zE (zE M i j v) j i v) n:=by
 have q1:=jG (j:=j) (v:=v) q hi
 have e:∀a c,at2 (zE (zE M i j v) j i v) a c=if(a=j/\c=i)\/(a=i/\c=j) then v else at2 M a c:=λa c=>by
  rw[tW q1 hj hi,tW q hi hj]
  by_cases h1:a=j/\c=i
  ·rw[if_pos h1,if_pos (.inl h1)]
  ·rw[if_neg h1]
   by_cases h2:a=i/\c=j
   ·rw[if_pos h2,if_pos (.inr h2)]
   ·rw[if_neg h2,if_neg (λz=>z.elim h1 h2)]
 refine⟨λa c ha hc=>?_,λa c ha hc=>?_⟩
 ·rw[e]
  split
  ·exact⟨h0,h1⟩
  ·exact b a c ha hc
 ·rw[e,e]
  by_cases c1:(a=j/\c=i)\/(a=i/\c=j)
  ·rw[if_pos c1,if_pos (by lia)]
  ·rw[if_neg c1,if_neg (by lia)]
   exact s a c ha hc
def prN (L:List (Nat×Nat)):List (List Int):=L.map λe=>[(e.1:Int),(e.2:Int)]
theorem tH {K: aa}{H: Hp}{xs: List V}{L: List (Nat×Nat)}(h:Rows K H xs (prN L)){i: Nat}{x: V}(hx:xs[i]?=some x):∃e b,L[i]?=some e/\x = .ref b/\SqT K H b [aU e.1,aU e.2]:=by
 have hi:i<xs.length:=(ai.mp hx).1
 have hl:i<L.length:=by rw[h.1] at hi;unfold prN at hi;rwa[ae] at hi
 obtain⟨b,e1,e2⟩:=h.2 i [(L[i].1:Int),(L[i].2:Int)] (by unfold prN;rw[aw,ah hl];rfl)
 rw[hx] at e1
 exact⟨L[i],b,ah hl,bo e1,e2⟩
theorem dU: (prN L).length=L.length:=by unfold prN;rw[ae]
theorem aDr:prN (L++M)=prN L++prN M:=by unfold prN;rw[bj]
theorem nH (h:Rows K H xs T)(g:Rows K H ys U):Rows K H (xs++ys) (T++U):=by
 refine⟨by rw[au,au,h.1,g.1],λi row e=>?_⟩
 by_cases hi:i<T.length
 ·rw[c6 hi] at e
  obtain⟨b,e1,e2⟩:=h.2 i row e
  exact⟨b,by rw[c6 (by rw[h.1];exact hi)];exact e1,e2⟩
 ·rw[cw (by lia)] at e
  obtain⟨b,e1,e2⟩:=g.2 _ row e
  exact⟨b,by rw[cw (by rw[h.1];lia),h.1];exact e1,e2⟩
def dY (K:aa):Sp:=λvs H Q _=>∃n:Nat,vs=[.int (n:Int)]/\n<=8/\∀F ys M H',Same H H'->H F=none->H' F=some (.lst ys)->Rows K H' ys (prN M)->(∀e∈M,e.1<e.2/\e.2<n)->(∀a b,a<b->b<n->(a,b)∈M)->M.length<=64->Q (.ref F) H'
def aHz (K:vy)(H:Hp)(n i:Nat)(σ':St)(H':Hp):Prop:=Same H H'/\∃F x2 ys M,σ'=[some (.int (n:Int)),some (.ref F),x2]/\H F=none/\H' F=some (.lst ys)/\Rows K H' ys (prN M)/\(∀e∈M,e.1<e.2/\e.2<n)/\(∀a b,a<i->a<b->b<n->(a,b)∈M)/\M.length<=8*i
theorem aFG:∀vs H Q E,dY K vs H Q E->jT K { nx:=λ_ H'=>Q .non H',rt:=Q } (aW ["many","found","i"] vs) H:=by
 intro vs H Q E h
 obtain⟨n,rfl,h8,q⟩:=h
 refine⟨show 0<=bx by decide,λF hF=>?_⟩
 have mF:=aD hF (.lst [])
 have hF1:(upd H F (.lst [])) F=some (.lst []):=aA
 generalize upd H F (.lst [])=G at *
 refine⟨_,rfl,(n:Int),rfl,by lia,by lia,?_⟩
 rw[dh]
 refine bH (lo:=0) (n:=n) (aHz K H n) ⟨mF,F,none,[],[],rfl,hF,hF1,Rows.nil,(λ_ z=>nomatch z),(λa _ h=>absurd h (ou a)),bc _⟩ (λi σ' H1 hi ⟨m1,F1,x2,ys,M,es,hF0,hF2,r2,g2,c2,z2⟩=>?_) λσ' H1 ⟨m1,F1,x2,ys,M,es,hF0,hF2,r2,g2,c2,z2⟩=>?_
 ·subst es
  rw[kd]
  refine⟨_,rfl,_,rfl,_,rfl,_,_,rfl,⟨by lia,by lia,by lia,by lia⟩,λA hA=>?_⟩
  rw[show((n:Int) - ((i:Int)+1)).toNat=n - (i+1) by lia]
  have e1:prN ((ao (n - (i+1))).map λk=>(i,i+1+k))=(ao (n - (i+1))).flatMap λk=>[[(i:Int),((i+1+k:Nat):Int)]]:=by
   unfold prN
   rw[dw]
   have:∀(L:List Nat) (f:Nat->List Int),(L.flatMap λk=>[f k])=L.map f:=λL f=>by
    induction L with
    |nil=>rfl
    |cons a L ih=>rw[ka,ih];rfl
   rw[this]
   rfl
  refine nJ (K:=K) [0] (prN ((ao (n - (i+1))).map λk=>(i,i+1+k))) hA (by rw[dU,ae,br];lia) (EmR.cast (nP (lo:=(i:Int)+1) (by decide) (by show 0<2;decide) λk σ2 H2 hk l2 ag2 s0 sx2=>?_) e1.symm) λσ2 H2 pre m2 hA2 r3=>?_
  ·have t1:σ2[1]?=some (some (.int (i:Int))):=(ag2 1 (by decide)).trans rfl
   have e3:(i:Int)+1+(k:Int)=((i+1+k:Nat):Int):=by lia
   rw[e3] at s0
   exact vH (by show 2<=100;decide) λR hR=>⟨_,t1,_,s0,hR⟩
  ·have hF3:=m2 _ _ hF2
   refine .inl ⟨F1,A,ys,pre,rfl,rfl,hF3,hA2,?_,λF4 hF4=>?_⟩
   ·rw[r3.1,r2.1,dU,dU,ae,br]
    exact de (show _<=100 by lia) (by decide)
   ·have m4:=aD hF4 (.lst (ys++pre))
    refine⟨(m1.trans m2).trans m4,F4,_,ys++pre,M++(ao (n - (i+1))).map λk=>(i,i+1+k),rfl,(m1.trans m2).free hF4,aA,?_,λe he=>?_,λx y hx hxy hy=>?_,?_⟩
    ·rw[aDr]
     exact(nH (r2.same m2) r3).same m4
    ·rcases di.mp he with he | he
     ·exact g2 e he
     ·obtain⟨k,hk,rfl⟩:=b6.mp he
      have hk:=az.mp hk
      exact⟨by show i<i+1+k;lia,by show i+1+k<n;lia⟩
    ·by_cases ci:x<i
     ·exact fe _ (c2 x y ci hxy hy)
     ·obtain rfl:x=i:=by lia
      exact df _ (b6.mpr ⟨y - (x+1),az.mpr (by lia),by show(x,x+1+(y - (x+1)))=(x,y);rw[show x+1+(y - (x+1))=y by lia]⟩)
    ·rw[au,ae,br];lia
 ·subst es
  exact⟨_,rfl,q F1 ys M H1 m1 hF0 hF2 r2 g2 (λa b h1 h2=>c2 a b (by lia) h1 h2) (by lia)⟩
def Flo (M:List (List Int))(n k i0 j0:Nat)(M':List (List Int)):Prop:=∀a b,a<n->b<n->at2 M' a b=if a<i0\/(a=i0/\b<j0) then min (at2 M a b) (at2 M a k+at2 M k b) else at2 M a b
theorem aIK (hk:k<n)(b:Bs M n)(s:Sy M n)(f:Flo M n k n 0 M'):Bs M' n/\Sy M' n:=by
 refine⟨λi j hi hj=>?_,λi j hi hj=>?_⟩
 ·rw[f i j hi hj,if_pos (.inl hi)]
  have:=b i j hi hj
  have:=b i k hi hk
  have:=b k j hk hj
  lia
 ·rw[f i j hi hj,f j i hj hi,if_pos (.inl hi),if_pos (.inl hj),s i j hi hj,s i k hi hk,s k j hk hj,Bt]
theorem aER (hk:k<n)(b:Bs M n)(f:Flo M n k i0 j0 M')(hx:x<n):at2 M' x k=at2 M x k/\at2 M' k x=at2 M k x:=by
 have:=b k k hk hk
 constructor
 ·rw[f x k hx hk]
  split
  ·lia
  ·rfl
 ·rw[f k x hk hx]
  split
  ·lia
  ·rfl
def dA (K:aa):Sp:=λvs H Q _=>∃(F:Addr) (ls:List Addr) (M:List (List Int)) (n:Nat),vs=[.ref F]/\Mat H F ls M/\Quad M n/\Bs M n/\Sy M n/\1<=n/\n<=8/\∀T v H',Same H H'->Quad T n->Bs T n->Sy T n->Sh K H' (uF T) v->Q v H'
def aHH (H:Hp)(M0:List (List Int))(F:Addr)(i:Nat)(L:List V)(H':Hp):Prop:=∃ls:List Addr,L=ls.map V.ref/\ls.length=i/\ls.Nodup/\F∉ls/\(∀(j:Nat) (x:Addr) (r:List Int),ls[j]?=some x->M0[j]?=some r->H' x=some (.lst (r.map V.int)))/\(∀x∈ls,∃r:List Int,H' x=some (.lst (r.map V.int)))/\∀x∈ls,H x=none
def aGD (H:Hp)(F0:Addr)(n:Nat)(F:Addr)(ls:List Addr)(k:Nat)(σ':St)(H':Hp):Prop:=Same H H'/\∃x2 x3 x4 x5 M,σ'=[some (.ref F0),some (.ref F),x2,x3,x4,x5]/\Mat H' F ls M/\Quad M n/\Bs M n/\Sy M n
def aFM (H:Hp)(F0:Addr)(n:Nat)(F:Addr)(ls:List Addr)(k:Nat)(M:List (List Int))(i:Nat)(σ':St)(H':Hp):Prop:=Same H H'/\∃x3 x4 x5 M',σ'=[some (.ref F0),some (.ref F),some (.int (k:Int)),x3,x4,x5]/\Mat H' F ls M'/\Quad M' n/\Flo M n k i 0 M'
def aGL (H:Hp)(F0:Addr)(n:Nat)(F:Addr)(ls:List Addr)(k:Nat)(M:List (List Int))(i j:Nat)(σ':St)(H':Hp):Prop:=Same H H'/\∃x4 x5 M',σ'=[some (.ref F0),some (.ref F),some (.int (k:Int)),some (.int (i:Int)),x4,x5]/\Mat H' F ls M'/\Quad M' n/\Flo M n k i j M'
theorem aEt:∀vs H Q E,dA K vs H Q E->jA K { nx:=λ_ H'=>Q .non H',rt:=Q } (aW ["rows","found","k","i","j","step"] vs) H:=by
 intro vs H Q E h
 obtain⟨F0,ls0,M0,n,rfl,m0,q0,b0,y0,n1,n8,q⟩:=h
 have l0:ls0.length=n:=by rw[m0.len,q0.len]
 have lenF:∀{H'},Same H H'->SqL K H' F0 (ls0.map V.ref):=λs => .of (s _ _ m0.top)
 refine⟨_,rfl,F0,rfl, .inl ⟨⟨_, .of m0.top⟩,λF hF=>?_⟩⟩
 refine vD (vars:=[0]) (K:=K) (a:=F0) (xs:=ls0.map V.ref) (aHH H M0 F) (by decide) (by show 0<1;decide) ⟨[],rfl,rfl,tx,by simp,(λ_ _ _ z=>by cases z),by simp,by simp⟩ hF (λi L H' sm _=>lenF sm) (λi x σ1 H2 L D hx l1 ag1 s1 sm1 ha1 ⟨ls,e1,e2,e3,e4,e5,e55,e6⟩ hD=>?_) λσ1 H2 L sm1 ha1 ⟨ls,e1,e2,e3,e4,e5,e55,e6⟩=>?_
 ·have hi:i<ls0.length:=by have:=(ai.mp hx).1;rwa[ae] at this
  obtain⟨row,g1,g2,g3⟩:=q0.get (show i<n by lia)
  obtain rfl:x = .ref ls0[i]:=by
   rw[aw,ah hi] at hx
   exact(bo hx).symm
  have hrow:=m0.row i _ row (ah hi) g1
  refine⟨_,s1, .inl ⟨ls0[i],row.map V.int,rfl, .inl (.of (sm1 _ _ hrow)),λp2 hp2=>?_⟩⟩
  have hp2F:p2≠F:=λe=>by rw[e,ha1] at hp2;cases hp2
  refine⟨L,by rw[aK (gy hp2F)];exact ha1,bh (show L.length<=9 by rw[e1,ae];lia) (by decide),?_⟩
  have keep:∀b o,b≠F->H2 b=some o->upd (upd H2 p2 (.lst (row.map V.int))) F (.lst (L++[V.ref p2])) b=some o:=λb o hb e=>by
   rw[aK hb,aK (aJ e hp2)];exact e
  refine hD σ1 _ (L++[.ref p2]) l1 ag1 (λb o e=>keep b o (aJ e hF) (sm1 _ _ e)) aA ⟨ls++[p2],by rw[e1,bj];rfl,by rw[au,e2];rfl,?_,?_,?_,?_,?_⟩
  ·refine aAv e3 λhmem=>?_
   obtain⟨r,g⟩:=e55 p2 hmem
   rw[g] at hp2;cases hp2
  ·intro hmem
   rcases di.mp hmem with y | y
   ·exact e4 y
   ·exact hp2F (cq.mp y).symm
  ·intro j x r hj hr
   by_cases cj:j<ls.length
   ·rw[c6 cj] at hj
    exact keep x _ (λe=>e4 (e ▸ ar hj)) (e5 j x r hj hr)
   ·have ej:j=ls.length:=by
     have:=(ai.mp hj).1
     rw[au,oh] at this
     lia
    rw[ej,cw (bc _),t9] at hj
    cases hj
    rw[ej,e2,g1] at hr
    cases hr
    rw[aK hp2F]
    exact aA
  ·intro x hx
   rcases di.mp hx with y | y
   ·obtain⟨r,g⟩:=e55 x y
    exact⟨r,keep x _ (λe=>e4 (e ▸ y)) g⟩
   ·rw[cq.mp y]
    exact⟨row,by rw[aK hp2F];exact aA⟩
  ·intro x hx
   rcases di.mp hx with y | y
   ·exact e6 x y
   ·rw[cq.mp y]
    exact sm1.free hp2
 rw[ae] at e2
 have mat0:Mat H2 F ls M0:=⟨by rw[ha1,e1],by rw[e2];exact m0.len,e5,e3,e4⟩
 refine⟨_,rfl,F0,_,rfl, .inl (lenF sm1),(n:Int),by rw[ae,l0],by lia,by lia,?_⟩
 rw[dh]
 refine bH (lo:=0) (n:=n) (aGD H F0 n F ls) ⟨sm1,_,_,_,_,M0,rfl,mat0,q0,b0,y0⟩ (λk σ2 H3 hk ⟨s3,x2,x3,x4,x5,M,es,mM,qM,bM,yM⟩=>?_) λσ2 H3 ⟨s3,x2,x3,x4,x5,M,es,mM,qM,bM,yM⟩=>?_
 ·subst es
  rw[kd]
  refine⟨_,rfl,F0,_,rfl, .inl (lenF s3),(n:Int),by rw[ae,l0],by lia,by lia,?_⟩
  rw[dh]
  refine bH (lo:=0) (n:=n) (aFM H F0 n F ls k M) ⟨s3,_,_,_,M,rfl,mM,qM,λa b _ _=>by rw[if_neg (by lia)]⟩ (λi σ3 H4 hi ⟨s4,x3,x4,x5,M4,es,m4,q4,f4⟩=>?_) λσ3 H4 ⟨s4,x3,x4,x5,M4,es,m4,q4,f4⟩=>?_
  ·subst es
   rw[kd]
   refine⟨_,rfl,F0,_,rfl, .inl (lenF s4),(n:Int),by rw[ae,l0],by lia,by lia,?_⟩
   rw[dh]
   refine bH (lo:=0) (n:=n) (aGL H F0 n F ls k M i) ⟨s4,_,_,M4,rfl,m4,q4,f4⟩ (λj σ4 H5 hj ⟨s5,x4,x5,M5,es,m5,q5,f5⟩=>?_) λσ4 H5 ⟨s5,x4,x5,M5,es,m5,q5,f5⟩=>?_
   ·subst es
    rw[kd]
    refine aBi (t:=1) (si:=3) (sj:=2) m5 q5 rfl rfl rfl hi hk (aBi (t:=1) (si:=2) (sj:=4) m5 q5 rfl rfl rfl hk hj ?_)
    dsimp only[bC]
    refine aBi (t:=1) (si:=3) (sj:=4) m5 q5 rfl rfl rfl hi hj ⟨_,rfl,_,_,rfl,?_⟩
    have ik:=(aER hk bM f5 hi).1
    have kj:=(aER hk bM f5 hj).2
    refine aAf (t:=1) (si:=3) (sj:=4) m5 q5 rfl rfl rfl hi hj λl' H6 hl' e6' m6=>⟨?_,_,_,_,rfl,m6,jG q5 hi,λa b ha hb=>?_⟩
    ·intro c o e
     rw[e6',aK (aJ e (e6 l' hl'))]
     exact s5 _ _ e
    ·rw[tW q5 hi hj]
     have hij:at2 M5 i j=at2 M i j:=by rw[f5 i j hi hj,if_neg (by lia)]
     by_cases ce:a=i/\b=j
     ·rw[if_pos ce,hij,ik,kj]
      obtain⟨rfl,rfl⟩:=ce
      rw[if_pos (show a<a\/(a=a/\b<b+1) by lia)]
      split <;> lia
     ·rw[if_neg ce,f5 a b ha hb]
      by_cases cl:a<i\/(a=i/\b<j)
      ·rw[if_pos cl,if_pos (by lia)]
      ·rw[if_neg cl,if_neg (by lia)]
   ·subst es
    refine⟨s5,_,_,_,M5,rfl,m5,q5,λa b ha hb=>?_⟩
    rw[f5 a b ha hb]
    by_cases cl:a<i+1
    ·rw[if_pos (by lia),if_pos (.inl cl)]
    ·rw[if_neg (by lia),if_neg (by lia)]
  ·subst es
   obtain⟨b5,y5⟩:=aIK hk bM yM f4
   exact⟨s4,_,_,_,_,M4,rfl,m4,q4,b5,y5⟩
 ·subst es
  exact xD (t:=1) rfl mM qM (by lia) λp9 H' sm hS=>q M _ H' (s3.trans sm) qM bM yM hS
def e1 (K:aa)(bS bX bY:Sp):TS:=aG (aQ (aO bS [] E0 (aB (aC 0) (aB (aC 5) aH))) (aE 10)) (aG (cV (aP (tOp (gB K) (aC 4) (tC (.int 1)))) (aG (aQ (tOp bQ (tOp zD (aC 10) (tC (.int 2))) (tOp jY (aC 5) (tC (.int 1)))) (aE 10)) aF) aF) (aG (cV (tOr (aP (tOp (gB K) (aC 4) (tC (.int 2)))) (aP (tOp (gB K) (aC 4) (tC (.int 3))))) (aG (aQ (tCB aAd (aB (tOp jY (tOp (aL K) (tOp (aL K) (aC 7) (aC 8)) (tC (.int 0))) (tOp (aL K) (tOp (aL K) (aC 7) (aC 9)) (tC (.int 0)))) aH)) (aE 10)) aF) aF) (aG (cV (aP (tOp (gB K) (aC 4) (tC (.int 3)))) (aG (aQ (tOp (bC K) (aC 10) (tCB aAd (aB (tOp jY (tOp (aL K) (tOp (aL K) (aC 7) (aC 8)) (tC (.int 1))) (tOp (aL K) (tOp (aL K) (aC 7) (aC 9)) (tC (.int 1)))) aH))) (aE 10)) aF) aF) (aG (cV (aP (tOp (gB K) (aC 4) (tC (.int 4)))) (aG (aQ (tOp jY (aC 5) (tC (.int 1))) (aE 10)) aF) aF) (aG (aQ (tCB lT (aB (aC 10) (aB (tOp aFR (tC (.int 10)) (tC (.int 6))) aH))) (jZ (tOp (aL K) (aC 6) (aC 8)) (aC 9) cL)) (aG (aQ (tOp (aL K) (tOp (aL K) (aC 6) (aC 8)) (aC 9)) (jZ (tOp (aL K) (aC 6) (aC 9)) (aC 8) cL)) aF))))))
def e2 (K:aa)(bS bX bY:Sp):TS:=aG (cV (aP (tOp (gB K) (aC 4) (tC (.int 1)))) (aG (aQ (tOp bQ (tOp zD (aC 10) (tC (.int 2))) (tOp jY (aC 5) (tC (.int 1)))) (aE 10)) aF) aF) (aG (cV (tOr (aP (tOp (gB K) (aC 4) (tC (.int 2)))) (aP (tOp (gB K) (aC 4) (tC (.int 3))))) (aG (aQ (tCB aAd (aB (tOp jY (tOp (aL K) (tOp (aL K) (aC 7) (aC 8)) (tC (.int 0))) (tOp (aL K) (tOp (aL K) (aC 7) (aC 9)) (tC (.int 0)))) aH)) (aE 10)) aF) aF) (aG (cV (aP (tOp (gB K) (aC 4) (tC (.int 3)))) (aG (aQ (tOp (bC K) (aC 10) (tCB aAd (aB (tOp jY (tOp (aL K) (tOp (aL K) (aC 7) (aC 8)) (tC (.int 1))) (tOp (aL K) (tOp (aL K) (aC 7) (aC 9)) (tC (.int 1)))) aH))) (aE 10)) aF) aF) (aG (cV (aP (tOp (gB K) (aC 4) (tC (.int 4)))) (aG (aQ (tOp jY (aC 5) (tC (.int 1))) (aE 10)) aF) aF) (aG (aQ (tCB lT (aB (aC 10) (aB (tOp aFR (tC (.int 10)) (tC (.int 6))) aH))) (jZ (tOp (aL K) (aC 6) (aC 8)) (aC 9) cL)) (aG (aQ (tOp (aL K) (tOp (aL K) (aC 6) (aC 8)) (aC 9)) (jZ (tOp (aL K) (aC 6) (aC 9)) (aC 8) cL)) aF)))))
def e3 (K:aa)(bS bX bY:Sp):TS:=aG (cV (tOr (aP (tOp (gB K) (aC 4) (tC (.int 2)))) (aP (tOp (gB K) (aC 4) (tC (.int 3))))) (aG (aQ (tCB aAd (aB (tOp jY (tOp (aL K) (tOp (aL K) (aC 7) (aC 8)) (tC (.int 0))) (tOp (aL K) (tOp (aL K) (aC 7) (aC 9)) (tC (.int 0)))) aH)) (aE 10)) aF) aF) (aG (cV (aP (tOp (gB K) (aC 4) (tC (.int 3)))) (aG (aQ (tOp (bC K) (aC 10) (tCB aAd (aB (tOp jY (tOp (aL K) (tOp (aL K) (aC 7) (aC 8)) (tC (.int 1))) (tOp (aL K) (tOp (aL K) (aC 7) (aC 9)) (tC (.int 1)))) aH))) (aE 10)) aF) aF) (aG (cV (aP (tOp (gB K) (aC 4) (tC (.int 4)))) (aG (aQ (tOp jY (aC 5) (tC (.int 1))) (aE 10)) aF) aF) (aG (aQ (tCB lT (aB (aC 10) (aB (tOp aFR (tC (.int 10)) (tC (.int 6))) aH))) (jZ (tOp (aL K) (aC 6) (aC 8)) (aC 9) cL)) (aG (aQ (tOp (aL K) (tOp (aL K) (aC 6) (aC 8)) (aC 9)) (jZ (tOp (aL K) (aC 6) (aC 9)) (aC 8) cL)) aF))))
def e4 (K:aa)(bS bX bY:Sp):TS:=aG (cV (aP (tOp (gB K) (aC 4) (tC (.int 3)))) (aG (aQ (tOp (bC K) (aC 10) (tCB aAd (aB (tOp jY (tOp (aL K) (tOp (aL K) (aC 7) (aC 8)) (tC (.int 1))) (tOp (aL K) (tOp (aL K) (aC 7) (aC 9)) (tC (.int 1)))) aH))) (aE 10)) aF) aF) (aG (cV (aP (tOp (gB K) (aC 4) (tC (.int 4)))) (aG (aQ (tOp jY (aC 5) (tC (.int 1))) (aE 10)) aF) aF) (aG (aQ (tCB lT (aB (aC 10) (aB (tOp aFR (tC (.int 10)) (tC (.int 6))) aH))) (jZ (tOp (aL K) (aC 6) (aC 8)) (aC 9) cL)) (aG (aQ (tOp (aL K) (tOp (aL K) (aC 6) (aC 8)) (aC 9)) (jZ (tOp (aL K) (aC 6) (aC 9)) (aC 8) cL)) aF)))
def e5 (K:aa)(bS bX bY:Sp):TS:=aG (cV (aP (tOp (gB K) (aC 4) (tC (.int 4)))) (aG (aQ (tOp jY (aC 5) (tC (.int 1))) (aE 10)) aF) aF) (aG (aQ (tCB lT (aB (aC 10) (aB (tOp aFR (tC (.int 10)) (tC (.int 6))) aH))) (jZ (tOp (aL K) (aC 6) (aC 8)) (aC 9) cL)) (aG (aQ (tOp (aL K) (tOp (aL K) (aC 6) (aC 8)) (aC 9)) (jZ (tOp (aL K) (aC 6) (aC 9)) (aC 8) cL)) aF))
def e6 (K:aa)(bS bX bY:Sp):TS:=aG (aQ (tCB lT (aB (aC 10) (aB (tOp aFR (tC (.int 10)) (tC (.int 6))) aH))) (jZ (tOp (aL K) (aC 6) (aC 8)) (aC 9) cL)) (aG (aQ (tOp (aL K) (tOp (aL K) (aC 6) (aC 8)) (aC 9)) (jZ (tOp (aL K) (aC 6) (aC 9)) (aC 8) cL)) aF)
def aIA (p:Addr)(ls:List Addr)(H H':Hp):Prop:=∀b o,b≠p->b∉ls->H b=some o->H' b=some o
theorem aFP {a b: Nat}:eqD (.int (a:Int)) (.int (b:Int))=decide (a=b):=by
 rw[eqD]
 by_cases c:a=b
 ·rw[decide_eq_true c,c];simp
 ·rw[decide_eq_false c];simp;lia
section
variable {K:aa}{p l F:Addr}{ls:List Addr}{ns:List Int}{n:Nat}
structure Ro (K:aa)(G:Hp)(p l F:Addr)(ls:List Addr)(ns:List Int)(n:Nat)(H':Hp):Prop where
 ex:∃M,Quad M n/\Bs M n/\Sy M n/\Mat H' F ls M
 pen:Pen H' p l ns
 sl:aIA p ls G H'
theorem Ro.draw (h:Ro K G p l F ls ns n H')(hF:F≠p)(hl:∀x∈ls,x≠p)(hP:Pen H2 p l ns)(sx:SameX p H' H2):Ro K G p l F ls ns n H2:=by
 obtain⟨M,q,b,s,m⟩:=h.ex
 exact⟨⟨M,q,b,s,m.keep λc o hc e=>sx c o (by rcases hc with rfl | hc;exact hF;exact hl c hc) e⟩,hP,λc o hc hn e=>sx c o hc (h.sl c o hc hn e)⟩
variable {G:Hp}{x0 x1 x2:Option V}{way top i j A:Nat}{D:vS}{zs:List V}{R:List (List Int)}
structure Fx (K:aa)(G:Hp)(p l F:Addr)(ls:List Addr)(n A:Nat)(zs:List V)(R:List (List Int)):Prop where
 F:F≠p
 l:∀x∈ls,x≠p/\x≠l
 Ap:A≠p
 Al:A∉ls
 hA:G A=some (.lst zs)
 rows:Rows K G zs R
 two:R.length=n/\∀r∈R,∃a b,r=[a,b]
 pen:∃o,G p=some (.lst o)
 lst:∀x∈ls,∃o,G x=some (.lst o)
theorem aJT (fx:Fx K G p l F ls n A zs R)(sl:aIA p ls G H')(h:SqT K G b xs):SqT K H' b xs:=by
 obtain⟨o,ho⟩:=fx.pen
 have np:∀u,G b=some u->(∀ys,u ≠ .lst ys)->b≠p/\b∉ls:=λu e hu=>⟨λz=>by rw[z,ho] at e;exact hu _ (bo e).symm,λz=>by
  obtain⟨o',ho'⟩:=fx.lst b z
  rw[ho'] at e
  exact hu _ (bo e).symm⟩
 rcases h with(h | ⟨ob,h⟩) | h
 ·have:=np _ h (λys e=>by cases e)
  exact .inl (.inl (sl _ _ this.1 this.2 h))
 ·have:=np _ h (λys e=>by cases e)
  exact .inl (.inr ⟨ob,sl _ _ this.1 this.2 h⟩)
 ·exact .inr h
theorem uD {H': Hp}{σ: St}{t s k: Nat}{c: Nat}(hk:k<2)(fx:Fx K G p l F ls n A zs R)(sl:aIA p ls G H')(ht:σ[t]?=some (some (.ref A)))(hs:σ[s]?=some (some (.int (c:Int))))(hc:c<n)(q:∀v:Int,Q (.int v) H'):tOp (aL K) (tOp (aL K) (aC t) (aC s)) (tC (.int (k:Int))) σ H' Q:=by
 have hcR:c<R.length:=by rw[fx.two.1];exact hc
 obtain⟨a,b,e⟩:=fx.two.2 _ (fv hcR)
 obtain⟨d,e1,e2⟩:=fx.rows.2 c R[c] (ah hcR)
 have hA':=sl _ _ fx.Ap fx.Al fx.hA
 rw[e] at e2
 refine⟨_,ht,_,hs,ixL (j:=c) (.of hA') e1 ?_⟩
 match k,hk with
 |0,_=>exact ixT (j:=0) (aJT fx sl e2) rfl (q a)
 |1,_=>exact ixT (j:=1) (aJT fx sl e2) rfl (q b)
def StE (p:Addr)(x1 x2:Option V)(n way top:Nat)(F A:Addr)(i j:Nat)(x:Option V):St:=[some (.ref p),x1,x2,some (.int (n:Int)),some (.int (way:Int)),some (.int (top:Int)),some (.ref F),some (.ref A),some (.int (i:Int)),some (.int (j:Int)),x]
theorem aMH (fx:Fx K G p l F ls n A zs R)(ro:Ro K G p l F ls ns n H')(hi:i<n)(hj:j<n)(hij:i<j)(h0:0<=v)(q:∀x H2,Ro K G p l F ls ns n H2->D.nx (StE p x1 x2 n way top F A i j x) H2):e6 K iX (dY K) (dA K) D (StE p x1 x2 n way top F A i j (some (.int v))) H':=by
 obtain⟨M,qM,bM,sM,mM⟩:=ro.ex
 refine⟨_,rfl,10,6,rfl,rfl,⟨by decide,by decide,by decide⟩,_,_,rfl,?_⟩
 have hw:∃w:Int,(if((10:Int) ^ (6:Int).toNat)<v then((10:Int) ^ (6:Int).toNat) else v)=w/\0<=w/\w<=1000000:=by
  refine⟨_,rfl,?_⟩
  have:((10:Int) ^ (6:Int).toNat)=1000000:=by decide
  rw[this]
  split <;> lia
 obtain⟨w,ew,w0,w1⟩:=hw
 rw[ew]
 refine aAf (t:=6) (si:=8) (sj:=9) mM qM rfl rfl rfl hi hj λl1 H1 hl1 e1 m1=>?_
 have q1:=jG (j:=j) (v:=w) qM hi
 refine aBi (t:=6) (si:=8) (sj:=9) m1 q1 rfl rfl rfl hi hj ?_
 rw[tW qM hi hj,if_pos ⟨rfl,rfl⟩]
 refine aAf (t:=6) (si:=9) (sj:=8) m1 q1 rfl rfl rfl hj hi λl2 H2 hl2 e2 m2=>q _ H2 ⟨⟨_,jG q1 hj,(aIh bM sM qM hi hj w0 w1).1,(aIh bM sM qM hi hj w0 w1).2,m2⟩,?_,λc o hc hn e=>?_⟩
 ·rw[e2,e1]
  exact(ro.pen.upd (fx.l l1 hl1).1 (fx.l l1 hl1).2).upd (fx.l l2 hl2).1 (fx.l l2 hl2).2
 ·rw[e2,aK (λz=>hn (by rw[z];exact hl2)),e1,aK (λz=>hn (by rw[z];exact hl1))]
  exact ro.sl c o hc hn e
theorem aMl (fx:Fx K G p l F ls n A zs R)(ro:Ro K G p l F ls ns n H')(hi:i<n)(hj:j<n)(hij:i<j)(ht:2<=top)(h0:0<=v)(q:∀x H2,Ro K G p l F ls ns n H2->D.nx (StE p x1 x2 n way top F A i j x) H2):e5 K iX (dY K) (dA K) D (StE p x1 x2 n way top F A i j (some (.int v))) H':=by
 refine⟨_,rfl, .int (way:Int), .int 4,bg _,rfl,rfl,_,rfl,zY (λ_=>?_) λ_=>?_⟩
 ·exact⟨_,rfl,_,_,rfl,rfl,aMH fx ro hi hj hij (by lia) q⟩
 ·exact aMH fx ro hi hj hij h0 q
theorem aMz (fx:Fx K G p l F ls n A zs R)(ro:Ro K G p l F ls ns n H')(hi:i<n)(hj:j<n)(hij:i<j)(ht:2<=top)(h0:0<=v)(q:∀x H2,Ro K G p l F ls ns n H2->D.nx (StE p x1 x2 n way top F A i j x) H2):e4 K iX (dY K) (dA K) D (StE p x1 x2 n way top F A i j (some (.int v))) H':=by
 refine⟨_,rfl, .int (way:Int), .int 3,bg _,rfl,rfl,_,rfl,zY (λ_=>?_) λ_=>?_⟩
 ·refine⟨_,rfl,uD (t:=7) (s:=8) (k:=1) (by decide) fx ro.sl rfl rfl hi λa=>uD (t:=7) (s:=9) (k:=1) (by decide) fx ro.sl rfl rfl hj λb=>⟨_,_,rfl,rfl,_,rfl,?_⟩⟩
  exact aMl fx ro hi hj hij ht (by split <;> lia) q
 ·exact aMl fx ro hi hj hij ht h0 q
theorem aLR (fx:Fx K G p l F ls n A zs R)(ro:Ro K G p l F ls ns n H')(hi:i<n)(hj:j<n)(hij:i<j)(ht:2<=top)(h0:0<=v)(q:∀x H2,Ro K G p l F ls ns n H2->D.nx (StE p x1 x2 n way top F A i j x) H2):e3 K iX (dY K) (dA K) D (StE p x1 x2 n way top F A i j (some (.int v))) H':=by
 have go:(aG (aQ (tCB aAd (aB (tOp jY (tOp (aL K) (tOp (aL K) (aC 7) (aC 8)) (tC (.int 0))) (tOp (aL K) (tOp (aL K) (aC 7) (aC 9)) (tC (.int 0)))) aH)) (aE 10)) aF) { D with nx:=e4 K iX (dY K) (dA K) D } (StE p x1 x2 n way top F A i j (some (.int v))) H':=by
  refine uD (t:=7) (s:=8) (k:=0) (by decide) fx ro.sl rfl rfl hi λa=>uD (t:=7) (s:=9) (k:=0) (by decide) fx ro.sl rfl rfl hj λb=>⟨_,_,rfl,rfl,_,rfl,?_⟩
  exact aMz fx ro hi hj hij ht (by split <;> lia) q
 refine⟨_,rfl, .int (way:Int), .int 2,bg _,rfl,rfl,_,rfl,zY (λ_=>bW rfl go) λ_=>⟨_,rfl, .int (way:Int), .int 3,bg _,rfl,rfl,_,rfl,zY (λ_=>go) λ_=>aMz fx ro hi hj hij ht h0 q⟩⟩
theorem aOv (fx:Fx K G p l F ls n A zs R)(ro:Ro K G p l F ls ns n H')(hi:i<n)(hj:j<n)(hij:i<j)(ht:2<=top)(ht2:top<=1000001)(h0:0<=v)(q:∀x H2,Ro K G p l F ls ns n H2->D.nx (StE p x1 x2 n way top F A i j x) H2):e2 K iX (dY K) (dA K) D (StE p x1 x2 n way top F A i j (some (.int v))) H':=by
 refine⟨_,rfl, .int (way:Int), .int 1,bg _,rfl,rfl,_,rfl,zY (λ_=>?_) λ_=>?_⟩
 ·refine⟨_,rfl,_,_,rfl,rfl,by show(0:Int)<2;decide,_,rfl,_,_,rfl,rfl, .inl (.inr ⟨by lia,by lia⟩),?_⟩
  exact aLR fx ro hi hj hij ht (i6 (zv _ (by decide)) (by lia)) q
 ·exact aLR fx ro hi hj hij ht h0 q
theorem aNW (fx:Fx K G p l F ls n A zs R)(ro:Ro K G p l F ls ns n H')(hi:i<n)(hj:j<n)(hij:i<j)(ht:2<=top)(ht2:top<=1000001)(q:∀x H2,Ro K G p l F ls ns n H2->D.nx (StE p x1 x2 n way top F A i j x) H2):e1 K iX (dY K) (dA K) D (StE p x1 x2 n way top F A i j x) H':=by
 refine⟨_,rfl,_,rfl,p,l,ns,top,rfl,ro.pen,by lia,bh ht2 (by decide),λr H2 hr hP sx=>?_⟩
 exact aOv fx (ro.draw fx.F (λx hx=>(fx.l x hx).1) hP sx) hi hj hij ht ht2 (by lia) q
def aIl (K:aa):Sp:=λvs H Q _=>∃(p l:Addr) (ns:List Int) (lo d:Nat),vs=[.ref p, .int (lo:Int), .int ((lo+d:Nat):Int)]/\1<=lo/\lo+d<=8/\Pen H p l ns/\∀T n v H',lo<=n->n<=lo+d->Quad T n->Bs T n->Sy T n->Sh K H' (uF T) v->Pen H' p l ns->SameX p H H'->Q v H'
def aHJ (n:Nat)(H2:Hp)(F:Addr)(i:Nat)(L:List V)(H':Hp):Prop:=∃ls:List Addr,L=ls.map V.ref/\ls.length=i/\ls.Nodup/\F∉ls/\(∀l∈ls,H' l=some (.lst (dy n (.int 0))))/\∀l∈ls,H2 l=none
def aGl (K:vy)(p l:Addr)(ns:List Int)(top:Nat)(H3:Hp)(A:Addr)(i:Nat)(σ':St)(H':Hp):Prop:=(∃y0,σ'=[y0,some (.ref p),some (.int (top:Int))])/\Pen H' p l ns/\SameX p H3 H'/\∃L R,H' A=some (.lst L)/\Rows K H' L R/\R.length=i/\∀r∈R,∃a b,r=[a,b]
def aFS (K:vy)(p l:Addr)(ns:List Int)(lo d n way top:Nat)(F:Addr)(ls:List Addr)(A:Addr)(H6:Hp)(k:Nat)(σ':St)(H':Hp):Prop:=Ro K H6 p l F ls ns n H'/\∃x8 x9 x10,σ'=[some (.ref p),some (.int (lo:Int)),some (.int ((lo+d:Nat):Int)),some (.int (n:Int)),some (.int (way:Int)),some (.int (top:Int)),some (.ref F),some (.ref A),x8,x9,x10]
theorem aHb:∀vs H Q E,aIl K vs H Q E->lG K iX (dY K) (dA K) { nx:=λ_ H'=>Q .non H',rt:=Q } (aW ["feed","least","most","many","way","top","rows","spots","i","j","found"] vs) H:=by
 intro vs H Q E h
 obtain⟨p,l,ns,lo,d,rfl,lo1,lo8,hP0,q⟩:=h
 refine⟨_,rfl,_,rfl,_,rfl,_,rfl,_,_,rfl,rfl,p,l,ns,d+1,by show[V.ref p, .int (((lo+d:Nat):Int) - (lo:Int)+1)]=[V.ref p, .int ((d+1:Nat):Int)];rw[show((lo+d:Nat):Int) - (lo:Int)+1=((d+1:Nat):Int) by lia],hP0,by lia,bh (show d+1<=9 by lia) (by decide),λr0 H0 hr0 hP1 sx0=>?_⟩
 dsimp only[bC]
 obtain⟨n,en⟩:∃n:Nat,n=lo+r0:=⟨_,rfl⟩
 rw[show(lo:Int)+(r0:Int)=(n:Int) by lia]
 refine⟨_,rfl,p,l,ns,8,rfl,hP1,by decide,by decide,λway H1 hway hP2 sx1=>?_⟩
 refine⟨show 4<=bx by decide,λt0 ht0=>⟨_,rfl,p,l,ns,4,rfl,hP2.x (aD ht0 _),by decide,by decide,λr2 H2 hr2 hP3 sx2=>?_⟩⟩
 have et0:H2 t0=some (.lst [.int 2, .int 5, .int 30, .int 1000001]):=sx2 _ _ (hP2.ne ht0).1 aA
 have sx02:SameX p H H2:=((sx0.trans sx1).trans (aD ht0 _).x).trans sx2
 have ctop:∃top:Nat,[V.int 2, .int 5, .int 30, .int 1000001][r2]?=some (.int (top:Int))/\2<=top/\top<=1000001:=by
  match r2,hr2 with
  |0,_=>exact⟨2,rfl,by decide,by decide⟩
  |1,_=>exact⟨5,rfl,by decide,by decide⟩
  |2,_=>exact⟨30,rfl,by decide,by decide⟩
  |3,_=>exact⟨1000001,rfl,by decide,by decide⟩
 obtain⟨top,etop,top2,topb⟩:=ctop
 refine ixL (j:=r2) (.of et0) etop ?_
 refine⟨_,rfl,(n:Int),rfl,by lia,by lia,λF hF=>?_⟩
 rw[dh]
 refine aDI (vars:=[0]) (aHJ n H2 F) (by decide) (by show 0<2;decide) ⟨[],rfl,rfl,tx,by simp,by simp,by simp⟩ hF (λi σ1 H3 L D hi l1 ag1 s1 sm1 ha1 ⟨ls,e1,e2,e3,e4,e5,e6⟩ hD=>?_) λσ1 H3 L sm1 ha1 ⟨ls,e1,e2,e3,e4,e5,e6⟩=>?_
 ·have m1:σ1[1]?=some (some (.int (n:Int))):=(ag1 1 (by decide)).trans rfl
  refine⟨by show 1<=bx;decide,λp' hp=>⟨_,m1,p',(n:Int),_,rfl,rfl,aA,by lia,by lia,?_,λp2 hp2=>?_⟩⟩
  ·rw[dh]
   exact de (show 1*n<=9 by lia) (by decide)
  have hpF:p'≠F:=λe=>by rw[e,ha1] at hp;cases hp
  have hF2:upd H3 p' (.lst [V.int 0]) F=some (.lst L):=by rw[aK (gy hpF)];exact ha1
  have hp2F:p2≠F:=λe=>by rw[e,hF2] at hp2;cases hp2
  rw[dh,List.flatten_replicate_singleton]
  refine⟨L,by rw[aK (gy hp2F)];exact hF2,bh (show L.length<=9 by rw[e1,ae];lia) (by decide),?_⟩
  have keep:∀b o,b≠F->H3 b=some o->upd (upd (upd H3 p' (.lst [V.int 0])) p2 (.lst (dy n (V.int 0)))) F (.lst (L++[V.ref p2])) b=some o:=λb o hb e=>by
   have e':upd H3 p' (.lst [V.int 0]) b=some o:=by rw[aK (aJ e hp)];exact e
   rw[aK hb,aK (aJ e' hp2)];exact e'
  refine hD σ1 _ (L++[.ref p2]) l1 ag1 (λb o e=>keep b o (aJ e hF) (sm1 _ _ e)) aA ⟨ls++[p2],by rw[e1,bj];rfl,by rw[au,e2];rfl,?_,?_,?_,?_⟩
  ·refine aAv e3 λhmem=>?_
   have g:=e5 p2 hmem
   have g':upd H3 p' (.lst [V.int 0]) p2=some (.lst (dy n (.int 0))):=by rw[aK (aJ g hp)];exact g
   rw[g'] at hp2;cases hp2
  ·intro hmem
   rcases di.mp hmem with y | y
   ·exact e4 y
   ·exact hp2F (cq.mp y).symm
  ·intro x hx
   rcases di.mp hx with y | y
   ·exact keep x _ (λe=>e4 (e ▸ y)) (e5 x y)
   ·rw[cq.mp y,aK hp2F]
    exact aA
  ·intro x hx
   rcases di.mp hx with y | y
   ·exact e6 x y
   ·rw[cq.mp y]
    exact(sm1.trans (aD hp _)).free hp2
 have mat0:Mat H3 F ls (dy n (dy n 0)):=by
  refine⟨by rw[ha1,e1],by rw[e2,lq],λi x r a b=>?_,e3,e4⟩
  have:=e5 x (ar a)
  rw[mx] at b
  split at b
  ·cases b
   rw[this,List.map_replicate]
  ·cases b
 have quad0:Quad (dy n (dy n (0:Int))) n:=⟨lq,λr hr=>by rw[List.eq_of_mem_replicate hr,lq]⟩
 have hP4:=hP3.x sm1
 have nFp:=(hP3.ne hF).1
 have nls:∀x∈ls,x≠p/\x≠l:=λx hx=>hP3.ne (e6 x hx)
 refine⟨_,rfl,(n:Int),rfl,by lia,by lia,λA hA=>?_⟩
 rw[dh]
 have nA:=hP4.ne hA
 have nAls:A∉ls:=λh=>by have:=e5 A h;rw[this] at hA;cases hA
 refine bH (lo:=0) (n:=n) (aGl K p l ns top H3 A) ⟨⟨_,rfl⟩,hP4.x (aD hA _),(aD hA _).x,[],[],aA,Rows.nil,rfl,(λ_ z=>nomatch z)⟩ (λi σ2 H5 hi ⟨⟨y0,es⟩,hP5,sx5,L5,R5,hA5,r5,z5,t5⟩=>?_) λσ2 H5 ⟨⟨y0,es⟩,hP5,sx5,L5,R5,hA5,r5,z5,t5⟩=>?_
 ·subst es
  refine⟨_,rfl,_,rfl,p,l,ns,top,rfl,hP5,by lia,bh topb (by decide),λra H6 _ hP6 sx6=>?_⟩
  refine⟨_,rfl,_,rfl,p,l,ns,top,rfl,hP6,by lia,bh topb (by decide),λrb H7 _ hP7 sx7=>⟨show 2<=bx by decide,λu hu=>?_⟩⟩
  have mu:=aD hu (.tup [V.int (ra:Int), .int (rb:Int)])
  have sx67:=sx6.trans sx7
  obtain⟨k5,z5',hp5⟩:=hP5
  have hA7:=mu _ _ (sx67 _ _ nA.1 hA5)
  have r7:Rows K (upd H7 u (.tup [V.int (ra:Int), .int (rb:Int)])) L5 R5:=(r5.map λb rr hb=>xQ hb hp5.1 sx67).same mu
  refine⟨L5,hA7,bh (show L5.length<=9 by rw[r5.1];lia) (by decide),⟨_,rfl⟩,(hP7.x mu).upd nA.1 nA.2,?_,_,R5++[[(ra:Int),(rb:Int)]],aA,?_,by rw[au,z5];rfl,λr hr=>?_⟩
  ·intro c o hc e
   rw[aK (aJ e hA)]
   exact mu _ _ (sx67 _ _ hc (sx5 _ _ hc e))
  ·exact Rows.put (Rows.snoc r7 (.of aA)) hA7
  ·rcases di.mp hr with hr | hr
   ·exact t5 r hr
   ·rw[cq.mp hr];exact⟨_,_,rfl⟩
 subst es
 have mat5:Mat H5 F ls (dy n (dy n 0)):=mat0.keep λc o hc e=>sx5 c o (by rcases hc with rfl | hc;exact nFp;exact(nls c hc).1) e
 refine⟨_,rfl,n,rfl,by lia,λFp ys M H6 m6 hFp0 hFp rp gM _ zM=>?_⟩
 refine⟨Fp,rfl, .inl ⟨⟨_, .of hFp⟩,?_⟩⟩
 obtain⟨k6,z6,hp6⟩:=hP5.x m6
 have fx:Fx K H6 p l F ls n A L5 R5:=⟨nFp,nls,nA.1,nAls,m6 _ _ hA5,r5.same m6,⟨z5,t5⟩,⟨_,hp6.1⟩,λx hx=>⟨_,m6 _ _ (sx5 _ _ (nls x hx).1 (e5 x hx))⟩⟩
 have nFpp:Fp≠p:=(hP5.ne hFp0).1
 have nFpl:Fp∉ls:=λh=>by
  have:=sx5 _ _ (nls Fp h).1 (e5 Fp h)
  rw[hFp0] at this
  cases this
 have ro0:Ro K H6 p l F ls ns n H6:=⟨⟨_,quad0,λi j _ _=>by rw[aEq];lia,λi j _ _=>by rw[aEq,aEq],mat5.same m6⟩,⟨k6,z6,hp6⟩,λc o _ _ e=>e⟩
 refine aS (K:=K) (a:=Fp) (xs:=ys) (aFS K p l ns lo d n way top F ls A H6) ⟨ro0,_,_,_,rfl⟩ (λk σ' H' _ ⟨ro,_⟩ => .of (ro.sl _ _ nFpp nFpl hFp)) (λk x σ' H' hx ⟨ro,x8,x9,x10,es⟩=>?_) λσ' H' ⟨ro,x8,x9,x10,es⟩=>?_
 ·subst es
  obtain⟨e,b,he,rfl,hb⟩:=tH rp hx
  obtain⟨g1,g2⟩:=gM e (ar he)
  refine⟨b,_,rfl,aJT fx ro.sl hb,rfl,aU e.1,[aU e.2],rfl,aU e.2,[],rfl,rfl,?_⟩
  exact aNW (way:=way) (x:=x10) fx ro (by lia) g2 g1 top2 topb λx H7 ro7=>⟨ro7,_,_,_,rfl⟩
 ·subst es
  obtain⟨M',qM,bM,sM,mM⟩:=ro.ex
  have sxE:SameX p H H':=λc o hc e=>by
   have c3:H3 c=some o:=sm1 _ _ (sx02 _ _ hc e)
   have hn:c∉ls:=λh=>by
    have h2:=e6 c h
    rw[sx02 _ _ hc e] at h2
    cases h2
   exact ro.sl c o hc hn (m6 _ _ (sx5 _ _ hc c3))
  refine⟨_,rfl,_,_,rfl,rfl,_,rfl,zY (λ_=>?_) λ_=>?_⟩
  ·exact⟨_,rfl,F,ls,M',n,rfl,mM,qM,bM,sM,by lia,by lia,λT v H8 s8 qT bT sT hT=>q T n v H8 (by lia) (by lia) qT bT sT hT (ro.pen.x s8) (sxE.trans s8.x)⟩
  ·exact xD (t:=6) rfl mM qM (by lia) λp9 H8 s8 hT=>q M' n _ H8 (by lia) (by lia) qM bM sM hT (ro.pen.x s8) (sxE.trans s8.x)
end
def Ev (T:List (List Int))(n:Nat):Prop:=∀i j,i<n->j<n->at2 T i j=at2 T j i
def eN (T:List (List Int))(n:Nat):List Bool:=(ao n).flatMap λi=>(ao i).flatMap λj=>[at2 T i j == at2 T j i]
def aLC (K:aa)(f:List (List Int)->Nat->Bool):Sp:=λvs H Q _=>∃(v:V) (T:List (List Int)) (n:Nat),vs=[v]/\Sh K H (uF T) v/\Quad T n/\1<=n/\n<=8/\∀H',Same H H'->Q (.bl (f T n)) H'
theorem aJB:∀vs H Q E,aLC K (λT n=>(eN T n).all id) vs H Q E->yS K { nx:=λ_ H'=>Q .non H',rt:=Q } (aW ["table","many"] vs) H:=by
 intro vs H Q E h
 obtain⟨v,T,n,rfl,hS,hq,h1,hn,q⟩:=h
 obtain⟨a,rs,rfl,ha,hl,hrow⟩:=id hS.tab
 have hl:rs.length=n:=hl.trans hq.len
 refine⟨_,rfl,a,rs,rfl, .inr ha,?_⟩
 rw[hl]
 refine⟨_,rfl,(n:Int),rfl,by lia,by lia,λacc hacc=>?_⟩
 rw[dh]
 refine bN [0,1] ((eN T n).map V.bl) hacc ?_ ?_ λσ' H' sm hl'=>⟨acc,eN T n,rfl, .inl (.of hl'),q H' sm⟩
 ·rw[ae]
  have:=bP (λi=>(ao i).flatMap λj=>[at2 T i j == at2 T j i]) 8 n λi hi=>by
   have:=bP (λj=>[at2 T i j == at2 T j i]) 1 i λ_ _=>bc _
   lia
  unfold eN
  lia
 ·refine Emits.cast (L:=(ao n).flatMap λi=>(ao i).flatMap λj=>[V.bl (at2 T i j == at2 T j i)]) ?_ (by unfold eN;simp only[lC,cf,og])
  refine gS (by decide) (by show 0<3;decide) λi σ1 H1 hi l1 ag1 s1 sx1 _=>?_
  rw[kd] at s1
  refine Emits.mono (vars:=[1]) (yO (by decide) (by rw[l1];show 1<3;decide) (by lia) (λQ hQ=>⟨_,s1,hQ H1 (Same.refl _)⟩) λj σ2 H2 hj l2 ag2 s2 sx2 _=>?_) (by simp)
  have t2:σ2[2]?=some (some (.ref a)):=(ag2 2 (by decide)).trans ((ag1 2 (by decide)).trans rfl)
  have u1:σ2[0]?=some (some (.int (i:Int))):=(ag2 0 (by decide)).trans s1
  have S2:=hS.same (bA hacc (sx1.trans sx2))
  refine cH λQ hQ=>?_
  refine pE t2 u1 s2 S2 hq (by lia) (by lia) (pE t2 s2 u1 S2 hq (by lia) (by lia) ⟨.int _, .int _,bg _,rfl,rfl,?_⟩)
  unfold eqD
  exact hQ H2 (Same.refl _)
theorem nU (h:Ev T n): (eN T n).all id=true:=by
 unfold eN
 rw[qV]
 refine e9.mpr λi hi=>?_
 rw[qV]
 refine e9.mpr λj hj=>?_
 have hi:=az.mp hi
 have hj:=az.mp hj
 rw[h i j hi (by lia)]
 simp
abbrev aNN (K:aa):Sp:=aLC K (λT n=>(eN T n).all id)
def aND (T:List (List Int))(L:List (Nat×Nat)):Int:=(L.map λe=>at2 T e.1 e.2).sum
def aPc (K:aa):Sp:=λvs H Q _=>∃(v:V) (a:Addr) (T:List (List Int)) (n:Nat) (ys:List V) (L:List (Nat×Nat)),vs=[v, .ref a]/\Sh K H (uF T) v/\Quad T n/\H a=some (.lst ys)/\Rows K H ys (prN L)/\(∀e∈L,e.1<n/\e.2<n)/\L.length<=64/\∀H',Same H H'->Q (.int (aND T L)) H'
def aGH (H:Hp)(v:V)(T:List (List Int))(ys:List V)(L:List (Nat×Nat))(A:Addr)(i:Nat)(σ':St)(H':Hp):Prop:=i<=ys.length/\Same H H'/\(∃x0 x1,σ'=[x0,x1,some v])/\H' A=some (.lst (((L.take i).map λe=>at2 T e.1 e.2).map V.int))
theorem aOh:∀vs H Q E,aPc K vs H Q E->tI K { nx:=λ_ H'=>Q .non H',rt:=Q } (aW ["table","ties"] vs) H:=by
 intro vs H Q E h
 obtain⟨v,a,T,n,ys,L,rfl,hS,qT,ha,hr,hL,z,q⟩:=h
 have yl:ys.length=L.length:=by rw[hr.1,dU]
 refine⟨_,rfl,a,rfl, .inl ⟨⟨_, .of ha⟩,λA hA=>?_⟩⟩
 refine aS (K:=K) (a:=a) (xs:=ys) (aGH H v T ys L A) ⟨bg _,aD hA _,⟨_,_,rfl⟩,aA⟩ (λi σ1 H1 _ ⟨_,s1,_⟩ => .of (s1 _ _ ha)) (λi x σ1 H1 hx ⟨_,s1,⟨x0,x1,es⟩,hA1⟩=>?_) λσ1 H1 ⟨_,s1,_,hA1⟩=>?_
 ·subst es
  have hi:i<ys.length:=(ai.mp hx).1
  obtain⟨e,b,he,rfl,hb⟩:=tH (hr.same s1) hx
  obtain⟨g1,g2⟩:=hL e (ar he)
  refine⟨b,_,rfl,hb,rfl,aU e.1,[aU e.2],rfl,aU e.2,[],rfl,rfl,?_⟩
  refine pE (t:=2) (si:=0) (sj:=1) rfl rfl rfl (hS.same s1) qT g1 g2 ⟨_,hA1,?_,hi,bB hA s1,⟨_,_,rfl⟩,?_⟩
  ·rw[ae,ae,c9]
   exact bh (show _<=64 by lia) (by decide)
  ·rw[aA,e8,he,bj,bj]
   rfl
 ·rw[yl,fc] at hA1
  exact⟨A,_,rfl, .inl (.of hA1),q H1 s1⟩
def aHk (K:vy)(vars:List Nat)(acc:Addr)(σ:St)(H:Hp)(xs:List V)(L:Nat->List (List Int))(R:List (List Int))(i:Nat)(σ':St)(H':Hp):Prop:=i<=xs.length/\σ'.length=σ.length/\Agree vars σ σ'/\SameX acc H H'/\∃pre',H' acc=some (.lst pre')/\Rows K H' pre' (R++(ao i).flatMap L)
theorem aEN (hj:j∈vars)(hjl:j<σ.length)(hs:∀H',SameX acc H H'->SqL K H' a xs)(h:∀i x σ' H',xs[i]?=some x->σ'.length=σ.length->Agree vars σ σ'->σ'[j]?=some (some x)->SameX acc H H'->EmR K vars tb acc σ' H' (L i)):
  EmR K vars (cX (Itl K a) (aE j) tb) acc σ H ((ao xs.length).flatMap L):=by
 intro D pre R ha hR hz hd
 refine aS (K:=K) (a:=a) (xs:=xs) (g:=aE j) (D:=D) (aHk K vars acc σ H xs L R) ⟨bg _,rfl,Agree.refl _ _,SameX.refl _ _,pre,ha,by simpa using hR⟩ (λi σ1 H1 _ ⟨_,_,_,sx1,_⟩=>hs H1 sx1) (λi x σ1 H1 hx ⟨_,hl1,ag1,sx1,pre1,h1,r1⟩=>?_) λσ1 H1 ⟨_,hl1,ag1,sx1,pre1,h1,r1⟩=>hd σ1 H1 pre1 hl1 ag1 sx1 h1 r1
 have hi:i<xs.length:=(ai.mp hx).1
 have hle:=bD L (show i+1<=xs.length from hi)
 rw[aI,au] at hle
 refine h i x (σ1.set j (some x)) H1 hx (by rw[c8];exact hl1) (ag1.trans (Agree.set hj _)) (cS (by lia)) sx1 _ pre1 _ h1 r1 (by rw[au];lia) λσ' H' pre' hl ag sx h2 r2=>⟨hi,hl.trans ((c8 ..).trans hl1),(ag1.trans (Agree.set hj _)).trans ag,sx1.trans sx,pre',h2,by rw[aI,<- gq];exact r2⟩
theorem EmR.mono (h:EmR K vars tb acc σ H L)(hs:∀k∈vars,k∈vars'):EmR K vars' tb acc σ H L:=
 λD pre R ha hR hz hd=>h D pre R ha hR hz λσ' H' pre' hl ag sx h1 h2=>hd σ' H' pre' hl (λk hk=>ag k λz=>hk (hs k z)) sx h1 h2
def mm (e:Nat×Nat):Nat×Nat:=(min e.1 e.2,max e.1 e.2)
theorem aOX {a b: Nat}: (if(b:Int)<(a:Int) then(b:Int) else(a:Int))=((min a b:Nat):Int):=by split <;> lia
theorem aKF {a b: Nat}: (if(b:Int) > (a:Int) then(b:Int) else(a:Int))=((max a b:Nat):Int):=by split <;> lia
theorem aIg (s:Sy T m):∀{es:List (Nat×Nat)},(∀e∈es,e.1<m/\e.2<m)->aND T (es.map mm)=(wts (at2 T) es).sum
 |[],_=>rfl
 |e :: es,h=>by
  have ih:=aIg s (es:=es) λx hx=>h x (ay _ hx)
  have he:=h e (by simp)
  have e1:at2 T (mm e).1 (mm e).2=at2 T e.1 e.2:=by
   unfold mm
   rcases Br e.1 e.2 with c | c
   ·show at2 T (min e.1 e.2) (max e.1 e.2)=_
    rw[ph c,Nat.max_eq_right c]
   ·show at2 T (min e.1 e.2) (max e.1 e.2)=_
    rw[Nat.min_eq_right c,Nat.max_eq_left c]
    exact s _ _ he.2 he.1
  unfold aND at ih ⊢
  rw[cf,cf,dz,ih,e1]
  rfl
theorem aMR (h:lexL (a :: r) (b :: q)=false):b<=a:=by
 rw[lexL] at h
 by_cases e:a=b
 ·lia
 ·rw[if_neg e] at h
  have:=of_decide_eq_false h
  lia
def aIa (K : aa)(C : Addr):Sp := λvs H Q E => ∃(v : V) (T : List (List Int)) (m : Nat), vs = [v] /\ Sh K H (uF T) v /\ Quad T m /\ 1 <= m /\ m <= 8 /\
  ((Sy T m /\ ∀p tl us es ys L H', Same H H' -> H tl = none -> H' p = some (.tup [.int (wts (at2 T) es).sum, .ref tl]) -> Gr us es -> uO (at2 T) us (wts (at2 T) es) -> us.Perm (ao m) -> H' tl = some (.lst ys) -> Rows K H' ys (prN L) -> L.Perm (es.map mm) -> (prN L).Pairwise (λa b => lexL b a = false) -> Q (.ref p) H') \/
   ((eN T m).all id = false /\ ∀H', Same H H' -> E (.ref C) none H'))
theorem aMK:∀q∈prN L,q≠[]:=λq hq=>by
 obtain⟨e,_,rfl⟩:=b6.mp hq
 simp
theorem aBM (h:R.Perm (prN M)):∃M',R=prN M'/\M'.Perm M:=by
 let un:List Int->Nat×Nat:=λr=>((r.getD 0 0).toNat,(r.getD 1 0).toNat)
 have hu:∀e:Nat×Nat,un [(e.1:Int),(e.2:Int)]=e:=λe=>by
  show(((e.1:Int)).toNat,((e.2:Int)).toNat)=e
  simp
 refine⟨R.map un,?_,?_⟩
 ·unfold prN
  rw[dw]
  symm
  have:∀r∈R,((λe:Nat×Nat=>[(e.1:Int),(e.2:Int)])∘un) r=r:=λr hr=>by
   obtain⟨e,_,rfl⟩:=b6.mp (h.mem_iff.mp hr)
   show[((un [(e.1:Int),(e.2:Int)]).1:Int),((un [(e.1:Int),(e.2:Int)]).2:Int)]=_
   rw[hu]
  rw[gw this,Ag]
 ·have:=h.map un
  unfold prN at this
  rw[dw] at this
  have e:M.map (un∘λe:Nat×Nat=>[(e.1:Int),(e.2:Int)])=M:=by
   have:∀e∈M,(un∘λe:Nat×Nat=>[(e.1:Int),(e.2:Int)]) e=e:=λe _=>hu e
   rw[gw this,Ag]
  rw[e] at this
  exact this
theorem aJK:∀vs H Q E,aIa K C vs H Q E->lL K C E (aNN K) (aPc K) { nx:=λ_ H'=>Q .non H',rt:=Q } (aW ["table","ties","inside","outside","way","one","other"] vs) H:=by
 intro vs H Q E h
 obtain⟨v,T,m,rfl,hS,qT,m1,m8,⟨sy,q⟩ | ⟨nev,q⟩⟩:=h
 rotate_left
 ·refine⟨_,rfl,v,T,m,rfl,hS,qT,m1,m8,λH0 s0=>⟨_,rfl,?_⟩⟩
  exact bW (by show(!(eN T m).all id)=true;rw[nev];rfl) (q H0 s0)
 refine⟨_,rfl,v,T,m,rfl,hS,qT,m1,m8,λH0 s0=>⟨_,rfl,?_⟩⟩
 refine aV (by show(!(eN T m).all id)=false;rw[nU sy];rfl) ?_
 obtain⟨a,rs,rfl,ha,hrl,hrow⟩:=id hS.tab
 have hrl:rs.length=m:=hrl.trans qT.len
 refine⟨show 0<=bx by decide,λF1 hF1=>⟨show 1<=bx by decide,λF2 hF2=>?_⟩⟩
 have v1:=aD hF1 (.lst [])
 have v2:=aD hF2 (.lst [.int 0])
 refine⟨_,rfl,a,rs,rfl, .inr (((s0.trans v1).trans v2).tup ha), .inr ⟨_,_,rfl,λpr hpr=>?_⟩⟩
 rw[hrl]
 have v3:=aD hpr (.rng 1 (m:Int))
 refine .inr ⟨pr,1,_,rfl,aA,⟨by lia,by lia,by lia,by lia,by lia⟩,λF3 hF3=>?_⟩
 have er:(aFg 1 (m:Int)).map V.int=((ao (m - 1)).map (· + 1)).map aU:=by
  unfold aFg
  rw[dw,dw,show((m:Int) - 1).toNat=m - 1 by lia]
  refine gw λi _=>?_
  show V.int (1+(i:Int))=V.int ((i+1:Nat):Int)
  congr 1
  lia
 rw[er]
 have v4:=aD hF3 (.lst (((ao (m - 1)).map (· + 1)).map aU))
 have hF1':=v4 _ _ (v3 _ _ (v2 _ _ (show upd H0 F1 (.lst []) F1=some (.lst []) from aA)))
 have hF2':=v4 _ _ (v3 _ _ (show upd (upd H0 F1 (.lst [])) F2 (.lst [.int 0]) F2=some (.lst [.int 0]) from aA))
 have hF3':upd (upd (upd (upd H0 F1 (.lst [])) F2 (.lst [.int 0])) pr (.rng 1 (m:Int))) F3 (.lst (((ao (m - 1)).map (· + 1)).map aU)) F3=some (.lst (((ao (m - 1)).map (· + 1)).map aU)):=aA
 have n12:F1≠F2:=aJ (show upd H0 F1 (.lst []) F1=some (.lst []) from aA) hF2
 have n13:F1≠F3:=aJ (v3 _ _ (v2 _ _ (show upd H0 F1 (.lst []) F1=some (.lst []) from aA))) hF3
 have n23:F2≠F3:=aJ (v3 _ _ (show upd (upd H0 F1 (.lst [])) F2 (.lst [.int 0]) F2=some (.lst [.int 0]) from aA)) hF3
 have h1H:H F1=none:=s0.free hF1
 have h2H:H F2=none:=(s0.trans v1).free hF2
 have h3H:H F3=none:=(((s0.trans v1).trans v2).trans v3).free hF3
 have s4:=(((s0.trans v1).trans v2).trans v3).trans v4
 generalize upd (upd (upd (upd H0 F1 (.lst [])) F2 (.lst [.int 0])) pr (.rng 1 (m:Int))) F3 (.lst (((ao (m - 1)).map (· + 1)).map aU))=G at *
 refine⟨λk σ' H'=>∃(us os:List Nat) (es:List (Nat×Nat)) (ys:List V) (x4 x5 x6:Option V),σ'=[some (.ref a),some (.ref F1),some (.ref F2),some (.ref F3),x4,x5,x6]/\Same H H'/\H' F1=some (.lst ys)/\Rows K H' ys (prN (es.map mm))/\H' F2=some (.lst (us.map aU))/\H' F3=some (.lst (os.map aU))/\Gr us es/\(us++os).Perm (ao m)/\(∀k w,(wts (at2 T) es)[k]?=some w->∀x∈us.take (k+1),∀y,y∈us.drop (k+1)\/y∈os->w<=at2 T x y)/\os.length=k,
  ⟨m - 1,[0],(ao (m - 1)).map (· + 1),[],[],none,none,none,rfl,s4,hF1',Rows.nil,hF2',hF3', .one 0,?_,(λk w z=>by cases z),by simp⟩,?_⟩
 ·obtain⟨j,rfl⟩:∃j,m=j+1:=⟨m - 1,by lia⟩
  rw[so]
  exact List.Perm.refl _
 rintro k σ' H1 ⟨us,os,es,ys,x4,x5,x6,rfl,s1,g1,g2,g3,g4,gr,pm,lw,rfl⟩
 have ltm:∀x,x∈us\/x∈os->x<m:=λx hx=>az.mp (pm.mem_iff.mp (di.mpr hx))
 have lel:=gr.len
 have ltot:us.length+os.length=m:=by rw[<- au,pm.length_eq,br]
 have nd:=pm.nodup_iff.mpr ji
 rw[tw] at nd
 have emem:∀e∈es,e.1<m/\e.2<m:=λe he=>⟨ltm _ (.inl (gr.mem e he).1),ltm _ (.inl (gr.mem e he).2.1)⟩
 refine⟨_,rfl,!(os.map aU).isEmpty,?_,?_⟩
 ·exact .inl ⟨_, .of g4,rfl⟩
 cases os with
 |nil=>
  refine aV rfl ?_
  rw[iq] at pm
  have mmlt:∀e∈es.map mm,e.1<m/\e.2<m:=λe he=>by
   obtain⟨f,hf,rfl⟩:=b6.mp he
   have:=emem f hf
   exact⟨by show min f.1 f.2<m;lia,by show max f.1 f.2<m;lia⟩
  refine⟨_,rfl,_,rfl, .ref a,F1,T,m,ys,es.map mm,rfl,hS.same s1,qT,g1,g2,mmlt,by rw[ae];lia,λH2 s2=>?_⟩
  rw[aIg sy emem]
  refine⟨_,rfl, .inr ⟨F1,ys,prN (es.map mm),rfl, .inl (.of (s2 _ _ g1)),g2.same s2,aMK,by rw[dU,ae];lia,λzs R' pR srt _ hr' tl htl=>?_⟩⟩
  obtain⟨L',rfl,pL⟩:=aBM pR
  have s3:=aD htl (.lst zs)
  refine⟨show 2<=bx by decide,λp hp=>?_⟩
  have s4:=aD hp (.tup [V.int (wts (at2 T) es).sum, .ref tl])
  refine q p tl us es zs L' _ (((s1.trans s2).trans s3).trans s4) ((s1.trans s2).free htl) aA gr (λk w hk x hx y hy=>lw k w hk x hx y (.inl hy)) pm (s4 _ _ aA) ((hr'.same s3).same s4) pL srt
 |cons o0 os'=>
  refine bW rfl ?_
  have hus:us≠[]:=λe=>by rw[e] at lel;simp at lel
  generalize hos:o0 :: os'=os at *
  have hone:os≠[]:=by rw[<- hos];simp
  refine⟨λσ2 H2=>∃k',k'<os.length/\∃(us os:List Nat) (es:List (Nat×Nat)) (ys:List V) (x4 x5 x6:Option V),σ2=[some (.ref a),some (.ref F1),some (.ref F2),some (.ref F3),x4,x5,x6]/\Same H H2/\H2 F1=some (.lst ys)/\Rows K H2 ys (prN (es.map mm))/\H2 F2=some (.lst (us.map aU))/\H2 F3=some (.lst (os.map aU))/\Gr us es/\(us++os).Perm (ao m)/\(∀k w,(wts (at2 T) es)[k]?=some w->∀x∈us.take (k+1),∀y,y∈us.drop (k+1)\/y∈os->w<=at2 T x y)/\os.length=k',λσ2 H2 h=>h,?_⟩
  refine⟨_,rfl,F2,rfl, .inl ⟨⟨_, .of g3⟩,λA hA=>?_⟩⟩
  have key:EmR K [0,1] (cX (Itl K F2) (aE 0) (gQ (eD K (aC 2)) (aE 1) (eE [] (bF (fF (aB (tOp (aL K) (tOp (aL K) (aC 3) (aC 0)) (aC 1)) (aB (aC 0) (aB (aC 1) aH)))) A)))) A [none,none,some (.ref F3),some (.ref a)] (upd H1 A (.lst [])) ((ao (us.map aU).length).flatMap λi=>(ao (os.map aU).length).flatMap λj=>[[at2 T (us.getD i 0) (os.getD j 0),((us.getD i 0:Nat):Int),((os.getD j 0:Nat):Int)]]):=by
   refine aEN (a:=F2) (xs:=us.map aU) (by decide) (by show 0<4;decide) (λH' sx => .of (bA hA sx _ _ g3)) λi x σ2 H2 hx l2 ag2 e0 sx2=>?_
   have hi:i<us.length:=by have:=(ai.mp hx).1;rwa[ae] at this
   have e0:σ2[0]?=some (some (aU (us.getD i 0))):=by
    rw[aPb hi] at hx
    rw[e0,bo hx]
   have t2:σ2[2]?=some (some (.ref F3)):=(ag2 2 (by decide)).trans rfl
   refine EmR.mono (vars:=[1]) (λD pre R ha' hR hz hd=>⟨_,t2,F3,rfl, .inl ⟨⟨_, .of (bA hA sx2 _ _ g4)⟩,aEN (K:=K) (vars:=[1]) (a:=F3) (xs:=os.map aU) (by decide) (by rw[l2];show 1<4;decide) (λH' sx => .of (bA hA (sx2.trans sx) _ _ g4)) (λj y σ3 H3 hy l3 ag3 e1 sx3=>?_) D pre R ha' hR hz hd⟩⟩) (by decide)
   have hj:j<os.length:=by have:=(ai.mp hy).1;rwa[ae] at this
   have e1:σ3[1]?=some (some (aU (os.getD j 0))):=by
    rw[aPb hj] at hy
    rw[e1,bo hy]
   have t0:=(ag3 0 (by decide)).trans e0
   have t3:σ3[3]?=some (some (.ref a)):=(ag3 3 (by decide)).trans ((ag2 3 (by decide)).trans rfl)
   refine vH (by show 3<=100;decide) λR hR=>pE t3 t0 e1 (hS.same (s1.trans (bA hA (sx2.trans sx3)))) qT (ltm _ (.inl ?_)) (ltm _ (.inr ?_)) ⟨_,t0,_,e1,hR⟩
   ·rw[aj,ah hi];exact fv hi
   ·rw[aj,ah hj];exact fv hj
  have memR:∀row,row∈((ao (us.map aU).length).flatMap λi=>(ao (os.map aU).length).flatMap λj=>[[at2 T (us.getD i 0) (os.getD j 0),((us.getD i 0:Nat):Int),((os.getD j 0:Nat):Int)]])↔∃x∈us,∃y∈os,row=[at2 T x y,(x:Int),(y:Int)]:=λrow=>by
   rw[ae,ae,nt]
   constructor
   ·rintro⟨i,hi,h⟩
    obtain⟨j,hj,h⟩:=nt.mp h
    have hi:=az.mp hi
    have hj:=az.mp hj
    rw[cq.mp h,aj,ah hi,aj,ah hj]
    exact⟨_,fv hi,_,fv hj,rfl⟩
   ·rintro⟨x,hx,y,hy,rfl⟩
    obtain⟨i,hi,rfl⟩:=nc hx
    obtain⟨j,hj,rfl⟩:=nc hy
    refine⟨i,az.mpr hi,nt.mpr ⟨j,az.mpr hj,?_⟩⟩
    rw[aj,ah hi,aj,ah hj]
    exact cq.mpr rfl
  refine nJ (K:=K) [0,1] _ hA ?_ key λσ2 H2 pre s2 hA2 r2=>?_
  ·have:=bP (λi=>(ao (os.map aU).length).flatMap λj=>[[at2 T (us.getD i 0) (os.getD j 0),((us.getD i 0:Nat):Int),((os.getD j 0:Nat):Int)]]) 8 (us.map aU).length λi _=>by
    have:=bP (λj=>[[at2 T (us.getD i 0) (os.getD j 0),((us.getD i 0:Nat):Int),((os.getD j 0:Nat):Int)]]) 1 (os.map aU).length λ_ _=>bc _
    rw[ae] at this
    rw[ae]
    lia
   simp only[ae] at this ⊢
   lia
  refine .inr ⟨A,pre,_,rfl, .inl (.of hA2),r2,?_,λi b row hb hrow hsq hmin=>?_⟩
  ·intro e
   obtain⟨x,ux,hx⟩:=wa hus
   have:=(memR [at2 T x o0,(x:Int),(o0:Int)]).mpr ⟨x,by rw[hx];simp,o0,by rw[<- hos];simp,rfl⟩
   rw[e] at this
   cases this
  obtain⟨x,hx,y,hy,rfl⟩:=(memR row).mp (ar hrow)
  have least:∀x'∈us,∀y'∈os,at2 T x y<=at2 T x' y':=λx' hx' y' hy'=>aMR (hmin _ ((memR _).mpr ⟨x',hx',y',hy',rfl⟩))
  refine⟨b,_,rfl,hsq,rfl, .int (at2 T x y),[aU x,aU y],rfl,aU x,[aU y],rfl,aU y,[],rfl,rfl,?_⟩
  have s12:=s1.trans s2
  have g1':=s2 _ _ g1
  have g3':=s2 _ _ g3
  have g4':=s2 _ _ g4
  refine⟨_,rfl, .inl ⟨rfl,_, .of g1'⟩,_,rfl,_,rfl,_,_,rfl,?_⟩
  rw[aOX]
  refine⟨_,rfl,_,rfl,_,_,rfl,?_⟩
  rw[aKF]
  refine⟨show 2<=bx by decide,λu hu=>?_⟩
  have mu:=aD hu (.tup [V.int ((min x y:Nat):Int),V.int ((max x y:Nat):Int)])
  have yl:ys.length=es.length:=by rw[g2.1,dU,ae]
  refine⟨F1,ys,_,rfl,rfl,mu _ _ g1',bh (show ys.length<=9 by lia) (by decide),?_⟩
  have r3:Rows K (upd (upd H2 u (.tup [V.int ((min x y:Nat):Int),V.int ((max x y:Nat):Int)])) F1 (.lst (ys++[.ref u]))) (ys++[.ref u]) (prN ((es++[(x,y)]).map mm)):=by
   rw[bj,aDr]
   exact Rows.put (Rows.snoc ((g2.same s2).same mu) (.of aA)) (mu _ _ g1')
  have g1'':(upd (upd H2 u (.tup [V.int ((min x y:Nat):Int),V.int ((max x y:Nat):Int)])) F1 (.lst (ys++[.ref u]))) F1=some (.lst (ys++[.ref u])):=aA
  have g3'':(upd (upd H2 u (.tup [V.int ((min x y:Nat):Int),V.int ((max x y:Nat):Int)])) F1 (.lst (ys++[.ref u]))) F2=some (.lst (us.map aU)):=by rw[aK (gy n12)];exact mu _ _ g3'
  have g4'':(upd (upd H2 u (.tup [V.int ((min x y:Nat):Int),V.int ((max x y:Nat):Int)])) F1 (.lst (ys++[.ref u]))) F3=some (.lst (os.map aU)):=by rw[aK (gy n13)];exact mu _ _ g4'
  have s3:Same H (upd (upd H2 u (.tup [V.int ((min x y:Nat):Int),V.int ((max x y:Nat):Int)])) F1 (.lst (ys++[.ref u]))):=bB h1H (s12.trans mu)
  generalize upd (upd H2 u (.tup [V.int ((min x y:Nat):Int),V.int ((max x y:Nat):Int)])) F1 (.lst (ys++[.ref u]))=G3 at *
  refine⟨_,rfl, .inl ⟨rfl,_, .of g3''⟩,_,rfl,F2,_,_,rfl,rfl,g3'',bh (show(us.map aU).length<=9 by rw[ae];lia) (by decide),?_⟩
  have r4:Rows K (upd G3 F2 (.lst (us.map aU++[aU y]))) (ys++[.ref u]) (prN ((es++[(x,y)]).map mm)):=Rows.put r3 g3''
  have k1:(upd G3 F2 (.lst (us.map aU++[aU y]))) F1=some (.lst (ys++[.ref u])):=by rw[aK n12];exact g1''
  have k2:(upd G3 F2 (.lst (us.map aU++[aU y]))) F2=some (.lst ((us++[y]).map aU)):=by rw[aA,bj];rfl
  have k3:(upd G3 F2 (.lst (us.map aU++[aU y]))) F3=some (.lst (os.map aU)):=by rw[aK (gy n23)];exact g4''
  have s5:Same H (upd G3 F2 (.lst (us.map aU++[aU y]))):=bB h2H s3
  generalize upd G3 F2 (.lst (us.map aU++[aU y]))=G4 at *
  obtain⟨j,hj,ej⟩:=nc hy
  have ndo:=nd.2.1
  refine⟨_,rfl, .inl ⟨rfl,_, .of k3⟩,_,rfl,F3,os.map (λp:Nat=>(p:Int)),(y:Int),j,rfl,rfl,by rw[k3,aBc],by rw[aw,ah hj,ej];rfl,λr hr e=>?_,?_⟩
  ·rw[aw,ah (by lia)] at e
   have e':os[r]'(by lia)=y:=by
    have h2:((os[r]'(by lia):Nat):Int)=(y:Int):=bo e
    lia
   rw[<- ej] at e'
   exact qo.mp (k8.mp ndo) r j (by lia) hj hr e'
  rw[wS,<- aBc]
  have hyn:y∉us:=λh=>nd.2.2 _ h _ hy rfl
  have lwl:(wts (at2 T) es).length=es.length:=by unfold wts;rw[ae]
  have pmE:((us++[y])++os.eraseIdx j).Perm (us++os):=by
   have:=aCi (fs:=us) hj
   rw[ej] at this
   exact this
  refine⟨os.length - 1,by lia,us++[y],os.eraseIdx j,es++[(x,y)],ys++[.ref u],_,_,_,rfl,bB h3H s5,by rw[aK n13];exact k1,Rows.put r4 k3,by rw[aK n23];exact k2,aA, .more gr hx hyn,pmE.trans pm,λk w hk x' hx' y' hy'=>?_,by rw[v9 hj]⟩
  unfold wts at hk
  rw[bj] at hk
  have ysub:∀z,z∈os.eraseIdx j->z∈os:=λz hz=>List.mem_of_mem_eraseIdx hz
  by_cases ck:k<es.length
  ·rw[c6 (by rw[ae];exact ck)] at hk
   rw[iz (by lia)] at hx'
   refine lw k w hk x' hx' y' ?_
   rw[ju (by lia)] at hy'
   rcases hy' with h | h
   ·rcases di.mp h with h | h
    ·exact .inl h
    ·rw[cq.mp h];exact .inr hy
   ·exact .inr (ysub y' h)
  ·have ek:k=es.length:=by
    have:=(ai.mp hk).1
    rw[au,ae,ae] at this
    simp at this
    lia
   subst ek
   rw[cw (by rw[ae];exact bc _),ae,t9] at hk
   obtain rfl:at2 T x y=w:=by simpa using hk
   rw[iz (by lia),jo (by lia)] at hx'
   refine least x' hx' y' ?_
   rcases hy' with h | h
   ·rw[ju (by lia),yw (by lia),vd] at h
    rw[cq.mp h];exact hy
   ·exact ysub y' h
end K39
namespace Sh
def sumN:Nat->(Nat->Int)->Int
 |0,_=>0
 |n+1,f=>sumN n f+f n
theorem sumN_congr:∀{n:Nat},(∀k,k<n->f k=g k)->sumN n f=sumN n g
 |0,_=>rfl
 |n+1,h=>by
  show sumN n f+f n=sumN n g+g n
  rw[sumN_congr λk hk=>h k (i5 hk),h n (k9 n)]
theorem aBw:∀n:Nat,sumN n (λk=>a*f k+g k)=a*sumN n f+sumN n g
 |0=>by simp[sumN]
 |n+1=>by
  show sumN n (λk=>a*f k+g k)+(a*f n+g n)=a*(sumN n f+f n)+(sumN n g+g n)
  rw[aBw n,fh]
  lia
theorem sumN_mul:∀n:Nat,sumN n (λk=>a*f k)=a*sumN n f
 |0=>by simp[sumN]
 |n+1=>by
  show sumN n (λk=>a*f k)+a*f n=a*(sumN n f+f n)
  rw[sumN_mul n,fh]
theorem gW:∀n:Nat,sumN n (λk=>f k+g k)=sumN n f+sumN n g
 |0=>rfl
 |n+1=>by
  show sumN n (λk=>f k+g k)+(f n+g n)=(sumN n f+f n)+(sumN n g+g n)
  rw[gW n]
  lia
theorem iV (h:∀k,k<n->f k=0):sumN n f=0:=by
 induction n with
 |zero=>rfl
 |succ n ih=>
  show sumN n f+f n=0
  rw[ih λk hk=>h k (by lia),h n (by lia)]
  rfl
theorem eO (hi:i<n)(h:∀k,k<n->k≠i->f k=0):sumN n f=f i:=by
 induction n with
 |zero=>lia
 |succ n ih=>
  show sumN n f+f n=f i
  by_cases c:i=n
  ·subst c
   rw[iV λk hk=>h k (by lia) (by lia)]
   lia
  ·rw[ih (by lia) λk hk hne=>h k (by lia) hne,h n (by lia) (gy c)]
   lia
theorem aBl (hi:i<n)(hj:j<n)(hij:i≠j)(h:∀k,k<n->k≠i->k≠j->f k=0):sumN n f=f i+f j:=by
 have e:sumN n f=sumN n (λk=>if k=i then f i else 0)+sumN n (λk=>if k=j then f j else 0):=by
  rw[<- gW]
  refine sumN_congr λk hk=>?_
  by_cases c1:k=i
  ·rw[if_pos c1,if_neg (by lia),c1];lia
  ·by_cases c2:k=j
   ·rw[if_neg c1,if_pos c2,c2];lia
   ·rw[if_neg c1,if_neg c2,h k hk c1 c2];rfl
 rw[e,eO hi λk _ hne=>if_neg hne,eO hj λk _ hne=>if_neg hne,if_pos rfl,if_pos rfl]
theorem pZ (h:∀k,k<n->0<=f k):0<=sumN n f:=by
 induction n with
 |zero=>exact ij _
 |succ n ih=>
  have h1:=ih λk hk=>h k (by lia)
  have h2:=h n (by lia)
  show 0<=sumN n f+f n
  lia
theorem aBJ (h:0<sumN n f):∃k,k<n/\0<f k:=by
 apply b9
 intro no
 have:0<=sumN n λk=>-1*f k:=pZ λk hk=>by
  have:¬ 0<f k:=λz=>no ⟨k,hk,z⟩
  lia
 rw[sumN_mul] at this
 lia
abbrev Vec:= Nat->Int
abbrev Tup:= Nat->Vec
def up (b:Tup)(i:Nat)(v:Vec):Tup:=λk=>if k=i then v else b k
theorem cO:up b i v i=v:=if_pos rfl
theorem iK (h:k≠i):up b i v k=b k:=if_neg h
theorem gI:up b i (b i)=b:=by
 funext k
 unfold up
 split
 ·rename_i h;rw[h]
 ·rfl
theorem aOr:up (up b i u) i v=up b i v:=by
 funext k
 unfold up
 split <;> rfl
theorem kB (h:i≠j):up (up b i u) j v=up (up b j v) i u:=by
 funext k
 unfold up
 by_cases c1:k=i
 ·by_cases c2:k=j
  ·exact absurd (c1.symm.trans c2) h
  ·rw[if_neg c2,if_pos c1,if_pos c1]
 ·by_cases c2:k=j
  ·rw[if_pos c2,if_neg c1,if_pos c2]
  ·rw[if_neg c2,if_neg c1,if_neg c1,if_neg c2]
def skip (i:Nat)(b:Tup):Tup:=λk=>if k<i then b k else b (k+1)
def sg (i:Nat):Int:=if i % 2=0 then 1 else -1
theorem aJo (i:Nat):sg (i+1) = - sg i:=by
 unfold sg
 by_cases c:i % 2=0
 ·rw[if_pos c,if_neg (by lia)]
 ·rw[if_neg c,if_pos (by lia)];rfl
theorem aMI (i:Nat):sg (i+i)=1:=by unfold sg;rw[if_pos (by lia)]
def det:Nat->Tup->Int
 |0,_=>1
 |M+1,b=>sumN (M+1) λi=>sg (i+M)*(b i M*det M (skip i b))
theorem aAl:∀{M:Nat},(∀k,k<M->b k=b' k)->det M b=det M b':=by
 intro M
 induction M generalizing b b' with
 |zero=>intro _;rfl
 |succ M ih=>
  intro h
  refine sumN_congr λi hi=>?_
  rw[h i hi,ih λk hk=>?_]
  unfold skip
  split
  ·exact h k (by lia)
  ·exact h (k+1) (by lia)
theorem zR (h:k≠i):skip k (up b i w)=up (skip k b) (if i<k then i else i - 1) w:=by
 funext x
 show(if x<k then(if x=i then w else b x) else(if x+1=i then w else b (x+1)))=if x=(if i<k then i else i - 1) then w else if x<k then b x else b (x+1)
 by_cases c:i<k
 ·rw[if_pos c]
  by_cases c1:x<k
  ·rw[if_pos c1,if_pos c1]
  ·rw[if_neg c1,if_neg c1,if_neg (by lia),if_neg (by lia)]
 ·rw[if_neg c]
  by_cases c1:x<k
  ·rw[if_pos c1,if_pos c1,if_neg (by lia),if_neg (by lia)]
  ·rw[if_neg c1,if_neg c1]
   by_cases c2:x+1=i
   ·rw[if_pos c2,if_pos (by lia)]
   ·rw[if_neg c2,if_neg (by lia)]
theorem gC:skip i (up b i w)=skip i b:=by
 funext x
 unfold skip up
 by_cases c1:x<i
 ·rw[if_pos c1,if_pos c1,if_neg (by lia)]
 ·rw[if_neg c1,if_neg c1,if_neg (by lia)]
theorem kO:∀{M:Nat}{b:Tup}{i:Nat},i<M->det M (up b i λc=>a*u c+v c)=a*det M (up b i u)+det M (up b i v):=by
 intro M
 induction M with
 |zero=>intro b i h;lia
 |succ M ih=>
  intro b i hi
  show sumN (M+1) _=a*sumN (M+1) _+sumN (M+1) _
  rw[<- aBw]
  refine sumN_congr λk hk=>?_
  by_cases c:k=i
  ·subst c
   rw[gC,gC,gC,cO,cO,cO]
   show sg (k+M)*((a*u M+v M)*det M (skip k b))=a*(sg (k+M)*(u M*det M (skip k b)))+sg (k+M)*(v M*det M (skip k b))
   rw[pw,fh,cm a,dm (sg (k+M)) a]
  ·rw[zR c,zR c,zR c,iK c,iK c,iK c,ih (by split <;> lia),fh,fh,dm (b k M) a,dm (sg (k+M)) a]
theorem aJh (h:b i=b (i+1)):skip i b=skip (i+1) b:=by
 funext x
 unfold skip
 by_cases c1:x<i
 ·rw[if_pos c1,if_pos (by lia)]
 ·rw[if_neg c1]
  by_cases c2:x=i
  ·subst c2
   rw[if_pos (by lia),h]
  ·rw[if_neg (by lia)]
theorem aDa:∀{M:Nat}{b:Tup}{i:Nat},i+1<M->b i=b (i+1)->det M b=0:=by
 intro M
 induction M with
 |zero=>intro b i h;lia
 |succ M ih=>
  intro b i hi hb
  show sumN (M+1) _=0
  rw[aBl (i:=i) (j:=i+1) (by lia) hi (by lia) λk hk h1 h2=>?_]
  ·rw[aJh hb,hb,show i+1+M=(i+M)+1 by lia,aJo]
   rw[jw]
   lia
  ·have:det M (skip k b)=0:=by
    by_cases c:k<i
    ·refine ih (i:=i - 1) (by lia) ?_
     unfold skip
     rw[if_neg (by lia),if_neg (by lia),show i - 1+1=i by lia,hb]
    ·refine ih (i:=i) (by lia) ?_
     unfold skip
     rw[if_pos (by lia),if_pos (by lia),hb]
   rw[this,fj,fj]
theorem aEl (hi:i<M)(hj:j<M)(hij:i≠j)(z:∀w,det M (up (up b i w) j w)=0):det M (up (up b i u) j v) = - det M (up (up b i v) j u):=by
 have h:=z λc=>(1:Int)*u c+v c
 rw[kO hj,kB hij,kO hi,kB hij,kO hi,kB (gy hij),kB (gy hij),kB (gy hij),kB (gy hij),z u,z v] at h
 lia
theorem wO (h:i+1<M):det M (up (up b i u) (i+1) v) = - det M (up (up b i v) (i+1) u):=
 aEl (by lia) h (by lia) λw=>aDa h (by rw[iK (by lia),cO,cO])
theorem aHU:∀(n:Nat) {b:Tup}{i j:Nat},j - i=n->i<j->j<M->b i=b j->det M b=0:=by
 intro n
 induction n with
 |zero=>intro b i j h1 h2;lia
 |succ n ih=>
  intro b i j h1 h2 h3 hb
  by_cases c:j=i+1
  ·subst c
   exact aDa h3 hb
  ·obtain⟨k,rfl⟩:∃k,j=k+1:=⟨j - 1,by lia⟩
   have e:det M b=det M (up (up b k (b k)) (k+1) (b (k+1))):=by rw[gI,gI]
   rw[e,wO h3,ih (i:=i) (j:=k) (by lia) (by lia) (by lia) ?_]
   ·rfl
   ·rw[iK (by lia),iK (by lia),iK (by lia),cO,hb]
theorem eM (hi:i<M)(hj:j<M)(hij:i≠j)(hb:b i=b j):det M b=0:=by
 rcases Nat.lt_or_gt_of_ne hij with h | h
 ·exact aHU _ rfl h hj hb
 ·exact aHU _ rfl h hi hb.symm
theorem aGf (hi:i<M)(hj:j<M)(hij:i≠j):det M (up (up b i u) j v) = - det M (up (up b i v) j u):=
 aEl hi hj hij λw=>eM hi hj hij (by rw[iK hij,cO,cO])
def unit (i:Nat):Vec:=λc=>if c=i then 1 else 0
theorem aBb:∀M:Nat,det M unit=1:=by
 intro M
 induction M with
 |zero=>rfl
 |succ M ih=>
  show sumN (M+1) _=1
  rw[eO (i:=M) (by lia) λk hk hne=>?_]
  ·have e:det M (skip M unit)=det M unit:=aAl λk hk=>by unfold skip;rw[if_pos hk]
   rw[e,ih,aMI]
   show(1:Int)*((if M=M then 1 else 0)*1)=1
   rw[if_pos rfl]
   rfl
  ·have:unit k M=0:=if_neg (by lia)
   rw[this,rg,fj]
theorem nL (hi:i<M):det M (up b i λc=>a*u c)=a*det M (up b i u):=by
 have z:det M (up b i λ_=>0)=0:=by
  have h:=kO (M:=M) (b:=b) (i:=i) (a:=1) (u:=λ_=>0) (v:=λ_=>0) hi
  have e:(λc:Nat=>(1:Int)*(λ_=>0) c+(λ_=>(0:Int)) c)=λ_=>0:=by funext c;simp
  rw[e] at h
  lia
 have h:=kO (M:=M) (b:=b) (i:=i) (a:=a) (u:=u) (v:=λ_=>0) hi
 have e:(λc=>a*u c+(λ_=>(0:Int)) c)=λc=>a*u c:=by funext c;simp
 rw[e,z] at h
 lia
theorem qQ {M: Nat}{b: Tup}{i: Nat}{a: Nat->Int}{w: Nat->Vec}(hi:i<M):∀n:Nat,det M (up b i λc=>sumN n λk=>a k*w k c)=sumN n λk=>a k*det M (up b i (w k))
 |0=>by
  have:=nL (M:=M) (b:=b) (i:=i) (a:=0) (u:=λ_=>0) hi
  simp at this
  exact this
 |n+1=>by
  have e:(λc=>sumN (n+1) λk=>a k*w k c)=λc=>a n*w n c+(λc=>sumN n λk=>a k*w k c) c:=by
   funext c
   show sumN n (λk=>a k*w k c)+a n*w n c=a n*w n c+sumN n (λk=>a k*w k c)
   exact Bt ..
  rw[e,kO hi,qQ hi n]
  show _=sumN n (λk=>a k*det M (up b i (w k)))+a n*det M (up b i (w n))
  exact Bt ..
section
variable {A:Nat->Vec}{m N:Nat}{h h':Nat->Nat}
def bv (A:Nat->Vec)(m:Nat)(h:Nat->Nat):Tup:=λi=>if i<m then A (h i) else unit m
def R (A:Nat->Vec)(m:Nat)(h:Nat->Nat)(i j:Nat):Int:=det (m+1) (up (bv A m h) i (A j))
def dd (A:Nat->Vec)(m:Nat)(h:Nat->Nat):Int:=det (m+1) (bv A m h)
def put (h:Nat->Nat)(r c:Nat):Nat->Nat:=λi=>if i=r then c else h i
theorem rR (hi:i<m):bv A m h i=A (h i):=if_pos hi
theorem aKu:bv A m h m=unit m:=if_neg (kn _)
theorem wY (hr:r<m):bv A m (put h r c)=up (bv A m h) r (A c):=by
 funext i
 unfold bv put up
 by_cases e:i=r
 ·rw[if_pos e,if_pos e,if_pos (by lia)]
 ·rw[if_neg e,if_neg e]
structure Ok (A:Nat->Vec)(m N:Nat)(h:Nat->Nat):Prop where
 d0:0<dd A m h
 hN:∀i,i<m->h i<N
 ex:∀j,j<=N->∀c,dd A m h*A j c=sumN (m+1) λi=>R A m h i j*bv A m h i c
 b0:∀i,i<m->0<=R A m h i N
theorem dd_put (hr:r<m):dd A m (put h r c)=R A m h r c:=by unfold dd R;rw[wY hr]
theorem R_row (hr:r<m):R A m (put h r c) r j=R A m h r j:=by unfold R;rw[wY hr,aOr]
theorem R_turn (k:Ok A m N h)(hr:r<m)(hi:i<=m)(hir:i≠r)(hj:j<=N):dd A m h*R A m (put h r c) i j=R A m h r c*R A m h i j - R A m h i c*R A m h r j:=by
 have hi':i<m+1:=by lia
 have e1:dd A m h*R A m (put h r c) i j=det (m+1) (up (up (bv A m h) r (A c)) i λq=>sumN (m+1) λk=>R A m h k j*bv A m h k q):=by
  have:(λq=>sumN (m+1) λk=>R A m h k j*bv A m h k q)=λq=>dd A m h*A j q:=by
   funext q
   rw[k.ex j hj q]
  rw[this,nL hi']
  unfold R
  rw[wY hr]
 rw[e1,qQ hi',aBl (i:=i) (j:=r) hi' (by lia) hir λx hx h1 h2=>?_]
 ·have e2:up (up (bv A m h) r (A c)) i (bv A m h i)=up (bv A m h) r (A c):=by
   have:bv A m h i=up (bv A m h) r (A c) i:=(iK hir).symm
   rw[this,gI]
  have e3:det (m+1) (up (up (bv A m h) r (A c)) i (bv A m h r)) = - R A m h i c:=by
   rw[aGf (by lia) hi' (gy hir),gI]
   rfl
  rw[e2,e3]
  show R A m h i j*R A m h r c+R A m h r j*(- R A m h i c)=_
  rw[AK,b8 (R A m h i j),b8 (R A m h r j)]
  lia
 ·have:det (m+1) (up (up (bv A m h) r (A c)) i (bv A m h x))=0:=eM (i:=x) (j:=i) hx hi' h1 (by rw[iK h1,iK h2,cO])
  rw[this,fj]
def aNq (A:Nat->Vec)(m N:Nat)(h:Nat->Nat)(c r:Nat):Prop:=∀i,i<m->0<R A m h i c->R A m h r N*R A m h i c<=R A m h i N*R A m h r c/\(R A m h r N*R A m h i c=R A m h i N*R A m h r c->h r<=h i)
structure Stp (A:Nat->Vec)(m N:Nat)(h h':Nat->Nat)(c r:Nat):Prop where
 cN:c<N
 rm:r<m
 neg:R A m h m c<0
 fst:∀j,j<c->0<=R A m h m j
 pos:0<R A m h r c
 tig:aNq A m N h c r
 eq:h'=put h r c
theorem Ok.step (k:Ok A m N h)(s:Stp A m N h h' c r):Ok A m N h':=by
 obtain⟨cN,rm,neg,fst,pos,tig,rfl⟩:=s
 have ed:=dd_put (A:=A) (h:=h) (c:=c) rm
 refine⟨by rw[ed];exact pos,λi hi=>?_,λj hj q=>?_,λi hi=>?_⟩
 ·unfold put
  split
  ·exact cN
  ·exact k.hN i hi
 ·have d0:=k.d0
  refine xf (show dd A m h≠0 by lia) ?_
  rw[ed,<- sumN_mul]
  have e:sumN (m+1) (λi=>dd A m h*(R A m (put h r c) i j*bv A m (put h r c) i q))=sumN (m+1) (λi=>(R A m h r c*(R A m h i j*bv A m h i q)+(- R A m h r j)*(R A m h i c*bv A m h i q))+if i=r then R A m h r j*(dd A m h*A c q) else 0):=by
   refine sumN_congr λi hi=>?_
   by_cases ci:i=r
   ·subst ci
    rw[if_pos rfl,R_row rm,wY rm,cO,jw]
    rw[dm (dd A m h),dm (R A m h i c) (R A m h i j)]
    lia
   ·rw[if_neg ci,wY rm,iK ci,<- cm,R_turn k rm (by lia) ci hj,Int.sub_mul,cm,jw,b8 (R A m h i c) (R A m h r j),cm]
    lia
  rw[e,gW,gW,sumN_mul,sumN_mul,<- k.ex j hj q,<- k.ex c (by lia) q,eO (i:=r) (by lia) λx _ hx=>if_neg hx,if_pos rfl,jw,dm]
  lia
 ·by_cases ci:i=r
  ·subst ci
   rw[R_row rm]
   exact k.b0 i hi
  ·have e:=R_turn (c:=c) k rm (show i<=m by lia) ci (bc N)
   have d0:=k.d0
   have h1:=k.b0 i hi
   have h2:=k.b0 r rm
   have:0<=dd A m h*R A m (put h r c) i N:=by
    rw[e]
    by_cases cp:0<R A m h i c
    ·have:=(tig i hi cp).1
     rw[b8 (R A m h r c),b8 (R A m h i c)]
     lia
    ·have p1:0<=R A m h r c*R A m h i N:=i6 (by lia) h1
     have p2:0<=(- R A m h i c)*R A m h r N:=i6 (by lia) h2
     rw[jw] at p2
     lia
   exact Int.nonneg_of_mul_nonneg_right this d0
theorem Ok.held (hi:i<m):R A m h m (h i)=0:=by
 unfold R
 refine eM (i:=i) (j:=m) (by lia) (by lia) (by lia) ?_
 rw[iK (by lia),cO,rR hi]
theorem aIe:det (m+1) (up (bv A m h) m (unit m))=dd A m h:=by
 have:unit m=bv A m h m:=aKu.symm
 rw[this,gI]
 rfl
theorem Ok.two (k:Ok A m N h)(hs:s<=N):dd A m h*R A m g m s=sumN m (λi=>R A m h i s*R A m g m (h i))+R A m h m s*dd A m g:=by
 have e:dd A m h*R A m g m s=det (m+1) (up (bv A m g) m λq=>sumN (m+1) λk=>R A m h k s*bv A m h k q):=by
  have:(λq=>sumN (m+1) λk=>R A m h k s*bv A m h k q)=λq=>dd A m h*A s q:=by
   funext q
   rw[k.ex s hs q]
  rw[this,nL (by lia)]
  rfl
 rw[e,qQ (by lia)]
 show sumN m _+R A m h m s*det (m+1) (up (bv A m g) m (bv A m h m))=_
 rw[aKu,aIe]
 congr 1
 refine sumN_congr λi hi=>?_
 rw[rR hi]
 rfl
theorem aBI (e:∀i,i<m->h i=g i):bv A m h=bv A m g:=by
 funext i
 unfold bv
 split
 ·rename_i hi
  rw[e i hi]
 ·rfl
end
theorem aKJ:∀(n:Nat) (f:Nat->Nat),(∀t,t<=n->f t<n)->∃a b,a<b/\b<=n/\f a=f b:=by
 intro n
 induction n with
 |zero=>intro f h;exact absurd (h 0 (bc _)) (by lia)
 |succ n ih=>
  intro f h
  by_cases c:∃t,t<n+1/\f t=f (n+1)
  ·obtain⟨t,ht,e⟩:=c
   exact⟨t,n+1,ht,bc _,e⟩
  ·have c':∀t,t<n+1->f t≠f (n+1):=λt ht e=>c ⟨t,ht,e⟩
   obtain⟨a,b,hab,hb,e⟩:=ih (λt=>if f t=n then f (n+1) else f t) λt ht=>by
    show(if f t=n then f (n+1) else f t)<n
    have h1:=h t (by lia)
    have h2:=h (n+1) (by lia)
    have h3:=c' t (by lia)
    split <;> lia
   refine⟨a,b,hab,by lia,?_⟩
   have ha:=c' a (by lia)
   have hb':=c' b (by lia)
   by_cases e1:f a=n
   ·by_cases e2:f b=n
    ·lia
    ·simp only[e1,e2,if_true,if_false] at e
     exact absurd e.symm hb'
   ·by_cases e2:f b=n
    ·simp only[e1,e2,if_true,if_false] at e
     exact absurd e ha
    ·simp only[e1,e2,if_false] at e
     exact e
def code (N:Nat)(h:Nat->Nat):Nat->Nat
 |0=>0
 |k+1=>code N h k*N+h k
theorem aDi:∀{m:Nat},(∀i,i<m->h i<N)->code N h m<N ^ m
 |0,_=>by simp[code]
 |m+1,k=>by
  have h1:=aDi (m:=m) λi hi=>k i (by lia)
  have h2:=k m (by lia)
  show code N h m*N+h m<N ^ m*N
  have:(code N h m+1)*N<=N ^ m*N:=ur N h1
  rw[Az] at this
  lia
theorem aBQ:∀{m:Nat},(∀i,i<m->h i<N)->(∀i,i<m->g i<N)->code N h m=code N g m->∀i,i<m->h i=g i
 |0,_,_,_=>λi hi=>by lia
 |m+1,k,l,e=>by
  have h1:=k m (by lia)
  have h2:=l m (by lia)
  have e:code N h m*N+h m=code N g m*N+g m:=e
  have em:h m=g m:=by
   have:=congrArg (· % N) e
   simp only[Nat.mul_add_mod_self_right,Nat.mod_eq_of_lt h1,Nat.mod_eq_of_lt h2] at this
   exact this
  have ed:code N h m=code N g m:=Nat.eq_of_mul_eq_mul_right (show 0<N by lia) (show code N h m*N=code N g m*N by lia)
  intro i hi
  by_cases c:i=m
  ·rw[c];exact em
  ·exact aBQ (λi hi=>k i (by lia)) (λi hi=>l i (by lia)) ed i (by lia)
theorem change {f: Nat->Nat}{a: Nat}:∀{n:Nat},f (a+n)≠f a->∃u,a<=u/\u<a+n/\f u=f a/\f (u+1)≠f a
 |0,h=>absurd rfl h
 |n+1,h=>by
  by_cases c:f (a+n)=f a
  ·exact⟨a+n,by lia,by lia,c,h⟩
  ·obtain⟨u,h1,h2,h3,h4⟩:=change c
   exact⟨u,h1,by lia,h3,h4⟩
theorem aDJ {f: Nat->Nat}{a: Nat}:∀{n:Nat},f (a+n)≠f a->∃u,a<=u/\u<a+n/\f u≠f (a+n)/\f (u+1)=f (a+n)
 |0,h=>absurd rfl h
 |n+1,h=>by
  by_cases c:f (a+n)=f (a+(n+1))
  ·rw[<- c] at h ⊢
   obtain⟨u,h1,h2,h3,h4⟩:=aDJ h
   exact⟨u,h1,by lia,h3,h4⟩
  ·exact⟨a+n,by lia,by lia,c,rfl⟩
theorem gU {a b c d e f: Int}(hb:0<b)(hd:0<d)(hf:0<f)(h1:a*d<=c*b)(h2:c*f<=e*d):a*f<=e*b:=by
 have x1:=gk h1 (jf hf)
 have x2:=gk h2 (jf hb)
 refine qp (a:=d) ?_ hd
 have e1:d*(a*f)=a*d*f:=by rw[b8 a d,cm]
 have e2:d*(e*b)=e*d*b:=by rw[b8 e d,cm]
 have e3:c*b*f=c*f*b:=by rw[cm,b8 b f,<- cm]
 lia
section
variable {A:Nat->Vec}{m N:Nat}
theorem Ok.inj (k:Ok A m N h)(hi:i<m)(hj:j<m)(e:h i=h j):i=j:=by
 apply b9
 intro ne
 have:dd A m h=0:=eM (i:=i) (j:=j) (by lia) (by lia) ne (by rw[rR hi,rR hj,e])
 have:=k.d0
 lia
theorem aJi (e:∀i,i<m->h i=g i)(i j:Nat):R A m h i j=R A m g i j:=by unfold R;rw[aBI e]
theorem aHv (e:∀i,i<m->h i=g i):dd A m h=dd A m g:=by unfold dd;rw[aBI e]
theorem Stp.worth (k:Ok A m N h)(s:Stp A m N h h' c r):dd A m h*R A m h' m N=dd A m h'*R A m h m N - R A m h m c*R A m h r N:=by
 obtain⟨cN,rm,neg,fst,pos,tig,rfl⟩:=s
 rw[dd_put rm,R_turn k rm (bc _) (by lia) (bc _)]
theorem Stp.zero (k:Ok A m N h)(s:Stp A m N h h' c r)(z:R A m h r N=0)(hi:i<m):R A m h' i N=0↔R A m h i N=0:=by
 obtain⟨cN,rm,neg,fst,pos,tig,rfl⟩:=s
 by_cases c1:i=r
 ·subst c1;rw[R_row rm]
 ·have e:=R_turn (c:=c) k rm (show i<=m by lia) c1 (bc N)
  rw[z,fj,Int.sub_zero] at e
  have d0:=k.d0
  constructor
  ·intro z'
   rw[z',fj] at e
   rcases Int.mul_eq_zero.1 e.symm with q | q
   ·lia
   ·exact q
  ·intro z'
   rw[z',fj] at e
   rcases Int.mul_eq_zero.1 e with q | q
   ·lia
   ·exact q
structure Circ (A:Nat->Vec)(m N:Nat)(h:Nat->Nat->Nat)(c r:Nat->Nat)(n:Nat):Prop where
 ok:∀t,Ok A m N (h t)
 st:∀t,t<n->Stp A m N (h t) (h (t+1)) (c t) (r t)
 cl:∀i,i<m->h n i=h 0 i
 n0:0<n
variable {h:Nat->Nat->Nat}{c r:Nat->Nat}{n:Nat}
theorem Circ.le (k:Circ A m N h c r n):∀{t:Nat},t<=n->R A m (h 0) m N*dd A m (h t)<=R A m (h t) m N*dd A m (h 0)
 |0,_=>ij _
 |t+1,ht=>by
  have ih:=Circ.le k (t:=t) (by lia)
  refine gU (k.ok 0).d0 (k.ok t).d0 (k.ok (t+1)).d0 ih ?_
  have s:=k.st t (by lia)
  have e:=s.worth (k.ok t)
  have p:0<=(- R A m (h t) m (c t))*R A m (h t) (r t) N:=i6 (by have:=s.neg;lia) ((k.ok t).b0 _ s.rm)
  rw[jw] at p
  rw[b8 (R A m (h (t+1)) m N),b8 (R A m (h t) m N)]
  lia
theorem Circ.ge (k:Circ A m N h c r n):∀{j t:Nat},t+j=n->R A m (h t) m N*dd A m (h 0)<=R A m (h 0) m N*dd A m (h t)
 |0,t,e=>by
  have e:t=n:=e
  subst e
  rw[aJi k.cl,aHv k.cl]
  exact ij _
 |j+1,t,e=>by
  have ih:=Circ.ge k (j:=j) (t:=t+1) (by lia)
  refine gU (k.ok t).d0 (k.ok (t+1)).d0 (k.ok 0).d0 ?_ ih
  have s:=k.st t (by lia)
  have e:=s.worth (k.ok t)
  have p:0<=(- R A m (h t) m (c t))*R A m (h t) (r t) N:=i6 (by have:=s.neg;lia) ((k.ok t).b0 _ s.rm)
  rw[jw] at p
  rw[b8 (R A m (h (t+1)) m N),b8 (R A m (h t) m N)]
  lia
theorem Circ.still (k:Circ A m N h c r n)(ht:t<n):R A m (h t) (r t) N=0:=by
 have s:=k.st t ht
 have e:=s.worth (k.ok t)
 have l:=gU (k.ok (t+1)).d0 (k.ok 0).d0 (k.ok t).d0 (k.ge (j:=n - (t+1)) (t:=t+1) (by lia)) (k.le (t:=t) (by lia))
 have z:(- R A m (h t) m (c t))*R A m (h t) (r t) N<=0:=by
  rw[jw]
  rw[b8 (R A m (h (t+1)) m N),b8 (R A m (h t) m N)] at l
  lia
 have n1:=s.neg
 have b:=(k.ok t).b0 _ s.rm
 apply b9
 intro ne
 have:0<(- R A m (h t) m (c t))*R A m (h t) (r t) N:=qa (by lia) (by lia)
 lia
theorem Circ.zero0 (k:Circ A m N h c r n)(hi:i<m):∀{t:Nat},t<=n->(R A m (h t) i N=0↔R A m (h 0) i N=0)
 |0,_=>Iff.rfl
 |t+1,ht=>((k.st t (by lia)).zero (k.ok t) (k.still (by lia)) hi).trans (Circ.zero0 k hi (by lia))
theorem Stp.same {h h': Nat->Nat}{c r i: Nat}(s:Stp A m N h h' c r)(ne:h' i≠h i):i=r/\h' i=c:=by
 rw[s.eq] at ne ⊢
 unfold put at ne ⊢
 by_cases q:i=r
 ·rw[if_pos q];exact⟨q,rfl⟩
 ·rw[if_neg q] at ne;exact absurd rfl ne
theorem Stp.new {h h': Nat->Nat}{c r i: Nat}(s:Stp A m N h h' c r)(hi:i<m):h i≠c:=λe=>by
 have:=s.neg
 rw[<- e,Ok.held hi] at this
 lia
theorem Stp.at_r {h h': Nat->Nat}{c r: Nat}(s:Stp A m N h h' c r):h' r=c:=by rw[s.eq];exact if_pos rfl
theorem Circ.comes (k:Circ A m N h c r n)(hi:i<m)(hs:s<=n)(ht:t<=n)(ne:h t i≠h s i):∃u,u<n/\i=r u/\c u=h s i:=by
 have g:∀a b,a<=b->b<=n->h b i≠h a i->∃u,a<=u/\u<b/\i=r u/\c u=h b i:=λa b hab hb ne=>by
  obtain⟨d,rfl⟩:∃d,b=a+d:=⟨b - a,by lia⟩
  obtain⟨u,h1,h2,h3,h4⟩:=aDJ (f:=λx=>h x i) ne
  obtain⟨e1,e2⟩:=(k.st u (by lia)).same (i:=i) (by
   show h (u+1) i≠h u i
   have h3:h u i≠h (a+d) i:=h3
   have h4:h (u+1) i=h (a+d) i:=h4
   rw[h4];exact gy h3)
  exact⟨u,h1,h2,e1,by rw[<- e2];exact h4⟩
 by_cases c1:h s i=h 0 i
 ·rcases Bq 0 t with _ | _
  ·obtain⟨u,_,h2,h3,h4⟩:=g t n ht (bc _) (by rw[k.cl i hi,<- c1];exact gy ne)
   exact⟨u,h2,h3,by rw[h4,k.cl i hi,c1]⟩
  ·obtain rfl:t=0:=by lia
   exact absurd c1.symm ne
 ·obtain⟨u,_,h2,h3,h4⟩:=g 0 s (bg _) hs c1
  exact⟨u,by lia,h3,h4⟩
theorem aKF (f:Nat->Nat):∀{n:Nat},0<n->∃t,t<n/\∀u,u<n->f u<=f t
 |0,h=>absurd h (by lia)
 |1,_=>⟨0,by lia,λu hu=>by obtain rfl:u=0:=(by lia);exact bc _⟩
 |n+2,_=>by
  obtain⟨t,ht,h⟩:=aKF f (n:=n+1) (by lia)
  by_cases c:f (n+1)<=f t
  ·exact⟨t,by lia,λu hu=>by
    by_cases e:u=n+1
    ·rw[e];exact c
    ·exact h u (by lia)⟩
  ·exact⟨n+1,by lia,λu hu=>by
    by_cases e:u=n+1
    ·rw[e];exact bc _
    ·have:=h u (by lia);lia⟩
theorem Circ.none (k:Circ A m N h c r n):False:=by
 obtain⟨t,ht,top⟩:=aKF c k.n0
 have st:=k.st t ht
 have e1:h (t+1) (r t)=c t:=st.at_r
 have e0:h t (r t)≠c t:=st.new st.rm
 obtain⟨s,hs,es,eo⟩:∃s,s<n/\r t=r s/\h s (r t)=c t:=by
  by_cases q:h n (r t)=c t
  ·have q0:h 0 (r t)=c t:=by rw[<- k.cl _ st.rm];exact q
   have:h (0+t) (r t)≠h 0 (r t):=by
    rw[Nat.zero_add,q0];exact e0
   obtain⟨u,h1,h2,h3,h4⟩:=change (f:=λx=>h x (r t)) (a:=0) (n:=t) this
   have h3:h u (r t)=h 0 (r t):=h3
   have h4:h (u+1) (r t)≠h 0 (r t):=h4
   obtain⟨x1,_⟩:=(k.st u (by lia)).same (i:=r t) (by rw[h3];exact h4)
   exact⟨u,by lia,x1,by rw[h3,q0]⟩
  ·obtain⟨d,hd⟩:∃d,n=t+1+d:=⟨n - (t+1),by lia⟩
   have:h (t+1+d) (r t)≠h (t+1) (r t):=by
    rw[<- hd,e1];exact q
   obtain⟨u,h1,h2,h3,h4⟩:=change (f:=λx=>h x (r t)) (a:=t+1) (n:=d) this
   have h3:h u (r t)=h (t+1) (r t):=h3
   have h4:h (u+1) (r t)≠h (t+1) (r t):=h4
   obtain⟨x1,_⟩:=(k.st u (by lia)).same (i:=r t) (by rw[h3];exact h4)
   exact⟨u,by lia,x1,by rw[h3,e1]⟩
 have ss:=k.st s hs
 have rs:h s (r s)=c t:=by rw[<- es];exact eo
 have lt:c s<c t:=by
  have:=top s hs
  have:c s≠c t:=λe=>ss.new ss.rm (rs.trans e.symm)
  lia
 have two:=(k.ok s).two (g:=h t) (s:=c s) (by have:=ss.cN;lia)
 have z1:0<=dd A m (h s)*R A m (h t) m (c s):=i6 (jf (k.ok s).d0) (st.fst _ lt)
 have z2:0<(- R A m (h s) m (c s))*dd A m (h t):=qa (by have:=ss.neg;lia) (k.ok t).d0
 rw[jw] at z2
 obtain⟨i,hi,pos⟩:=aBJ (n:=m) (f:=λi=>R A m (h s) i (c s)*R A m (h t) m (h s i)) (by lia)
 have pos:0<R A m (h s) i (c s)*R A m (h t) m (h s i):=pos
 have ne:h t i≠h s i:=λe=>by
  rw[<- e,Ok.held hi,fj] at pos
  lia
 obtain⟨u,hu,iu,cu⟩:=k.comes hi (i7 hs) (i7 ht) ne
 have le:h s i<=c t:=by rw[<- cu];exact top u hu
 by_cases eq:h s i=c t
 ·have:i=r s:=(k.ok s).inj hi ss.rm (by rw[eq,rs])
  subst this
  rw[eq] at pos
  have p:=ss.pos
  have q:0<R A m (h s) (r s) (c s)*(- R A m (h t) m (c t)):=qa p (by have:=st.neg;lia)
  rw[AK] at q
  lia
 ·have p0:=st.fst (h s i) (by lia)
  have p1:0<R A m (h s) i (c s):=by
   apply b9
   intro no
   have:0<=(- R A m (h s) i (c s))*R A m (h t) m (h s i):=i6 (by lia) p0
   rw[jw] at this
   lia
  have zi:R A m (h s) i N=0:=by
   rw[k.zero0 hi (i7 hs),<- k.zero0 hi (i7 hu),iu]
   exact k.still hu
  have zr:=k.still hs
  have:=(ss.tig i hi p1).2 (by rw[zi,zr,rg,rg])
  rw[rs] at this
  lia
theorem aKw (ok:∀t,Ok A m N (h t))(st:∀t,Stp A m N (h t) (h (t+1)) (c t) (r t)):False:=by
 obtain⟨a,b,hab,_,e⟩:=aKJ (N ^ m) (λt=>code N (h t) m) λt _=>aDi (ok t).hN
 have e:=aBQ (ok a).hN (ok b).hN e
 refine Circ.none (A:=A) (m:=m) (N:=N) (h:=λt=>h (a+t)) (c:=λt=>c (a+t)) (r:=λt=>r (a+t)) (n:=b - a) ⟨λt=>ok _,λt _=>st _,λi hi=>?_,by lia⟩
 show h (a+(b - a)) i=h (a+0) i
 rw[show a+(b - a)=b by lia]
 exact(e i hi).symm
def Nxt (A:Nat->Vec)(m N:Nat)(h' h:Nat->Nat):Prop:=∃c r,Stp A m N h h' c r
theorem Ok.acc {h: Nat->Nat}(k:Ok A m N h):Acc (Nxt A m N) h:=by
 apply b9
 intro na
 let S:={ g:Nat->Nat // Ok A m N g/\¬ Acc (Nxt A m N) g }
 have nx:∀x:S,∃y:S,∃c r,Stp A m N x.1 y.1 c r:=λx=>by
  apply b9
  intro no
  refine x.2.2 (Acc.intro _ λy ⟨c,r,s⟩=>?_)
  apply b9
  intro ny
  exact no ⟨⟨y,x.2.1.step s,ny⟩,c,r,s⟩
 have nx2:∀x:S,∃q:S×Nat×Nat,Stp A m N x.1 q.1.1 q.2.1 q.2.2:=λx=>let⟨y,c,r,s⟩:=nx x;⟨(y,c,r),s⟩
 let f:S->S×Nat×Nat:=λx=>Classical.choose (nx2 x)
 have hf:∀x:S,Stp A m N x.1 (f x).1.1 (f x).2.1 (f x).2.2:=λx=>Classical.choose_spec (nx2 x)
 let sq:Nat->S:=λt=>Nat.rec ⟨h,k,na⟩ (λ_ x=>(f x).1) t
 exact aKw (h:=λt=>(sq t).1) (c:=λt=>(f (sq t)).2.1) (r:=λt=>(f (sq t)).2.2) (λt=>(sq t).2.1) λt=>hf (sq t)
end
theorem sumN_le (h:∀k,k<n->f k<=g k):sumN n f<=sumN n g:=by
 induction n with
 |zero=>exact ij _
 |succ n ih=>
  have h1:=ih λk hk=>h k (by lia)
  have h2:=h n (by lia)
  show sumN n f+f n<=sumN n g+g n
  lia
theorem xC {f: Nat->Nat->Int}{a: Nat}:∀b:Nat,sumN a (λi=>sumN b λj=>f i j)=sumN b λj=>sumN a λi=>f i j
 |0=>iV λ_ _=>rfl
 |b+1=>by
  show sumN a (λi=>sumN b (λj=>f i j)+f i b)=sumN b (λj=>sumN a λi=>f i j)+sumN a λi=>f i b
  rw[gW,xC b]
theorem aDy {B: Int}(hB:0<=B)(hX:0<=X){L: Nat}(hL:(L:Int)*B<=X):∀{M:Nat}{b:Tup},M<=L->(∀k r,-B<=b k r/\b k r<=B)->-(X ^ M)<=det M b/\det M b<=X ^ M:=by
 intro M
 induction M with
 |zero=>intro b _ _;simp[det]
 |succ M ih=>
  intro b hM hb
  have key:∀i,-(B*X ^ M)<=sg (i+M)*(b i M*det M (skip i b))/\sg (i+M)*(b i M*det M (skip i b))<=B*X ^ M:=λi=>by
   have h1:=ih (b:=skip i b) (by lia) λk r=>by unfold skip;split <;> exact hb _ _
   have h2:=hb i M
   generalize det M (skip i b)=d at *
   generalize b i M=e at *
   generalize X ^ M=Y at *
   have a1:d.natAbs<=Y.toNat:=by lia
   have a2:e.natAbs<=B.toNat:=by lia
   have a3:(e*d).natAbs<=(B*Y).toNat:=by
    rw[xc]
    have:B.toNat*Y.toNat=(B*Y).toNat:=by
     rw[<- Int.toNat_mul] <;> lia
    rw[<- this]
    exact Nat.mul_le_mul a2 a1
   have a4:0<=B*Y:=i6 hB (by lia)
   unfold sg
   split <;> lia
  have s1:sumN (M+1) (λi=>sg (i+M)*(b i M*det M (skip i b)))<=sumN (M+1) λ_=>B*X ^ M:=sumN_le λi _=>(key i).2
  have s2:sumN (M+1) (λ_=>-(B*X ^ M))<=sumN (M+1) λi=>sg (i+M)*(b i M*det M (skip i b)):=sumN_le λi _=>(key i).1
  have cs:∀(y:Int) (n:Nat),sumN n (λ_=>y)=(n:Int)*y:=λy n=>by
   induction n with
   |zero=>simp[sumN]
   |succ n ih=>show sumN n (λ_=>y)+y=_;rw[ih,vw,pw];lia
  rw[cs] at s1 s2
  have p:0<=X ^ M:=Int.pow_nonneg hX
  have t:((M+1:Nat):Int)*(B*X ^ M)<=X ^ (M+1):=by
   rw[<- cm,Int.pow_succ,b8 (X ^ M)]
   refine gk (Bu (gk ?_ hB) hL) p
   lia
  rw[AK] at s2
  show -(X ^ (M+1))<=sumN (M+1) _/\sumN (M+1) _<=X ^ (M+1)
  lia
def A0 (m k:Nat)(co:Nat->Nat->Int)(ob wy:Nat->Int):Nat->Vec:=λj c=>if j<k then(if c<m then co j c else if c=m then ob j else 0) else if j<k+m then(if c=j - k then 1 else 0) else if c<m then wy c else 0
theorem A0_slack (hp:p<m): (A0 m k co ob wy) (k+p)=unit p:=by
 funext c
 unfold A0 unit
 rw[if_neg (by lia),if_pos (by lia),show k+p - k=p by lia]
theorem A0_step (hj:j<k)(hc:c<m): (A0 m k co ob wy) j c=co j c:=by unfold A0;rw[if_pos hj,if_pos hc]
theorem A0_ob (hj:j<k): (A0 m k co ob wy) j m=ob j:=by unfold A0;rw[if_pos hj,if_neg (by lia),if_pos rfl]
theorem A0_wy (hc:c<m): (A0 m k co ob wy) (k+m) c=wy c:=by unfold A0;rw[if_neg (by lia),if_neg (by lia),if_pos hc]
theorem A0_w0: (A0 m k co ob wy) (k+m) m=0:=by unfold A0;rw[if_neg (by lia),if_neg (by lia),if_neg (by lia)]
theorem A0_out (hc:m<c): (A0 m k co ob wy) j c=0:=by
 unfold A0
 split
 ·rw[if_neg (by lia),if_neg (by lia)]
 ·split
  ·rw[if_neg (by lia)]
  ·rw[if_neg (by lia)]
def h0 (k:Nat):Nat->Nat:=λi=>k+i
theorem bv0 (hi:i<=m):bv (A0 m k co ob wy) m (h0 k) i=unit i:=by
 unfold bv
 split
 ·rename_i h;exact A0_slack h
 ·rw[show i=m by lia]
theorem aAN {v: Vec}{n: Nat}(h:∀c,n<=c->v c=0):v=λc=>sumN n λp=>v p*unit p c:=by
 funext c
 by_cases hc:c<n
 ·rw[eO hc λp _ hne=>by show v p*(if c=p then 1 else 0)=0;rw[if_neg (gy hne),fj]]
  show v c=v c*(if c=c then 1 else 0)
  rw[if_pos rfl,jc]
 ·rw[h c (by lia),iV λp hp=>by show v p*(if c=p then 1 else 0)=0;rw[if_neg (by lia),fj]]
theorem dd0:dd (A0 m k co ob wy) m (h0 k)=1:=by
 unfold dd
 rw[aAl (b':=unit) λi hi=>bv0 (by lia),aBb]
theorem R0 (hi:i<=m):R (A0 m k co ob wy) m (h0 k) i j=(A0 m k co ob wy) j i:=by
 unfold R
 rw[aAN (v:=(A0 m k co ob wy) j) (n:=m+1) λc hc=>A0_out (by lia),qQ (by lia),eO (i:=i) (by lia) λp hp hne=>?_]
 ·have:up (bv (A0 m k co ob wy) m (h0 k)) i (unit i)=bv (A0 m k co ob wy) m (h0 k):=by
   have e:unit i=bv (A0 m k co ob wy) m (h0 k) i:=(bv0 hi).symm
   rw[e,gI]
  rw[this]
  have:det (m+1) (bv (A0 m k co ob wy) m (h0 k))=1:=dd0
  rw[this,jc]
  show _=sumN (m+1) λp=>(A0 m k co ob wy) j p*unit p i
  rw[eO (i:=i) (by lia) λp _ hne=>by show(A0 m k co ob wy) j p*(if i=p then 1 else 0)=0;rw[if_neg (gy hne),fj]]
  show _=(A0 m k co ob wy) j i*(if i=i then 1 else 0)
  rw[if_pos rfl,jc]
 ·rw[eM (i:=p) (j:=i) (by lia) (by lia) hne (by rw[iK hne,cO,bv0 (by lia)]),fj]
theorem ok0 (hw:∀p,p<m->0<=wy p):Ok (A0 m k co ob wy) m (k+m) (h0 k):=by
 refine⟨by rw[dd0];decide,λi hi=>by show k+i<k+m;lia,λj hj c=>?_,λi hi=>?_⟩
 ·rw[dd0,nj]
  have e:=congrFun (aAN (v:=(A0 m k co ob wy) j) (n:=m+1) λc hc=>A0_out (by lia)) c
  rw[e]
  refine sumN_congr λp hp=>?_
  rw[R0 (by lia),bv0 (by lia)]
 ·rw[R0 (by lia),A0_wy hi];exact hw i hi
def zz (m:Nat)(x:Nat->Int)(v:Vec):Int:=v m+sumN m λp=>x p*v p
theorem aLL {m: Nat}{x a: Nat->Int}{w: Nat->Vec}(n:Nat):zz m x (λc=>sumN n λi=>a i*w i c)=sumN n λi=>a i*zz m x (w i):=by
 unfold zz
 have e:(λp=>x p*sumN n λi=>a i*w i p)=λp=>sumN n λi=>a i*(x p*w i p):=by
  funext p
  rw[<- sumN_mul]
  exact sumN_congr λi _=>dm ..
 rw[e,xC]
 have e2:(λi=>a i*(w i m+sumN m λp=>x p*w i p))=λi=>a i*w i m+sumN m λp=>a i*(x p*w i p):=by
  funext i
  rw[fh,sumN_mul]
 rw[e2,gW]
theorem unb {m k: Nat}{co: Nat->Nat->Int}{ob wy: Nat->Int}{h: Nat->Nat}{c: Nat}{x: Nat->Int}(ok:Ok (A0 m k co ob wy) m (k+m) h)(hx:∀p,p<m->0<=x p)(hz:∀j,j<k->0<=ob j+sumN m λp=>x p*co j p)(hc:c<k+m)(neg:R (A0 m k co ob wy) m h m c<0):∃i,i<m/\0<R (A0 m k co ob wy) m h i c:=by
 have zc:∀j,j<k+m->0<=zz m x ((A0 m k co ob wy) j):=λj hj=>by
  unfold zz
  by_cases q:j<k
  ·rw[A0_ob q,sumN_congr (g:=λp=>x p*co j p) λp hp=>by rw[A0_step q hp]]
   exact hz j q
  ·obtain⟨p,rfl⟩:∃p,j=k+p:=⟨j - k,by lia⟩
   rw[A0_slack (by lia)]
   have:0<=sumN m λq=>x q*unit p q:=pZ λq hq=>i6 (hx q hq) (by unfold unit;split <;> decide)
   have:unit p m=0:=if_neg (by lia)
   lia
 have e:dd (A0 m k co ob wy) m h*zz m x ((A0 m k co ob wy) c)=sumN (m+1) λi=>R (A0 m k co ob wy) m h i c*zz m x (bv (A0 m k co ob wy) m h i):=by
  rw[<- aLL]
  have:(λq=>sumN (m+1) λi=>R (A0 m k co ob wy) m h i c*bv (A0 m k co ob wy) m h i q)=λq=>dd (A0 m k co ob wy) m h*(A0 m k co ob wy) c q:=by
   funext q
   rw[ok.ex c (by lia) q]
  rw[this]
  unfold zz
  rw[fh,<- sumN_mul]
  congr 1
  exact sumN_congr λp _=>dm ..
 have e2:sumN (m+1) (λi=>R (A0 m k co ob wy) m h i c*zz m x (bv (A0 m k co ob wy) m h i))=sumN m (λi=>R (A0 m k co ob wy) m h i c*zz m x ((A0 m k co ob wy) (h i)))+R (A0 m k co ob wy) m h m c:=by
  show sumN m _+R (A0 m k co ob wy) m h m c*zz m x (bv (A0 m k co ob wy) m h m)=_
  have:zz m x (bv (A0 m k co ob wy) m h m)=1:=by
   rw[aKu]
   unfold zz
   rw[iV λp hp=>by show x p*(if p=m then 1 else 0)=0;rw[if_neg (by lia),fj]]
   show(if m=m then(1:Int) else 0)+0=1
   rw[if_pos rfl]
   rfl
  rw[this,jc]
  congr 1
  exact sumN_congr λi hi=>by rw[rR hi]
 have p:0<=dd (A0 m k co ob wy) m h*zz m x ((A0 m k co ob wy) c):=i6 (jf ok.d0) (zc c hc)
 obtain⟨i,hi,pos⟩:=aBJ (n:=m) (f:=λi=>R (A0 m k co ob wy) m h i c*zz m x ((A0 m k co ob wy) (h i))) (by lia)
 refine⟨i,hi,?_⟩
 have zi:=zc (h i) (ok.hN i hi)
 have pos:0<R (A0 m k co ob wy) m h i c*zz m x ((A0 m k co ob wy) (h i)):=pos
 apply b9
 intro no
 have:0<=(- R (A0 m k co ob wy) m h i c)*zz m x ((A0 m k co ob wy) (h i)):=i6 (by lia) zi
 rw[jw] at this
 lia
theorem last:R (A0 m k co ob wy) m h m j=(sumN m λp=>(A0 m k co ob wy) j p*R (A0 m k co ob wy) m h m (k+p))+(A0 m k co ob wy) j m*dd (A0 m k co ob wy) m h:=by
 have e:R (A0 m k co ob wy) m h m j=det (m+1) (up (bv (A0 m k co ob wy) m h) m λc=>sumN (m+1) λp=>(A0 m k co ob wy) j p*unit p c):=by
  rw[<- aAN (v:=(A0 m k co ob wy) j) (n:=m+1) λc hc=>A0_out (by lia)]
  rfl
 rw[e,qQ (by lia)]
 show sumN m _+(A0 m k co ob wy) j m*det (m+1) (up (bv (A0 m k co ob wy) m h) m (unit m))=_
 rw[aIe]
 congr 1
 refine sumN_congr λp hp=>?_
 unfold R
 rw[A0_slack hp]
theorem last_step (hj:j<k):R (A0 m k co ob wy) m h m j=(sumN m λp=>co j p*R (A0 m k co ob wy) m h m (k+p))+ob j*dd (A0 m k co ob wy) m h:=by
 rw[last,A0_ob hj]
 congr 1
 exact sumN_congr λp hp=>by rw[A0_step hj hp]
theorem last_worth:R (A0 m k co ob wy) m h m (k+m)=sumN m λp=>wy p*R (A0 m k co ob wy) m h m (k+p):=by
 rw[last,A0_w0,rg,ub]
 exact sumN_congr λp hp=>by rw[A0_wy hp]
theorem held_way (ok:Ok (A0 m k co ob wy) m (k+m) h)(hp:p<m):dd (A0 m k co ob wy) m h*wy p=sumN m λi=>R (A0 m k co ob wy) m h i (k+m)*(A0 m k co ob wy) (h i) p:=by
 have e:=ok.ex (k+m) (bc _) p
 rw[A0_wy hp] at e
 rw[e]
 show sumN m _+R (A0 m k co ob wy) m h m (k+m)*bv (A0 m k co ob wy) m h m p=_
 rw[aKu,show unit m p=0 from if_neg (by lia),fj,ub]
 exact sumN_congr λi hi=>by rw[rR hi]
theorem held_worth (ok:Ok (A0 m k co ob wy) m (k+m) h):R (A0 m k co ob wy) m h m (k+m)+(sumN m λi=>R (A0 m k co ob wy) m h i (k+m)*(A0 m k co ob wy) (h i) m)=0:=by
 have e:=ok.ex (k+m) (bc _) m
 rw[A0_w0,fj] at e
 have e:0=sumN m (λi=>R (A0 m k co ob wy) m h i (k+m)*bv (A0 m k co ob wy) m h i m)+R (A0 m k co ob wy) m h m (k+m)*bv (A0 m k co ob wy) m h m m:=e
 rw[aKu,show unit m m=1 from if_pos rfl,jc,sumN_congr (g:=λi=>R (A0 m k co ob wy) m h i (k+m)*(A0 m k co ob wy) (h i) m) λi hi=>by rw[rR hi]] at e
 lia
theorem no_opp (ok:Ok (A0 m k co ob wy) m (k+m) h)(hi:i<m)(hj:j<m)(e:∀c,(A0 m k co ob wy) (h i) c = -1*(A0 m k co ob wy) (h j) c)(hij:i≠j):False:=by
 have:dd (A0 m k co ob wy) m h=0:=by
  unfold dd
  have:bv (A0 m k co ob wy) m h=up (bv (A0 m k co ob wy) m h) i (λc=>-1*bv (A0 m k co ob wy) m h j c):=by
   have:(λc=>-1*bv (A0 m k co ob wy) m h j c)=bv (A0 m k co ob wy) m h i:=by
    funext c
    rw[rR hi,rR hj,e c]
   rw[this,gI]
  rw[this,nL (by lia),eM (i:=i) (j:=j) (by lia) (by lia) hij (by rw[cO,iK (gy hij)]),fj]
 have:=ok.d0
 lia
theorem R_bound (hm:m<=15)(hc:∀j c,-2<=co j c/\co j c<=2)(ho:∀j,-2<=ob j/\ob j<=2)(hw:∀p,0<=wy p/\wy p<=1000000): (R (A0 m k co ob wy) m h i j).natAbs<2 ^ 400:=by
 have ha:∀j c,-1000000<=(A0 m k co ob wy) j c/\(A0 m k co ob wy) j c<=1000000:=λj c=>by
  unfold A0
  have h1:=hc j c
  have h2:=ho j
  have h3:=hw c
  repeat' split
  all_goals lia
 have hb:∀(v:Nat->Nat->Int),(∀a c,-1000000<=v a c/\v a c<=1000000)->(det (m+1) v).natAbs<2 ^ 400:=λv hv=>by
  have:=aDy (B:=1000000) (X:=16777216) (L:=16) (by decide) (by decide) (by decide) (M:=m+1) (b:=v) (by lia) hv
  have p:(16777216:Nat) ^ (m+1)<2 ^ 400:=bh (ff (by decide) (show m+1<=16 by lia)) (by
   rw[show(16777216:Nat)=2 ^ 24 from rfl,<- Nat.pow_mul]
   exact Nat.pow_lt_pow_right (by decide) (by decide))
  have q:(16777216:Int) ^ (m+1)=((16777216 ^ (m+1):Nat):Int):=(Int.natCast_pow 16777216 (m+1)).symm
  rw[q] at this
  generalize (16777216:Nat) ^ (m+1)=y at *
  generalize (2:Nat) ^ 400=z at *
  lia
 unfold R
 refine hb _ λa c=>?_
 unfold up bv unit
 split
 ·exact ha _ _
 ·split
  ·exact ha _ _
  ·show -1000000<=(if c=m then(1:Int) else 0)/\(if c=m then(1:Int) else 0)<=1000000
   split <;> decide
theorem dd_bound (hm:m<=15)(hc:∀j c,-2<=co j c/\co j c<=2)(ho:∀j,-2<=ob j/\ob j<=2)(hw:∀p,0<=wy p/\wy p<=1000000): (dd (A0 m k co ob wy) m h).natAbs<2 ^ 400:=by
 by_cases m0:0<m
 ·have:dd (A0 m k co ob wy) m h=R (A0 m k co ob wy) m h 0 (h 0):=by unfold dd R;rw[<- rR (A:=(A0 m k co ob wy)) (h:=h) m0,gI]
  rw[this]
  exact R_bound hm hc ho hw
 ·obtain rfl:m=0:=by lia
  have:dd (A0 0 k co ob wy) 0 h=1:=by
   unfold dd
   rw[aAl (b':=unit) λi hi=>by obtain rfl:i=0:=(by lia);exact aKu,aBb]
  rw[this]
  exact Nat.one_lt_two_pow (by decide)
def Rem (A:Nat->Vec)(m N:Nat):Nat->(Nat->Nat)->Prop
 |0,h=>∀h',¬ Nxt A m N h' h
 |k+1,h=>∀h',Nxt A m N h' h->Rem A m N k h'
theorem Rem.up:∀{k:Nat}{h:Nat->Nat},Rem A m N k h->Rem A m N (k+1) h
 |0,_,r=>λh' n=>absurd n (r h')
 |_+1,_,r=>λh' n=>Rem.up (r h' n)
theorem Rem.ups (r:Rem A m N k h):∀d:Nat,Rem A m N (k+d) h
 |0=>r
 |d+1=>(r.ups d).up
theorem bnd {P: Nat->Nat->Prop}(up:∀x k d,P x k->P x (k+d)):∀M:Nat,(∀x,x<M->∃k,P x k)->∃k,∀x,x<M->P x k
 |0,_=>⟨0,λx h=>by lia⟩
 |M+1,h=>by
  obtain⟨k,hk⟩:=bnd up M λx hx=>h x (by lia)
  obtain⟨l,hl⟩:=h M (by lia)
  refine⟨k+l,λx hx=>?_⟩
  by_cases c:x=M
  ·subst c;rw[zd];exact up _ _ _ hl
  ·exact up _ _ _ (hk x (by lia))
theorem Ok.rem (k:Ok A m N h):∃j,Rem A m N j h:=by
 have a:=k.acc
 induction a with
 |intro h _ ih=>
  have h1:∀c,c<N->∃j,∀r,r<m->Stp A m N h (put h r c) c r->Rem A m N j (put h r c):=λc _=>
   bnd (P:=λr j=>Stp A m N h (put h r c) c r->Rem A m N j (put h r c)) (λr j d q s=>(q s).ups d) m λr _=>by
    by_cases s:Stp A m N h (put h r c) c r
    ·obtain⟨j,hj⟩:=ih _ ⟨c,r,s⟩ (k.step s)
     exact⟨j,λ_=>hj⟩
    ·exact⟨0,λz=>absurd z s⟩
  obtain⟨j,hj⟩:=bnd (P:=λc j=>∀r,r<m->Stp A m N h (put h r c) c r->Rem A m N j (put h r c)) (λc j d q r hr s=>(q r hr s).ups d) N h1
  refine⟨j+1,λh' ⟨c,r,s⟩=>?_⟩
  have e:=s.eq
  subst e
  exact hj c s.cN r s.rm s
def Le (x y:Nat->Int)(hd:Nat->Nat)(a b:Nat):Prop:=x a*y b<=x b*y a/\(x a*y b=x b*y a->hd a<=hd b)
theorem Le.refl (x y:Nat->Int)(hd:Nat->Nat)(a:Nat):Le x y hd a a:=⟨ij _,λ_=>bc _⟩
theorem Le.trans (ha:0<y a)(hb:0<y b)(hc:0<y c)(h1:Le x y hd a b)(h2:Le x y hd b c):Le x y hd a c:=by
 refine⟨gU ha hb hc h1.1 h2.1,λe=>?_⟩
 have e1:x b*y a<=x a*y b:=gU hb hc ha h2.1 (Int.le_of_eq e.symm)
 have e2:x c*y b<=x b*y c:=gU hc ha hb (Int.le_of_eq e.symm) h1.1
 exact de (h1.2 (vx h1.1 e1)) (h2.2 (vx h2.1 e2))
theorem Le.of_not (h:(decide (x a*y b<x b*y a) || (decide (x a*y b=x b*y a) && decide (hd a<hd b)))=false):Le x y hd b a:=by
 rw[Bool.or_eq_false_iff] at h
 have h1:=of_decide_eq_false h.1
 refine⟨by lia,λe=>?_⟩
 have h2:=h.2
 rw[decide_eq_true e.symm,A6] at h2
 have:=of_decide_eq_false h2
 lia
theorem Le.of_yes (h:(decide (x a*y b<x b*y a) || (decide (x a*y b=x b*y a) && decide (hd a<hd b)))=true):Le x y hd a b:=by
 rw[o9,dn] at h
 rcases h with h | ⟨h1,h2⟩
 ·have:=of_decide_eq_true h
  exact⟨by lia,λe=>by lia⟩
 ·have h1:=of_decide_eq_true h1
  have h2:=of_decide_eq_true h2
  exact⟨by lia,λ_=>by lia⟩
end Sh
namespace K39
open PySem L2
def aHw (vars:List Nat)(acc:Addr)(σ:St)(H:Hp)(xs:List V)(L:Nat->List V)(pre:List V)(i:Nat)(σ':St)(H':Hp):Prop:=i<=xs.length/\σ'.length=σ.length/\Agree vars σ σ'/\SameX acc H H'/\H' acc=some (.lst (pre++(ao i).flatMap L))
theorem tN (hs:∀H',SameX acc H H'->SqL K H' a xs)(h:∀i x σ' H',xs[i]?=some x->σ'.length=σ.length->Agree vars σ σ'->SameX acc H H'->∃σ2:St,σ2.length=σ.length/\Agree vars σ σ2/\(∀N:St->Hp->Prop,N σ2 H'->g x σ' H' N)/\Emits vars tb acc σ2 H' (L i)):
  Emits vars (cX (Itl K a) g tb) acc σ H ((ao xs.length).flatMap L):=by
 intro D pre ha hz hd
 refine aS (K:=K) (a:=a) (xs:=xs) (g:=g) (D:=D) (aHw vars acc σ H xs L pre) ⟨bg _,rfl,Agree.refl _ _,SameX.refl _ _,by simpa using ha⟩ (λi σ1 H1 _ ⟨_,_,_,sx1,_⟩=>hs H1 sx1) (λi x σ1 H1 hx ⟨_,hl1,ag1,sx1,h1⟩=>?_) λσ1 H1 ⟨_,hl1,ag1,sx1,h1⟩=>hd σ1 H1 hl1 ag1 sx1 h1
 have hi:i<xs.length:=(ai.mp hx).1
 have hle:=bD L (show i+1<=xs.length from hi)
 rw[aI,au] at hle
 obtain⟨σ2,l2,ag2,run,em⟩:=h i x σ1 H1 hx hl1 ag1 sx1
 refine run _ (em _ _ h1 (by rw[au];lia) λσ' H' hl ag sx h2=>⟨hi,hl.trans l2,ag2.trans ag,sx1.trans sx,by rw[h2,aI,gq]⟩)
def aFW (vars:List Nat)(acc:Addr)(σ:St)(H:Hp)(xs:List V)(L:Nat->List V)(pre:List V)(i:Nat)(σ':St)(H':Hp):Prop:=i<=xs.length/\σ'.length=σ.length/\Agree vars σ σ'/\SameX acc H H'/\H' acc=some (.lst (pre++(ao i).flatMap L))
theorem aDs (hlen:ys.length=xs.length)(hs:∀H',SameX acc H H'->SqB b1 K H' l1 xs/\SqB b2 K H' l2 ys)(h:∀i x y σ' H' p,xs[i]?=some x->ys[i]?=some y->H' p=none->σ'.length=σ.length->Agree vars σ σ'->SameX acc H H'->∃σ2:St,σ2.length=σ.length/\Agree vars σ σ2/\(∀N:St->Hp->Prop,N σ2 (upd H' p (.tup [x,y]))->g (.ref p) σ' (upd H' p (.tup [x,y])) N)/\Emits vars tb acc σ2 (upd H' p (.tup [x,y])) (L i)):
  Emits vars (cX (Itz K b1 b2 l1 l2) g tb) acc σ H ((ao xs.length).flatMap L):=by
 intro D pre ha hz hd
 refine aJW (K:=K) (l1:=l1) (l2:=l2) (xs:=xs) (ys:=ys) (g:=g) (D:=D) hlen (aFW vars acc σ H xs L pre) ⟨bg _,rfl,Agree.refl _ _,SameX.refl _ _,by simpa using ha⟩ (λi σ1 H1 _ ⟨_,_,_,sx1,_⟩=>hs H1 sx1) (λi x y σ1 H1 p hx hy hp ⟨_,hl1,ag1,sx1,h1⟩=>?_) λσ1 H1 ⟨_,hl1,ag1,sx1,h1⟩=>hd σ1 H1 hl1 ag1 sx1 h1
 have hi:i<xs.length:=(ai.mp hx).1
 have hle:=bD L (show i+1<=xs.length from hi)
 rw[aI,au] at hle
 obtain⟨σ2,l2,ag2,run,em⟩:=h i x y σ1 H1 p hx hy hp hl1 ag1 sx1
 have mp:=aD hp (.tup [x,y])
 refine run _ (em _ _ (mp _ _ h1) (by rw[au];lia) λσ' H' hl ag sx h2=>⟨hi,hl.trans l2,ag2.trans ag,(sx1.trans mp.x).trans sx,by rw[h2,aI,gq]⟩)
theorem aAH {α: Type}(L:List Nat)(f:Nat->α): (L.flatMap λk=>[f k])=L.map f:=by
 induction L with
 |nil=>rfl
 |cons a L ih=>rw[ka,ih];rfl
def cY (n:Nat):List (Nat×Nat):=(ao n).flatMap λi=>(ao (n - (i+1))).map λd=>(i,i+1+d)
def bG:Nat->List (List Nat)
 |0=>[[]]
 |n+1=>bG n++(bG n).map (· ++ [n])
def cW (n:Nat):List (List Nat):=((bG n).drop 1).take ((bG n).length - 1 - 1)
def okS (n:Nat)(s:List Nat):Bool:=s == [0] || (!s.contains 0 && decide (s.length<n - 1))
def wT (n:Nat):List (List Nat):=(cW n).filter (okS n)
def dQ (n:Nat):List (List Nat×Int):=(wT n).map (λs=>(s,1))++((wT n).filter λs=>s.length == 1).map λs=>(s,-1)
def prt (s:List Nat)(i j:Nat):Bool:=s.contains i != s.contains j
def nN (L:List (List Nat)):List (List Int):=L.map λs=>s.map Int.ofNat
theorem dP: (nN L).length=L.length:=by unfold nN;rw[ae]
theorem eJ:∀n:Nat,(bG n).length=2 ^ n
 |0=>rfl
 |n+1=>by
  show(bG n++(bG n).map _).length=_
  rw[au,ae,eJ n,Nat.pow_succ]
  lia
theorem cP:∀(n:Nat),∀s∈bG n,s.length<=n/\∀x∈s,x<n
 |0,s,h=>by
  obtain rfl:s=[]:=by simpa[bG] using h
  exact⟨bc _,λx hx=>by cases hx⟩
 |n+1,s,h=>by
  rcases di.mp (show s∈bG n++(bG n).map (· ++ [n]) from h) with h | h
  ·have:=cP n s h
   exact⟨by lia,λx hx=>by have:=this.2 x hx;lia⟩
  ·obtain⟨t,ht,rfl⟩:=b6.mp h
   have:=cP n t ht
   refine⟨by rw[au];simp;lia,λx hx=>?_⟩
   rcases di.mp hx with hx | hx
   ·have:=this.2 x hx;lia
   ·obtain rfl:x=n:=by simpa using hx
    lia
theorem aAC (h:s∈cW n):s.length<=n/\∀x∈s,x<n:=cP n s (qh (uu h))
theorem aGn (h:Rows K H xs T)(a b:Nat):Rows K H ((xs.drop a).take b) ((T.drop a).take b):=by
 refine⟨by rw[c9,c9,gp,gp,h.1],λi row e=>?_⟩
 rw[List.getElem?_take] at e ⊢
 split at e
 ·rename_i hi
  rw[jl] at e
  obtain⟨c,e1,e2⟩:=h.2 _ row e
  exact⟨c,by rw[if_pos hi,jl];exact e1,e2⟩
 ·cases e
theorem kR {K: aa}{H: Hp}{xs: List V}{L: List (List Nat)}(h:Rows K H xs (nN L)){i: Nat}{x: V}(hx:xs[i]?=some x):∃s b,L[i]?=some s/\x = .ref b/\SqT K H b (s.map aU):=by
 have hi:i<xs.length:=(ai.mp hx).1
 have hl:i<L.length:=by rw[h.1,dP] at hi;exact hi
 obtain⟨b,e1,e2⟩:=h.2 i (L[i].map Int.ofNat) (by unfold nN;rw[aw,ah hl];rfl)
 rw[hx] at e1
 refine⟨L[i],b,ah hl,bo e1,?_⟩
 rw[dw] at e2
 exact e2
def RowsS (K:aa)(H:Hp)(xs:List V)(L:List (List Nat×Int)):Prop:=xs.length=L.length/\∀(i:Nat) (e:List Nat×Int),L[i]?=some e->∃b q,xs[i]?=some (.ref b)/\SqT K H b [.ref q, .int e.2]/\SqT K H q (e.1.map aU)
theorem RowsS.same (h:RowsS K H xs L)(s:Same H H'):RowsS K H' xs L:=⟨h.1,λi e he=>by
 obtain⟨b,q,e1,e2,e3⟩:=h.2 i e he
 exact⟨b,q,e1,s.tup e2,s.tup e3⟩⟩
theorem RowsS.x (h:RowsS K H xs L)(hp:H p=some (.lst ys))(s:SameX p H H'):RowsS K H' xs L:=⟨h.1,λi e he=>by
 obtain⟨b,q,e1,e2,e3⟩:=h.2 i e he
 exact⟨b,q,e1,xQ e2 hp s,xQ e3 hp s⟩⟩
theorem RowsS.app (h:RowsS K H xs L)(g:RowsS K H ys M):RowsS K H (xs++ys) (L++M):=by
 refine⟨by rw[au,au,h.1,g.1],λi e he=>?_⟩
 by_cases hi:i<L.length
 ·rw[c6 hi] at he
  obtain⟨b,q,e1,e2,e3⟩:=h.2 i e he
  exact⟨b,q,by rw[c6 (by rw[h.1];exact hi)];exact e1,e2,e3⟩
 ·rw[cw (by lia)] at he
  obtain⟨b,q,e1,e2,e3⟩:=g.2 _ e he
  exact⟨b,q,by rw[cw (by rw[h.1];lia),h.1];exact e1,e2,e3⟩
theorem aBO {K: aa}{H: Hp}{xs: List V}{L: List (List Nat×Int)}(h:RowsS K H xs L){i: Nat}{x: V}(hx:xs[i]?=some x):∃e b q,L[i]?=some e/\x = .ref b/\SqT K H b [.ref q, .int e.2]/\SqT K H q (e.1.map aU):=by
 have hi:i<xs.length:=(ai.mp hx).1
 have hl:i<L.length:=by rw[<- h.1];exact hi
 obtain⟨b,q,e1,e2,e3⟩:=h.2 i L[i] (ah hl)
 rw[hx] at e1
 exact⟨L[i],b,q,ah hl,bo e1,e2,e3⟩
theorem aKU (n d:Nat):HT.sIx n d (some (-1))=n - 1:=by
 show(if(-1:Int)<0 then((-1:Int)+(n:Int)).toNat else min (-1:Int).toNat n)=n - 1
 rw[if_pos (by decide)]
 lia
theorem aDh {xs: List V}{a: Nat}(h:a<=xs.length):rO xs (some (a:Int)) (some (-1))=(xs.drop a).take (xs.length - 1 - a):=by
 unfold rO
 rw[HT.sIx_nat,aKU,ph h]
theorem aKc (h:1<=xs.length):rO xs (some 1) (some (-1))=(xs.drop 1).take (xs.length - 1 - 1):=aDh (a:=1) h
theorem aHP:rO xs none (some (-1))=xs.take (xs.length - 1):=by
 unfold rO
 rw[HT.sIx_none,aKU,List.drop_zero]
 rfl
theorem aCf (h:SqL K H p xs)(hn:0<xs.length)(hj:xs[xs.length - 1]?=some v)(q:Q v H):aL K (.ref p) (.int (-1)) H Q:=by
 refine .inl ⟨p,xs,-1,v,rfl,rfl,h,?_,q⟩
 unfold atI ixN
 rw[if_neg (by decide),if_pos (by lia),show((-1:Int)+(xs.length:Int)).toNat=xs.length - 1 by lia]
 exact hj
theorem tY {s: List Nat}{i: Nat}:inV (.int (i:Int)) (s.map aU)=s.contains i:=by
 unfold inV
 rw[List.any_map,List.contains_eq_any_beq]
 congr 1
 funext y
 show eqV (.int (y:Int)) (.int (i:Int))=(i == y)
 unfold eqV
 show decide ((y:Int)=(i:Int))=_
 by_cases c:i=y
 ·subst c;simp
 ·rw[decide_eq_false (by lia),beq_false_of_ne c]
theorem nV {s: List Nat}: (s.map aU).all qA=true:=by
 rw[Bn]
 exact e9.mpr λ_ _=>rfl
def aOA (K:aa):Sp:=λvs H Q _=>∃n:Nat,vs=[.int (n:Int)]/\n<=8/\∀F ys H',Same H H'->H F=none->H' F=some (.lst ys)->Rows K H' ys (prN (cY n))->Q (.ref F) H'
theorem aEz (h:n<=8): (cY n).length<=64:=by
 unfold cY
 have:=bP (λi=>(ao (n - (i+1))).map λd=>(i,i+1+d)) 8 n λi _=>by rw[ae,br];lia
 lia
theorem aNJ:∀vs H Q E,aOA K vs H Q E->pS K { nx:=λ_ H'=>Q .non H',rt:=Q } (aW ["many"] vs) H:=by
 intro vs H Q E h
 obtain⟨n,rfl,h8,q⟩:=h
 refine⟨_,rfl,(n:Int),rfl,by lia,by lia,λA hA=>?_⟩
 rw[dh]
 have e1:prN (cY n)=(ao n).flatMap λi=>(ao (n - (i+1))).flatMap λd=>[[(i:Int),((i+1+d:Nat):Int)]]:=by
  unfold prN cY
  rw[lC]
  congr 1
  funext i
  rw[dw,aAH]
  rfl
 refine nJ (K:=K) [0,1] (prN (cY n)) hA (by rw[dU];have:=aEz h8;lia) (EmR.cast (nP (by decide) (by show 0<3;decide) λi σ1 H1 hi l1 ag1 s1 sx1=>?_) e1.symm) λσ2 H2 pre m2 hA2 r3=>q A pre H2 m2 hA hA2 r3
 rw[kd] at s1
 have t2:σ1[2]?=some (some (.int (n:Int))):=(ag1 2 (by decide)).trans rfl
 refine EmR.mono (vars:=[1]) (aIL (lo:=(i:Int)+1) (n:=n - (i+1)) (λR hR=>⟨_,s1,_,t2,_,_,rfl,⟨by lia,by lia,by lia,by lia⟩,by rw[show((n:Int) - ((i:Int)+1)).toNat=n - (i+1) by lia];exact hR⟩) (by decide) (by rw[l1];show 1<3;decide) λd σ2 H2 hd l2 ag2 s2 sx2=>?_) (by simp)
 have t0:σ2[0]?=some (some (.int (i:Int))):=(ag2 0 (by decide)).trans s1
 rw[show(i:Int)+1+(d:Int)=((i+1+d:Nat):Int) by lia] at s2
 exact vH (by show 2<=100;decide) λR hR=>⟨_,t0,_,s2,hR⟩
def aOC (K:aa):Sp:=λvs H Q _=>∃n:Nat,vs=[.int (n:Int)]/\1<=n/\n<=6/\∀F ys H',Same H H'->H F=none->H' F=some (.lst ys)->Rows K H' ys (nN (cW n))->Q (.ref F) H'
def aGa (K:vy)(H:Hp)(n i:Nat)(σ':St)(H':Hp):Prop:=i<=n/\Same H H'/\∃F x2 ys,σ'=[some (.int (n:Int)),some (.ref F),x2]/\H F=none/\H' F=some (.lst ys)/\Rows K H' ys (nN (bG i))
def aFZ (K:vy)(i:Nat)(H1:Hp)(ys:List V)(A:Addr)(j:Nat)(σ2:St)(H2:Hp):Prop:=j<=ys.length/\Same H1 H2/\(∃x0,σ2=[x0,some (.int (i:Int))])/\∃zs,H2 A=some (.lst zs)/\Rows K H2 zs (nN (((bG i).take j).map (· ++ [i])))
theorem aOm:∀vs H Q E,aOC K vs H Q E->tS K { nx:=λ_ H'=>Q .non H',rt:=Q } (aW ["many","sets","place"] vs) H:=by
 intro vs H Q E h
 obtain⟨n,rfl,n1,n6,q⟩:=h
 refine⟨show 0<=bx by decide,λp hp=>⟨show 1<=bx by decide,λl hl=>?_⟩⟩
 have mp:=aD hp (.tup [])
 have ml:=aD hl (.lst [V.ref p])
 have m0:=mp.trans ml
 have hl0:(upd (upd H p (.tup [])) l (.lst [V.ref p])) l=some (.lst [V.ref p]):=aA
 have hp0:SqT K (upd (upd H p (.tup [])) l (.lst [V.ref p])) p []:=ml.tup (.of aA)
 have hlH:H l=none:=mp.free hl
 generalize upd (upd H p (.tup [])) l (.lst [V.ref p])=G at *
 refine⟨_,rfl,(n:Int),rfl,by lia,by lia,?_⟩
 rw[dh]
 refine bH (lo:=0) (n:=n) (aGa K H n) ⟨bg _,m0,l,none,[.ref p],rfl,hlH,hl0,rfl,λi row e=>?_⟩ (λi σ' H1 hi ⟨_,m1,F,x2,ys,es,hF0,hF,r1⟩=>?_) λσ' H1 ⟨_,m1,F,x2,ys,es,hF0,hF,r1⟩=>?_
 ·match i,e with
  |0,e=>
   obtain rfl:([]:List Int)=row:=bo e
   exact⟨p,rfl,hp0⟩
 ·subst es
  rw[kd]
  have yl:ys.length=(bG i).length:=by rw[r1.1,dP]
  have y64:ys.length<=32:=by
   rw[yl,eJ]
   exact de (ff (by decide) (show i<=5 by lia)) (by decide)
  refine⟨_,rfl,_,rfl,F,rfl, .inl ⟨⟨_, .of hF⟩,λA hA=>?_⟩⟩
  refine aS (K:=K) (a:=F) (xs:=ys) (aFZ K i H1 ys A) ⟨bg _,aD hA _,⟨_,rfl⟩,[],aA,Rows.nil⟩ (λj σ2 H2 _ ⟨_,s2,_⟩ => .of (s2 _ _ hF)) (λj x σ2 H2 hx ⟨_,s2,⟨x0,e2⟩,zs,hA2,r2⟩=>?_) λσ2 H2 ⟨_,s2,_,zs,hA2,r2⟩=>?_
  ·subst e2
   obtain⟨s,b,hs,rfl,hb⟩:=kR (r1.same s2) hx
   have hj:j<ys.length:=(ai.mp hx).1
   have sl:s.length<=i:=(cP i s (ar hs)).1
   refine⟨_,rfl,_,rfl,show 1<=bx by decide,λt ht=>?_⟩
   have mt:=aD ht (.tup [V.int (i:Int)])
   refine .inr ⟨b,t,_,_,rfl,rfl,mt.tup hb, .of aA,?_,λc H3 _ hc s3=>?_⟩
   ·rw[ae]
    exact de (show s.length+1<=10 by lia) (by decide)
   ·have s4:=mt.trans s3
    have hA3:=s4 _ _ hA2
    refine⟨zs,hA3,bh (show zs.length<=100 by rw[r2.1,dP,ae,c9];lia) (by decide),hj,bB hA (s2.trans s4),⟨_,rfl⟩,_,aA,?_⟩
    rw[e8,hs,bj]
    have:nN (((bG i).take j).map (· ++ [i])++((some s).toList.map (· ++ [i])))=nN (((bG i).take j).map (· ++ [i]))++[(s++[i]).map Int.ofNat]:=by
     unfold nN
     rw[bj]
     rfl
    rw[this]
    refine Rows.put (Rows.snoc (r2.same s4) (b:=c) ?_) hA3
    rw[dw,bj]
    exact hc
  ·have hA4:=s2 _ _ hF
   refine .inl ⟨F,A,ys,zs,rfl,rfl,hA4,hA2,?_,λF4 hF4=>?_⟩
   ·rw[r2.1,dP,ae,c9]
    exact de (show _<=100 by lia) (by decide)
   ·have m4:=aD hF4 (.lst (ys++zs))
    refine⟨hi,(m1.trans s2).trans m4,F4,_,ys++zs,rfl,(m1.trans s2).free hF4,aA,?_⟩
    rw[yl,fc] at r2
    have:nN (bG (i+1))=nN (bG i)++nN ((bG i).map (· ++ [i])):=by unfold nN;rw[<- bj];rfl
    rw[this]
    exact(nH (r1.same s2) r2).same m4
 ·subst es
  refine⟨_,rfl,1,rfl,1,rfl,_,rfl, .inl ⟨F,ys,rfl, .of hF,λp' hp'=>?_⟩⟩
  rw[aKc (by rw[r1.1,dP,eJ];exact Nat.one_le_two_pow)]
  have m4:=aD hp' (.lst ((ys.drop 1).take (ys.length - 1 - 1)))
  refine q p' _ _ (m1.trans m4) (m1.free hp') aA ?_
  have:=(aGn r1 1 (ys.length - 1 - 1)).same m4
  have e:nN (cW n)=((nN (bG n)).drop 1).take (ys.length - 1 - 1):=by
   unfold nN cW
   rw[uz,yd,r1.1,dP]
  rw[e]
  exact this
def aNY (K:aa):Sp:=λvs H Q _=>∃(t:Addr) (s:List Nat) (i j:Nat),vs=[.ref t, .int (i:Int), .int (j:Int)]/\SqT K H t (s.map aU)/\Q (.bl (prt s i j)) H
theorem aMr:eqD (.bl a) (.bl b)=(a == b):=by cases a <;> cases b <;> rfl
theorem aKA:∀vs H Q E,aNY K vs H Q E->rA K { nx:=λ_ H'=>Q .non H',rt:=Q } (aW ["some","i","j"] vs) H:=by
 intro vs H Q E h
 obtain⟨t,s,i,j,rfl,ht,q⟩:=h
 refine⟨_,rfl,_,rfl,t,_,rfl, .inr ht,rfl,nV,_,rfl,_,rfl,t,_,rfl, .inr ht,rfl,nV, .bl _, .bl _,bg _,rfl,rfl,?_⟩
 rw[aMr]
 show Q (.bl (!(inV (.int (i:Int)) (s.map aU) == inV (.int (j:Int)) (s.map aU)))) H
 rw[tY,tY]
 exact q
theorem jB {s: List Nat}:s.map aU=(s.map Int.ofNat).map V.int:=by rw[dw];rfl
theorem aFb {r q: List Int}:eqD (.tup (r.map Dt.int)) (.tup (q.map Dt.int))=decide (r=q):=by rw[eqD];exact aKj
theorem xG {s t: List Nat}:s.map Int.ofNat=t.map Int.ofNat↔s=t:=List.map_inj_right λa b e=>Int.ofNat.inj e
theorem nE (r:List Int):dep (.tup (r.map Dt.int))<=100:=by
 have:vJ (r.map Dt.int)=0:=by
  induction r with
  |nil=>rfl
  |cons a r ih=>rw[cf,vJ,ih];rfl
 rw[dep,this]
 decide
theorem aIT {K: aa}{n b: Nat}{s: List Nat}{H: Hp}{R: Bool->Hp->Prop}(n1:1<=n)(hb:SqT K H b (s.map aU))(q:∀H',Same H H'->R (okS n s) H'):
  tOr (aP (tOp (gB K) (aC 0) (fF (aB (tC (.int 0)) aH)))) (aIr (aP (tOp (rIn K true) (tC (.int 0)) (aC 0))) (aP (tOp yLt (tCB (eP K) (aB (aC 0) aH)) (tOp jY (aC 1) (tC (.int 1)))))) [some (.ref b),some (.int (n:Int))] H R:=by
 refine⟨_,rfl,show 1<=bx by decide,λp hp=>?_⟩
 have mp:=aD hp (.tup [V.int 0])
 have hb2:SqT K (upd H p (.tup [V.int 0])) b (s.map aU):=mp.tup hb
 have hp2:SqT K (upd H p (.tup [V.int 0])) p (([0]:List Int).map V.int) := .of aA
 generalize upd H p (.tup [V.int 0])=G at *
 refine⟨.tup ((s.map Int.ofNat).map Dt.int), .tup (([0]:List Int).map Dt.int),nE _,⟨b,_,rfl,by rw[<- jB];exact hb2,ShL.ints _⟩,⟨p,_,rfl,hp2,ShL.ints _⟩,_,rfl,?_⟩
 rw[aFb]
 have e0:decide (s.map Int.ofNat=[(0:Int)])=(s == [0]):=by
  by_cases c:s=[0]
  ·subst c;rfl
  ·rw[beq_false_of_ne c]
   exact decide_eq_false λz=>c (xG.mp (z.trans rfl))
 rw[e0]
 have q:=q G mp
 unfold okS at q
 cases c:s == [0] with
 |true=>
  rw[c] at q
  exact bW rfl q
 |false=>
  rw[c,AS] at q
  refine aV (by decide) ⟨_,rfl,b,_,rfl, .inr hb2,rfl,nV,_,rfl,?_⟩
  show if(!inV (.int 0) (s.map aU))=true then _ else _
  rw[show inV (.int 0) (s.map aU)=s.contains 0 from tY (i:=0)]
  cases c2:s.contains 0 with
  |true=>
   rw[c2] at q
   exact aV (by decide) q
  |false=>
   rw[c2] at q
   refine bW rfl ⟨_,rfl,b,_,rfl, .inr hb2,_,rfl,_,_,rfl,rfl,_,_,rfl,rfl,_,rfl,?_⟩
   rw[ae]
   have:decide ((s.length:Int)<(n:Int) - 1)=decide (s.length<n - 1):=by
    by_cases d:s.length<n - 1
    ·rw[decide_eq_true d];exact decide_eq_true (by lia)
    ·rw[decide_eq_false d];exact decide_eq_false (by lia)
   rw[this]
   exact q
def aHN (K:vy)(A:Addr)(H:Hp)(ys:List V)(L:List (List Nat))(c:Int)(p:List Nat->Bool)(i:Nat)(σ':St)(H':Hp):Prop:=i<=ys.length/\Same H H'/\(∃x0,σ'=[x0])/\∃zs,H' A=some (.lst zs)/\RowsS K H' zs (((L.take i).filter p).map λs=>(s,c))
theorem aDR (hA:H A=none)(hF:H F=some (.lst ys))(r:Rows K H ys (nN L))(z:L.length<=100)(hts:∀(tb:TS) (D:vS) (s:List Nat) (b:Addr) (H':Hp),s∈L->SqT K H' b (s.map aU)->(if p s=true then tb D [some (.ref b)] H' else D.nx [some (.ref b)] H')->eE ts tb D [some (.ref b)] H')(htc:∀σ H' (Q:VK),Q (.int c) H'->tc σ H' Q)(q:∀σ' H' zs,Same H H'->H' A=some (.lst zs)->RowsS K H' zs ((L.filter p).map λs=>(s,c))->D.nx σ' H'):cX (Itl K F) (aE 0) (eE ts (bF (fF (aB (aC 0) (aB tc aH))) A)) D [x0] (upd H A (.lst [])):=by
 have yl:ys.length=L.length:=by rw[r.1,dP]
 refine aS (K:=K) (a:=F) (xs:=ys) (D:=D) (aHN K A H ys L c p) ⟨bg _,aD hA _,⟨_,rfl⟩,[],aA,rfl,λi e he=>by cases he⟩ (λi σ1 H1 _ ⟨_,s1,_⟩ => .of (s1 _ _ hF)) (λi x σ1 H1 hx ⟨_,s1,⟨x1,es⟩,zs,hA1,r1⟩=>?_) λσ1 H1 ⟨_,s1,_,zs,hA1,r1⟩=>q σ1 H1 zs s1 hA1 (by rw[yl,fc] at r1;exact r1)
 subst es
 have hi:i<ys.length:=(ai.mp hx).1
 obtain⟨s,b,hs,rfl,hb⟩:=kR (r.same s1) hx
 refine hts _ _ s b H1 (ar hs) hb ?_
 have e1:(L.take (i+1)).filter p=(L.take i).filter p++if p s=true then[s] else[]:=by
  rw[e8,hs,kl]
  congr 1
  show[s].filter p=_
  by_cases c:p s=true
  ·rw[if_pos c,il c];rfl
  ·rw[if_neg c,ip c];rfl
 by_cases cp:p s=true
 ·rw[if_pos cp] at e1
  refine bW cp ⟨_,rfl,htc _ _ _ ⟨show 2<=bx by decide,λt ht=>?_⟩⟩
  have mt:=aD ht (.tup [V.ref b, .int c])
  have hA2:=mt _ _ hA1
  refine⟨zs,hA2,bh (show zs.length<=100 by rw[r1.1,ae];have:=f9 p (L.take i);rw[c9] at this;lia) (by decide),hi,bB hA (s1.trans mt),⟨_,rfl⟩,_,aA,?_⟩
  rw[e1,bj]
  refine RowsS.x (H:=upd H1 t (.tup [V.ref b, .int c])) (p:=A) (RowsS.app (r1.same mt) ⟨rfl,λk e he=>?_⟩) hA2 (SameX.put _)
  match k,he with
  |0,he=>
   obtain rfl:(s,c)=e:=bo he
   exact⟨t,b,rfl, .of aA,mt.tup hb⟩
 ·rw[if_neg cp,iq] at e1
  refine aV (by simpa using cp) ⟨hi,s1,⟨_,rfl⟩,zs,hA1,?_⟩
  rw[e1]
  exact r1
def aOT (K:aa):Sp:=λvs H Q _=>∃n:Nat,vs=[.int (n:Int)]/\3<=n/\n<=6/\∀F ys H',Same H H'->H F=none->H' F=some (.lst ys)->RowsS K H' ys (dQ n)->Q (.ref F) H'
theorem aBo (h:n<=6): (cW n).length<=62:=by
 unfold cW
 rw[c9,gp,eJ]
 have:2 ^ n<=2 ^ 6:=ff (by decide) h
 have:(2:Nat) ^ 6=64:=rfl
 lia
theorem aDF (h:n<=6): (wT n).length<=62:=de (f9 _ _) (aBo h)
def aGq (K:vy)(n:Nat)(ys0:List V)(H0:Hp)(A:Addr)(i:Nat)(σ':St)(H':Hp):Prop:=i<=ys0.length/\Same H0 H'/\(∃x0,σ'=[x0,some (.int (n:Int))])/\∃zs,H' A=some (.lst zs)/\Rows K H' zs (nN (((cW n).take i).filter (okS n)))
theorem aNz:∀vs H Q E,aOT K vs H Q E->jN K (aOC K) { nx:=λ_ H'=>Q .non H',rt:=Q } (aW ["many","sets"] vs) H:=by
 intro vs H Q E h
 obtain⟨n,rfl,n3,n6,q⟩:=h
 refine⟨_,rfl,n,rfl,by lia,n6,λF0 ys0 H0 s0 _ hF0 r0=>⟨F0,rfl, .inl ⟨⟨_, .of hF0⟩,λA hA=>?_⟩⟩⟩
 have yl:ys0.length=(cW n).length:=by rw[r0.1,dP]
 refine aS (K:=K) (a:=F0) (xs:=ys0) (aGq K n ys0 H0 A) ⟨bg _,aD hA _,⟨_,rfl⟩,[],aA,Rows.nil⟩ (λi σ1 H1 _ ⟨_,s1,_⟩ => .of (s1 _ _ hF0)) (λi x σ1 H1 hx ⟨_,s1,⟨x1,es⟩,zs,hA1,r1⟩=>?_) λσ1 H1 ⟨_,s1,_,zs,hA1,r1⟩=>?_
 ·subst es
  have hi:i<ys0.length:=(ai.mp hx).1
  obtain⟨s,b,hs,rfl,hb⟩:=kR (r0.same s1) hx
  refine aIT (by lia) hb λH2 s2=>?_
  have hA2:=s2 _ _ hA1
  have e1:((cW n).take (i+1)).filter (okS n)=((cW n).take i).filter (okS n)++if okS n s=true then[s] else[]:=by
   rw[e8,hs,kl]
   congr 1
   show[s].filter (okS n)=_
   by_cases c:okS n s=true
   ·rw[if_pos c,il c];rfl
   ·rw[if_neg c,ip c];rfl
  by_cases cp:okS n s=true
  ·rw[if_pos cp] at e1
   refine bW cp ⟨_,rfl,zs,hA2,bh (show zs.length<=100 by rw[r1.1,dP];have:=f9 (okS n) ((cW n).take i);rw[c9] at this;have:=aBo n6;lia) (by decide),hi,bB hA (s1.trans s2),⟨_,rfl⟩,_,aA,?_⟩
   rw[e1]
   have:nN (((cW n).take i).filter (okS n)++[s])=nN (((cW n).take i).filter (okS n))++[s.map Int.ofNat]:=by unfold nN;rw[bj];rfl
   rw[this]
   exact Rows.put (Rows.snoc (r1.same s2) (by rw[<- jB];exact s2.tup hb)) hA2
  ·rw[if_neg cp,iq] at e1
   refine aV (by simpa using cp) ⟨hi,s1.trans s2,⟨_,rfl⟩,zs,hA2,?_⟩
   rw[e1]
   exact r1.same s2
 ·rw[yl,fc] at r1
  have r1:Rows K H1 zs (nN (wT n)):=r1
  have z6:=aDF n6
  refine⟨_,rfl,A,rfl, .inl ⟨⟨_, .of hA1⟩,λB hB=>?_⟩⟩
  refine aDR (K:=K) (F:=A) (c:=1) (p:=λ_=>true) (ts:=[]) hB hA1 r1 (by lia) (λtb D s b H' _ _ h=>by rw[if_pos rfl] at h;exact h) (λ_ _ _ h=>h) λσ2 H2 us s2 hB2 r2=>?_
  refine⟨_,rfl,A,rfl, .inl ⟨⟨_, .of (s2 _ _ hA1)⟩,λC hC=>?_⟩⟩
  refine aDR (K:=K) (F:=A) (c:=-1) (p:=λs=>s.length == 1) (ts:=[(aP (tOp (gB K) (tCB (eP K) (aB (aC 0) aH)) (tC (.int 1))))]) hC (s2 _ _ hA1) (r1.same s2) (by lia) (λtb D s b H' _ hb h=>?_) (λ_ _ _ h=>⟨1,rfl,h⟩) λσ3 H3 ws s3 hC3 r3=>?_
  ·refine⟨_,rfl,b,_,rfl, .inr hb, .int (s.length:Int), .int ((1:Nat):Int),bg _,by rw[ae];rfl,rfl,_,rfl,?_⟩
   rw[aFP]
   exact h
  ·refine .inl ⟨B,C,us,ws,rfl,rfl,s3 _ _ hB2,hC3,?_,λF4 hF4=>?_⟩
   ·rw[r2.1,r3.1,ae,ae]
    have h1:=f9 (λ_=>true) (wT n)
    have h2:=f9 (λs:List Nat=>s.length == 1) (wT n)
    exact de (show _<=200 by lia) (by decide)
   ·have m4:=aD hF4 (.lst (us++ws))
    have sA:=(((s0.trans s1).trans s2).trans s3)
    refine q F4 _ _ (sA.trans m4) (sA.free hF4) aA ?_
    have:dQ n=((wT n).filter λ_=>true).map (λs=>(s,(1:Int)))++((wT n).filter λs=>s.length == 1).map λs=>(s,(-1:Int)):=by
     unfold dQ
     rw[qx.mpr λ_ _=>rfl]
    rw[this]
    exact((r2.same s3).app r3).same m4
section
variable {K:aa}
def mkR (N:Nat)(f:Nat->Int):List V:=(ao N).map λj=>V.int (f j)
theorem aT: (mkR N f).length=N:=by unfold mkR;rw[ae,br]
theorem jS (h:j<N): (mkR N f)[j]?=some (.int (f j)):=by unfold mkR;rw[aw,jx h];rfl
theorem vQ (h:(mkR N f)[j]?=some x):j<N/\x = .int (f j):=by
 have hj:j<N:=by have:=(ai.mp h).1;rw[aT] at this;exact this
 rw[jS hj] at h
 exact⟨hj,(bo h).symm⟩
theorem cU (h:∀j,j<N->f j=g j):mkR N f=mkR N g:=by
 unfold mkR
 exact gw λj hj=>by rw[h j (az.mp hj)]
structure Mt (H:Hp)(F:Addr)(ls:List Addr)(m N:Nat)(f:Nat->Nat->Int):Prop where
 top:H F=some (.lst (ls.map V.ref))
 len:ls.length=m
 row:∀(i:Nat) (l:Addr),ls[i]?=some l->H l=some (.lst (mkR N (f i)))
 out:F∉ls
theorem Mt.same (M:Mt H F ls m N f)(s:Same H H'):Mt H' F ls m N f:=⟨s _ _ M.top,M.len,λi l h=>s _ _ (M.row i l h),M.out⟩
theorem Mt.congr (M:Mt H F ls m N f)(h:∀i j,i<m->j<N->f i j=g i j):Mt H F ls m N g:=⟨M.top,M.len,λi l e=>by
 have hi:i<m:=by have:=(ai.mp e).1;rw[M.len] at this;exact this
 rw[M.row i l e,cU λj hj=>h i j hi hj],M.out⟩
theorem Mt.at (M:Mt H F ls m N f)(hi:i<m):∃l,ls[i]?=some l/\(ls.map V.ref)[i]?=some (.ref l)/\H l=some (.lst (mkR N (f i))):=by
 have hl:i<ls.length:=by rw[M.len];exact hi
 exact⟨ls[i],ah hl,by rw[aw,ah hl];rfl,M.row i _ (ah hl)⟩
theorem aHh (M:Mt H F ls m N f)(ht:σ[t]?=some (some (.ref F)))(hi:σ[si]?=some (some (.int (i:Int))))(hj:σ[sj]?=some (some (.int (j:Int))))(li:i<m)(lj:j<N)(q:Q (.int (f i j)) H):tOp (aL K) (tOp (aL K) (aC t) (aC si)) (aC sj) σ H Q:=by
 obtain⟨l,h1,h2,h3⟩:=M.at li
 exact⟨_,ht,_,hi,ixL (.of M.top) h2 ⟨_,hj,ixL (.of h3) (jS lj) q⟩⟩
theorem aLX (M:Mt H F ls m N f)(ht:σ[t]?=some (some (.ref F)))(hi:σ[si]?=some (some (.int (i:Int))))(li:i<m)(N0:0<N)(q:Q (.int (f i (N - 1))) H):tOp (aL K) (tOp (aL K) (aC t) (aC si)) (tUn wZ (tC (.int 1))) σ H Q:=by
 obtain⟨l,h1,h2,h3⟩:=M.at li
 exact⟨_,ht,_,hi,ixL (.of M.top) h2 ⟨1,rfl,aCf (.of h3) (by rw[aT];exact N0) (by rw[aT];exact jS (by lia)) q⟩⟩
def aNn (K:aa):Sp:=λvs H Q _=>∃(F:Addr) (ls:List Addr) (m N:Nat) (f:Nat->Nat->Int),vs=[.ref F]/\Mt H F ls (m+1) (N+1) f/\N<=100/\∀H',Same H H'->((∀j,j<N->0<=f m j)->Q .non H')/\∀c,c<N->f m c<0->(∀j,j<c->0<=f m j)->Q (.int (c:Int)) H'
theorem aOk:∀vs H Q E,aNn K vs H Q E->gF K { nx:=λ_ H'=>Q .non H',rt:=Q } (aW ["rows","column","turned"] vs) H:=by
 intro vs H Q E h
 obtain⟨F,ls,m,N,f,rfl,M,hN,q⟩:=h
 obtain⟨l,h1,h2,h3⟩:=M.at (show m<m+1 by lia)
 refine⟨_,rfl,1,rfl,aCf (.of M.top) (by rw[ae,M.len];lia) (by rw[ae,M.len];exact h2) ⟨1,rfl,_,rfl, .inl ⟨l,_,rfl, .of h3,λp hp=>?_⟩⟩⟩
 rw[aHP]
 have ec:(mkR (N+1) (f m)).take ((mkR (N+1) (f m)).length - 1)=mkR N (f m):=by
  rw[aT]
  unfold mkR
  rw[<- uz,List.take_range,ph (by lia)]
  rfl
 rw[ec]
 have mp:=aD hp (.lst (mkR N (f m)))
 have hp2:(upd H p (.lst (mkR N (f m)))) p=some (.lst (mkR N (f m))):=aA
 generalize upd H p (.lst (mkR N (f m)))=G at *
 refine⟨p,true,rfl,⟨_, .of hp2⟩,?_⟩
 refine nT (K:=K) (b:=true) (l:=p) (xs:=mkR N (f m)) (λi σ' H'=>i<=N/\Same G H'/\(∃x1 x2,σ'=[some (.ref F),x1,x2])/\∀j,j<i->0<=f m j) ⟨bg _,Same.refl _,⟨_,_,rfl⟩,λj hj=>by lia⟩ (λi σ1 H1 _ ⟨_,s1,_⟩ => .of (s1 _ _ hp2)) (λi x σ1 H1 t hx ht ⟨_,s1,⟨x1,x2,es⟩,a1⟩=>?_) λσ1 H1 ⟨_,s1,_,a1⟩=>(q H1 (mp.trans s1)).1 (by rw[aT] at a1;exact a1)
 subst es
 obtain⟨hi,rfl⟩:=vQ hx
 have mt:=aD ht (.tup [V.int (i:Int), .int (f m i)])
 refine⟨t,_,rfl, .of aA,rfl,_,_,rfl,_,_,rfl,rfl,?_⟩
 refine⟨_,rfl,_,_,rfl,rfl,_,rfl,zY (λc=>?_) λc=>?_⟩
 ·exact⟨_,rfl,(q _ ((mp.trans s1).trans mt)).2 i hi (of_decide_eq_true c) a1⟩
 ·refine⟨hi,s1.trans mt,⟨_,_,rfl⟩,λj hj=>?_⟩
  by_cases e:j=i
  ·subst e
   have:=of_decide_eq_false (gx _ |>.mp c)
   lia
  ·exact a1 j (by lia)
def tgt (x y:Nat->Int)(hd:Nat->Nat)(a b:Nat):Bool:=decide (x a*y b<x b*y a) || (decide (x a*y b=x b*y a) && decide (hd a<hd b))
def hdL (m:Nat)(h:Nat->Nat):List V:=(ao m).map λi=>aU (h i)
theorem sV (hi:i<m): (hdL m h)[i]?=some (aU (h i)):=by unfold hdL;rw[aw,jx hi];rfl
theorem dW: (hdL m h).length=m:=by unfold hdL;rw[ae,br]
def aOz (K:aa):Sp:=λvs H Q _=>∃(F hl:Addr) (ls:List Addr) (m N c a o:Nat) (f:Nat->Nat->Int) (h:Nat->Nat),vs=[.ref F, .ref hl, .int (c:Int), .int (a:Int), .int (o:Int)]/\Mt H F ls (m+1) (N+1) f/\H hl=some (.lst (hdL m h))/\(∀i j,(f i j).natAbs<2 ^ 400)/\c<=N/\a<m/\o<m/\Q (.bl (tgt (λi=>f i N) (λi=>f i c) h a o)) H
theorem big {x: Int}(h:x.natAbs<2 ^ 400):x.natAbs<2 ^ 8000:=cg h (ff (by decide) (by decide))
theorem aNG:∀vs H Q E,aOz K vs H Q E->lM K { nx:=λ_ H'=>Q .non H',rt:=Q } (aW ["rows","held","column","at","other","one_room","other_room"] vs) H:=by
 intro vs H Q E h
 obtain⟨F,hl,ls,m,N,c,a,o,f,h,rfl,M,hh,fb,cN,am,om,q⟩:=h
 refine aLX (t:=0) (si:=3) (i:=a) M rfl rfl (by lia) (by lia) ?_
 refine aHh (t:=0) (si:=4) (sj:=2) (i:=o) (j:=c) M rfl rfl rfl (by lia) (by lia) ⟨.inr ⟨big (fb _ _),big (fb _ _)⟩,?_⟩
 refine aLX (t:=0) (si:=4) (i:=o) M rfl rfl (by lia) (by lia) ?_
 refine aHh (t:=0) (si:=3) (sj:=2) (i:=a) (j:=c) M rfl rfl rfl (by lia) (by lia) ⟨.inr ⟨big (fb _ _),big (fb _ _)⟩,?_⟩
 rw[Nat.add_sub_cancel]
 unfold tgt at q
 refine⟨_,rfl,_,rfl,_,_,rfl,rfl,_,rfl,zY (λc1=>?_) λc1=>?_⟩
 ·have:decide (f a N*f o c<f o N*f a c)=true:=c1
  rw[this,Bool.true_or] at q
  exact q
 ·have:decide (f a N*f o c<f o N*f a c)=false:=gx _ |>.mp c1
  rw[this,AS] at q
  refine⟨_,rfl,_,rfl, .int _, .int _,bg _,rfl,rfl,_,rfl,?_⟩
  have ee:eqD (.int (f a N*f o c)) (.int (f o N*f a c))=decide (f a N*f o c=f o N*f a c):=by rw[eqD];rfl
  rw[ee]
  by_cases c2:f a N*f o c=f o N*f a c
  ·rw[decide_eq_true c2,A6] at q
   refine bW (decide_eq_true c2) ⟨_,rfl,_,rfl,ixL (.of hh) (sV am) ⟨_,rfl,_,rfl,ixL (.of hh) (sV om) ⟨_,_,rfl,rfl,?_⟩⟩⟩
   have:decide ((h a:Int)<(h o:Int))=decide (h a<h o):=by
    by_cases z:h a<h o
    ·rw[decide_eq_true z];exact decide_eq_true (by lia)
    ·rw[decide_eq_false z];exact decide_eq_false (by lia)
   rw[this]
   exact q
  ·rw[decide_eq_false c2,wx] at q
   exact aV (decide_eq_false c2) q
def aOu (K:aa):Sp:=λvs H Q _=>∃(F hl:Addr) (ls:List Addr) (m N c:Nat) (f:Nat->Nat->Int) (h:Nat->Nat),vs=[.ref F, .ref hl, .int (c:Int)]/\Mt H F ls (m+1) (N+1) f/\H hl=some (.lst (hdL m h))/\(∀i j,(f i j).natAbs<2 ^ 400)/\c<=N/\m<=100/\(∃i,i<m/\0<f i c) /\
 ∀r H',Same H H'->r<m->0<f r c->(∀i,i<m->0<f i c->Sh.Le (λi=>f i N) (λi=>f i c) h r i)->Q (.int (r:Int)) H'
def aGX (F hl:Addr)(m N c:Nat)(f:Nat->Nat->Int)(h:Nat->Nat)(G:Hp)(i:Nat)(σ':St)(H':Hp):Prop:=i<=m/\Same G H'/\∃x3 x4 x5,σ'=[some (.ref F),some (.ref hl),some (.int (c:Int)),some x3,x4,x5]/\((x3 = .non/\∀j,j<i->f j c<=0)\/∃b,x3 = .int ((b:Nat):Int)/\b<i/\0<f b c/\∀j,j<i->0<f j c->Sh.Le (λi=>f i N) (λi=>f i c) h b j)
theorem aNI:∀vs H Q E,aOu K vs H Q E->iB K (aOz K) { nx:=λ_ H'=>Q .non H',rt:=Q } (aW ["rows","held","column","best","at","row"] vs) H:=by
 intro vs H Q E h
 obtain⟨F,hl,ls,m,N,c,f,h,rfl,M,hh,fb,cN,m1,⟨i0,hi0,pi0⟩,q⟩:=h
 refine⟨_,rfl,1,rfl,_,rfl, .inl ⟨F,_,rfl, .of M.top,λp hp=>?_⟩⟩
 rw[aHP]
 have ec:(ls.map V.ref).take ((ls.map V.ref).length - 1)=(ls.take m).map V.ref:=by rw[ae,M.len,<- uz,Nat.add_sub_cancel]
 rw[ec]
 have mp:=aD hp (.lst ((ls.take m).map V.ref))
 have hp2:(upd H p (.lst ((ls.take m).map V.ref))) p=some (.lst ((ls.take m).map V.ref)):=aA
 have M:=M.same mp
 have hh:=mp _ _ hh
 generalize upd H p (.lst ((ls.take m).map V.ref))=G at *
 have ll:((ls.take m).map V.ref).length=m:=by rw[ae,c9,M.len];lia
 refine⟨p,true,rfl,⟨_, .of hp2⟩,?_⟩
 refine nT (K:=K) (b:=true) (l:=p) (xs:=(ls.take m).map V.ref) (aGX F hl m N c f h G)
  ⟨bg _,Same.refl _, .non,none,none,rfl, .inl ⟨rfl,λj hj=>by lia⟩⟩ (λi σ1 H1 _ ⟨_,s1,_⟩ => .of (s1 _ _ hp2)) (λi x σ1 H1 t hx ht ⟨_,s1,x3,x4,x5,es,inv⟩=>?_) λσ1 H1 ⟨_,s1,x3,x4,x5,es,inv⟩=>?_
 ·subst es
  have hi:i<m:=by have:=(ai.mp hx).1;rw[ll] at this;exact this
  obtain⟨l,g1,g2,g3⟩:=M.at (show i<m+1 by lia)
  have ex:x = .ref l:=by
   rw[aw,ke hi,g1] at hx
   exact(bo hx).symm
  subst ex
  have mt:=aD ht (.tup [V.int (i:Int), .ref l])
  have s2:=s1.trans mt
  refine⟨t,_,rfl, .of aA,rfl,_,_,rfl,_,_,rfl,rfl,?_⟩
  generalize upd H1 t (.tup [V.int (i:Int), .ref l])=G1 at *
  refine⟨_,rfl,_,rfl,ixL (.of (s2 _ _ g3)) (jS (show c<N+1 by lia)) ⟨_,_,rfl,rfl,_,rfl,zY (λc1=>?_) λc1=>?_⟩⟩
  ·have pos:0<f i c:=of_decide_eq_true c1
   rcases inv with⟨rfl,no⟩ | ⟨b,rfl,hb,pb,le⟩
   ·refine⟨_,rfl, .inr ⟨rfl,_,rfl,bW rfl (bW rfl ⟨_,rfl,hi,s2,_,_,_,rfl, .inr ⟨i,rfl,by lia,pos,λj hj pj=>?_⟩⟩)⟩⟩
    by_cases e:j=i
    ·subst e;exact Sh.Le.refl _ _ _ _
    ·have:=no j (by lia);lia
   ·refine⟨_,rfl, .inr ⟨rfl,_,rfl,aV rfl ⟨_,rfl,_,rfl,_,rfl,_,rfl,_,rfl,F,hl,ls,m,N,c,i,b,f,h,rfl,M.same s2,s2 _ _ hh,fb,cN,hi,by lia,_,rfl,?_⟩⟩⟩
    show if tgt (λi=>f i N) (λi=>f i c) h i b=true then _ else _
    cases ct:tgt (λi=>f i N) (λi=>f i c) h i b with
    |true=>
     have L:=Sh.Le.of_yes (x:=λi=>f i N) (y:=λi=>f i c) (hd:=h) (a:=i) (b:=b) ct
     refine bW rfl ⟨_,rfl,hi,s2,_,_,_,rfl, .inr ⟨i,rfl,by lia,pos,λj hj pj=>?_⟩⟩
     by_cases e:j=i
     ·subst e;exact Sh.Le.refl _ _ _ _
     ·exact L.trans pos pb pj (le j (by lia) pj)
    |false=>
     have L:=Sh.Le.of_not (x:=λi=>f i N) (y:=λi=>f i c) (hd:=h) (a:=i) (b:=b) ct
     refine aV rfl ⟨hi,s2,_,_,_,rfl, .inr ⟨b,rfl,by lia,pb,λj hj pj=>?_⟩⟩
     by_cases e:j=i
     ·subst e;exact L
     ·exact le j (by lia) pj
  ·have neg:¬ 0<f i c:=of_decide_eq_false (gx _ |>.mp c1)
   refine aV rfl ⟨hi,s2,_,_,_,rfl,?_⟩
   rcases inv with⟨rfl,no⟩ | ⟨b,rfl,hb,pb,le⟩
   ·refine .inl ⟨rfl,λj hj=>?_⟩
    by_cases e:j=i
    ·subst e;lia
    ·exact no j (by lia)
   ·refine .inr ⟨b,rfl,by lia,pb,λj hj pj=>?_⟩
    by_cases e:j=i
    ·subst e;exact absurd pj neg
    ·exact le j (by lia) pj
 ·subst es
  rw[ll] at inv
  rcases inv with⟨rfl,no⟩ | ⟨b,rfl,hb,pb,le⟩
  ·have:=no i0 hi0;lia
  ·exact⟨_,rfl,q b H1 (mp.trans s1) hb pb le⟩
def tnF (f:Nat->Nat->Int)(r c:Nat)(b:Int)(i j:Nat):Int:=if i=r then f i j else(f i j*f r c - f i c*f r j) / b
def aNe (K:aa):Sp:=λvs H Q _=>∃(F:Addr) (ls:List Addr) (m N r c:Nat) (b:Int) (f:Nat->Nat->Int),vs=[.ref F, .int (r:Int), .int (c:Int), .int b]/\Mt H F ls m N f/\(∀i j,(f i j).natAbs<2 ^ 400)/\0<b/\b.natAbs<2 ^ 400/\r<m/\c<N/\m<=100/\N<=200 /\
 ∀ls' H',Mt H' F ls' m N (tnF f r c b)->SameX F H H'->Q .non H'
def aGR (H:Hp)(F:Addr)(m N r c:Nat)(b:Int)(f:Nat->Nat->Int)(lp:Addr)(i:Nat)(σ':St)(H':Hp):Prop:=i<=m/\SameX F H H'/\(∃x5 x6,σ'=[some (.ref F),some (.int (r:Int)),some (.int (c:Int)),some (.int b),some (.ref lp),x5,x6])/\∃ls',Mt H' F ls' m N (λa j=>if a<i then tnF f r c b a j else f a j)
theorem aNb:∀vs H Q E,aNe K vs H Q E->aHW K { nx:=λ_ H'=>Q .non H',rt:=Q } (aW ["rows","at","column","bottom","pivot","other","factor"] vs) H:=by
 intro vs H Q E h
 obtain⟨F,ls,m,N,r,c,b,f,rfl,M,fb,b0,bb,rm,cN,m1,N2,q⟩:=h
 obtain⟨lp,p1,p2,p3⟩:=M.at rm
 have lF:lp≠F:=λe=>M.out (e ▸ ar p1)
 refine⟨_,rfl,_,rfl,ixL (.of M.top) p2 ?_⟩
 refine⟨_,rfl,F,_,rfl, .inl (.of M.top),((ls.map V.ref).length:Int),rfl,by lia,by rw[ae,M.len];lia,?_⟩
 rw[dh,ae,M.len]
 refine bH (lo:=0) (n:=m) (aGR H F m N r c b f lp) ⟨bg _,SameX.refl _ _,⟨_,_,rfl⟩,ls,M.congr λa j _ _=>by rw[if_neg (by lia)]⟩ (λi σ1 H1 hi ⟨_,sx1,⟨x5,x6,es⟩,ls1,M1⟩=>?_) λσ1 H1 ⟨_,sx1,_,ls1,M1⟩=>q ls1 H1 (M1.congr λa j ha _=>by rw[if_pos ha]) sx1
 subst es
 rw[kd]
 have hp3:=sx1 _ _ lF p3
 refine⟨_,rfl,_,rfl, .int (i:Int), .int (r:Int),bg _,rfl,rfl,_,rfl,?_⟩
 rw[aFP]
 by_cases ir:i=r
 ·subst ir
  refine aV (by rw[decide_eq_true rfl];rfl) ⟨hi,sx1,⟨_,_,rfl⟩,ls1,M1.congr λa j _ _=>?_⟩
  show(if a<i then tnF f i c b a j else f a j)=if a<i+1 then tnF f i c b a j else f a j
  by_cases e:a=i
  ·subst e;rw[if_neg (by lia),if_pos (by lia)];unfold tnF;rw[if_pos rfl]
  ·by_cases e2:a<i
   ·rw[if_pos e2,if_pos (by lia)]
   ·rw[if_neg e2,if_neg (by lia)]
 ·refine bW (by rw[decide_eq_false ir];rfl) ?_
  obtain⟨l1,g1,g2,g3⟩:=M1.at hi
  have g3:H1 l1=some (.lst (mkR N (f i))):=by rw[g3];congr 2;exact cU λj _=>if_neg (by lia)
  refine aHh (t:=0) (si:=5) (sj:=2) (i:=i) (j:=c) M1 rfl rfl rfl hi cN ?_
  rw[if_neg (by lia)]
  refine⟨_,rfl,_,rfl,ixL (.of M1.top) g2 ⟨_,rfl,l1,lp,true,true,rfl,⟨_, .of g3⟩,⟨_, .of hp3⟩,λA hA=>?_⟩⟩
  have hv:∀H',SameX A (upd H1 A (.lst [])) H'->Same H1 H':=λH' sx=>bA hA sx
  refine bN [0,1] (mkR N (tnF f r c b i)) hA (by rw[aT];lia) (Emits.cast (aDs (K:=K) (b1:=true) (b2:=true) (l1:=l1) (l2:=lp) (xs:=mkR N (f i)) (ys:=mkR N (f r)) (L:=λj=>[V.int (tnF f r c b i j)]) (by rw[aT,aT]) (λH' sx=>⟨.of (hv H' sx _ _ g3), .of (hv H' sx _ _ hp3)⟩) λj x y σ2 H2 t hx hy ht l2 ag2 sx2=>?_) (by rw[aT,aAH];rfl)) λσ2 H2 s2 hA2=>?_
  ·obtain⟨hj,rfl⟩:=vQ hx
   obtain⟨_,rfl⟩:=vQ hy
   have mt:=aD ht (.tup [V.int (f i j), .int (f r j)])
   have l6:σ2.length=6:=l2
   refine⟨(σ2.set 0 (some (.int (f i j)))).set 1 (some (.int (f r j))),by rw[c8,c8];exact l2,(ag2.trans (Agree.set (by decide) _)).trans (Agree.set (by decide) _),λNn hN=>⟨t,_,rfl, .of aA,rfl,_,_,rfl,_,_,rfl,rfl,hN⟩,cH λR hR=>?_⟩
   have t0:((σ2.set 0 (some (.int (f i j)))).set 1 (some (.int (f r j))))[0]?=some (some (.int (f i j))):=by rw[fk (by decide)];exact cS (by lia)
   have t1:((σ2.set 0 (some (.int (f i j)))).set 1 (some (.int (f r j))))[1]?=some (some (.int (f r j))):=cS (by rw[c8];lia)
   have tk:∀k,2<=k->((σ2.set 0 (some (.int (f i j)))).set 1 (some (.int (f r j))))[k]?=σ2[k]?:=λk hk=>by rw[fk (by lia),fk (by lia)]
   have t2:=(tk 2 (by decide)).trans ((ag2 2 (by decide)).trans (show _=some (some (V.ref lp)) from rfl))
   have t3:=(tk 3 (by decide)).trans ((ag2 3 (by decide)).trans (show _=some (some (V.int (c:Int))) from rfl))
   have t4:=(tk 4 (by decide)).trans ((ag2 4 (by decide)).trans (show _=some (some (V.int (f i c))) from rfl))
   have t5:=(tk 5 (by decide)).trans ((ag2 5 (by decide)).trans (show _=some (some (V.int b)) from rfl))
   have hp4:=mt _ _ (hv _ sx2 _ _ hp3)
   refine⟨_,t0,_,t2,_,t3,ixL (.of hp4) (jS cN) ⟨.inr ⟨big (fb _ _),big (fb _ _)⟩,_,t4,_,t1, .inr ⟨big (fb _ _),big (fb _ _)⟩,_,_,rfl,rfl,_,t5,_,_,rfl,rfl,⟨b0,big bb⟩,?_⟩⟩
   have:=hR _ (Same.refl _)
   unfold tnF at this
   rw[if_neg ir] at this
   exact this
  ·have hT:=s2 _ _ M1.top
   have nA:A≠F:=λe=>by rw[e,M1.top] at hA;cases hA
   refine⟨_,rfl,_,rfl,F,_,(i:Int),i,rfl,rfl,hT,?_,hi,(sx1.trans s2.x).trans (SameX.put _),⟨_,_,rfl⟩,ls1.set i A,?_⟩
   ·rw[ae,M1.len]
    unfold ixN
    rw[if_pos (by lia),if_pos (by lia),dh]
   ·have nF:∀k l,(ls1.set i A)[k]?=some l->l≠F:=λk l e z=>by
     rw[xu] at e
     split at e
     ·split at e
      ·exact nA ((bo e).trans z)
      ·cases e
     ·exact M1.out (z ▸ ar e)
    refine⟨by rw[aA,List.map_set],by rw[c8];exact M1.len,λk l e=>?_,λz=>?_⟩
    ·rw[aK (nF k l e)]
     rw[xu] at e
     split at e
     ·rename_i hk
      subst hk
      split at e
      ·cases e
       rw[hA2]
       congr 2
       exact cU λj _=>(if_pos (by lia)).symm
      ·cases e
     ·rename_i hk
      rw[s2 _ _ (M1.row k l e)]
      congr 2
      refine cU λj _=>?_
      show(if k<i then tnF f r c b k j else f k j)=if k<i+1 then tnF f r c b k j else f k j
      by_cases e2:k<i
      ·rw[if_pos e2,if_pos (by lia)]
      ·rw[if_neg e2,if_neg (by lia)]
    ·obtain⟨k,hk⟩:=f6.mp z
     exact nF k F hk rfl
end
def mN (n:Nat):Nat:=(cY n).length
def kN (n:Nat):Nat:=(dQ n).length
def stA (n j:Nat):List Nat×Int:=(dQ n).getD j ([],0)
def prA (n p:Nat):Nat×Nat:=(cY n).getD p (0,0)
def coT (n j p:Nat):Int:=if prt (stA n j).1 (prA n p).1 (prA n p).2=true then(stA n j).2 else 0
def obT (n j:Nat):Int:=-2*(stA n j).2
def wyT (T:List (List Int))(n p:Nat):Int:=if p<mN n then at2 T (prA n p).1 (prA n p).2 else 0
def AT (T:List (List Int))(n:Nat):Nat->Sh.Vec:=Sh.A0 (mN n) (kN n) (coT n) (obT n) (wyT T n)
theorem n36 {P: Nat->Prop}(h3:P 3)(h4:P 4)(h5:P 5)(h6:P 6):∀n,3<=n->n<=6->P n:=λn a b=>by
 match n,a,b with
 |3,_,_=>exact h3
 |4,_,_=>exact h4
 |5,_,_=>exact h5
 |6,_,_=>exact h6
def lpB (n:Nat):Bool:=decide (cY n).Nodup && decide (mN n<=15) && decide (1<=mN n) && (cY n).all (λe=>decide (e.1<e.2) && decide (e.2<n)) && decide (kN n<=40) && (dQ n).all (λe=>decide (e.2=1) || decide (e.2 = -1))
theorem aPi:∀n,3<=n->n<=6->lpB n=true:=n36 (by decide+kernel) (by decide+kernel) (by decide+kernel) (by decide+kernel)
theorem qW (h3:3<=n)(h6:n<=6): (cY n).Nodup/\mN n<=15/\1<=mN n/\(∀e∈cY n,e.1<e.2/\e.2<n)/\kN n<=40/\∀e∈dQ n,e.2=1\/e.2 = -1:=by
 have h:=aPi n h3 h6
 unfold lpB at h
 simp only[dn,decide_eq_true_eq,e9,o9] at h
 obtain⟨⟨⟨⟨⟨h1,h2⟩,h2'⟩,h3⟩,h4⟩,h5⟩:=h
 exact⟨h1,h2,h2',h3,h4,h5⟩
theorem uX:mkR a f++mkR b (λj=>f (a+j))=mkR (a+b) f:=by
 unfold mkR
 rw[List.range_add,bj,dw]
 rfl
theorem aFj:mkR 1 f=[V.int (f 0)]:=rfl
theorem aLS (hp:p<mN n):mkR (kN n) (λj=>coT n j p)++mkR (mN n) (λq=>if q=p then 1 else 0)++[V.int (at2 T (prA n p).1 (prA n p).2)]=mkR (kN n+mN n+1) (λj=>AT T n j p):=by
 rw[<- uX (a:=kN n+mN n) (b:=1),<- uX (a:=kN n) (b:=mN n),aFj]
 congr 1
 ·congr 1
  ·exact cU λj hj=>(Sh.A0_step hj hp).symm
  ·refine cU λq hq=>?_
   show _=Sh.A0 (mN n) (kN n) (coT n) (obT n) (wyT T n) (kN n+q) p
   rw[Sh.A0_slack hq]
   show _=if p=q then(1:Int) else 0
   by_cases c:q=p
   ·rw[if_pos c,if_pos c.symm]
   ·rw[if_neg c,if_neg (gy c)]
 ·congr 2
  show _=Sh.A0 (mN n) (kN n) (coT n) (obT n) (wyT T n) (kN n+mN n+0) p
  rw[Nat.add_zero,Sh.A0_wy hp]
  unfold wyT
  rw[if_pos hp]
theorem aOi:mkR (kN n) (λj=>obT n j)++mkR (mN n) (λ_=>0)++[V.int 0]=mkR (kN n+mN n+1) (λj=>AT T n j (mN n)):=by
 rw[<- uX (a:=kN n+mN n) (b:=1),<- uX (a:=kN n) (b:=mN n),aFj]
 congr 1
 ·congr 1
  ·exact cU λj hj=>(Sh.A0_ob hj).symm
  ·refine cU λq hq=>?_
   show _=Sh.A0 (mN n) (kN n) (coT n) (obT n) (wyT T n) (kN n+q) (mN n)
   rw[Sh.A0_slack hq]
   exact(if_neg (by lia)).symm
 ·congr 2
  exact(Sh.A0_w0).symm
theorem eG {α: Type}{l: List α}{i: Nat}{x d: α}(h:l[i]?=some x):l.getD i d=x:=by rw[aj,h];rfl
theorem Mt.more {H H':Hp}{F F' l:Addr}{ls:List Addr}{m N:Nat}{f:Nat->Nat->Int}(M:Mt H F ls m N f)(s:∀b o,b∈ls->H b=some o->H' b=some o)(hF':H' F'=some (.lst (ls.map V.ref++[.ref l])))(hl:H' l=some (.lst (mkR N (f m))))(out:F'∉ls)(ol:F'≠l):Mt H' F' (ls++[l]) (m+1) N f:=by
 refine⟨by rw[bj];exact hF',by rw[au,M.len];rfl,λi a e=>?_,λz=>?_⟩
 ·by_cases hi:i<ls.length
  ·rw[c6 hi] at e
   exact s _ _ (ar e) (M.row i a e)
  ·rw[cw (by lia)] at e
   have:i - ls.length=0:=by
    rcases hk:i - ls.length with _ | k
    ·rfl
    ·rw[hk] at e;cases e
   rw[this] at e
   obtain rfl:l=a:=bo e
   rw[hl,show i=m by have:=M.len;lia]
 ·rcases di.mp z with z | z
  ·exact out z
  ·exact ol (cq.mp z)
def aOI (K:aa):Sp:=λvs H Q _=>∃(v:V) (P S:Addr) (ps ss:List V) (T:List (List Int)) (n:Nat),vs=[v, .ref P, .ref S]/\Sh K H (uF T) v/\Quad T n/\3<=n/\n<=6/\H P=some (.lst ps)/\Rows K H ps (prN (cY n))/\H S=some (.lst ss)/\RowsS K H ss (dQ n) /\
 ∀F ls H',Same H H'->H F=none->Mt H' F ls (mN n+1) (kN n+mN n+1) (λi j=>AT T n j i)->Q (.ref F) H'
def aHI (H:Hp)(v:V)(P S:Addr)(T:List (List Int))(n:Nat)(F:Addr)(i:Nat)(σ':St)(H':Hp):Prop:=i<=mN n/\Same H H'/\(∃x4 x5 x6,σ'=[some v,some (.ref P),some (.ref S),some (.ref F),x4,x5,x6])/\∃ls,Mt H' F ls i (kN n+mN n+1) (λi j=>AT T n j i)
theorem aNo:∀vs H Q E,aOI K vs H Q E->lQ K (aNY K) { nx:=λ_ H'=>Q .non H',rt:=Q } (aW ["table","pairs","steps","rows","i","j","taken"] vs) H:=by
 intro vs H Q E h
 obtain⟨v,P,S,ps,ss,T,n,rfl,hT,qT,n3,n6,hP,rP,hS,rS,q⟩:=h
 obtain⟨nd,m15,m1,pij,k40,sg⟩:=qW n3 n6
 have pl:ps.length=mN n:=by rw[rP.1,dU];rfl
 have sl:ss.length=kN n:=rS.1
 refine⟨show 0<=bx by decide,λF hF=>?_⟩
 have mF:=aD hF (.lst [])
 have hF1:(upd H F (.lst [])) F=some (.lst []):=aA
 generalize upd H F (.lst [])=G at *
 refine⟨_,rfl,P,rfl, .inl ⟨⟨_, .of (mF _ _ hP)⟩,?_⟩⟩
 refine aS (K:=K) (a:=P) (xs:=ps) (aHI H v P S T n F) ⟨bg _,mF,⟨_,_,_,rfl⟩,[],hF1,rfl,(λi l e=>by cases e),(λz=>by cases z)⟩ (λi σ1 H1 _ ⟨_,s1,_⟩ => .of (s1 _ _ hP)) (λi x σ1 H1 hx ⟨_,s1,⟨x4,x5,x6,es⟩,ls,M⟩=>?_) λσ1 H1 ⟨_,s1,⟨x4,x5,x6,es⟩,ls,M⟩=>?_
 ·subst es
  have hi:i<mN n:=by have:=(ai.mp hx).1;lia
  obtain⟨e,b,he,rfl,hb⟩:=tH (rP.same s1) hx
  obtain⟨g1,g2⟩:=pij e (ar he)
  have ep:prA n i=e:=eG he
  refine⟨b,_,rfl,hb,rfl,aU e.1,[aU e.2],rfl,aU e.2,[],rfl,rfl,?_⟩
  refine⟨_,rfl,S,rfl, .inl ⟨⟨_, .of (s1 _ _ hS)⟩,λA hA=>?_⟩⟩
  have hv:∀H',SameX A (upd H1 A (.lst [])) H'->Same H1 H':=λH' sx=>bA hA sx
  refine bN [0,1] (mkR (kN n) (λj=>coT n j i)) hA (by rw[aT];lia) (Emits.cast (tN (K:=K) (a:=S) (xs:=ss) (L:=λj=>[V.int (coT n j i)]) (λH' sx => .of (hv H' sx _ _ (s1 _ _ hS))) λj y σ2 H2 hy l2 ag2 sx2=>?_) (by rw[sl,aAH];rfl)) λσ2 H2 s2 hA2=>?_
  ·obtain⟨st,b2,q2,hst,rfl,hb2,hq2⟩:=aBO (rS.same (s1.trans (hv _ sx2))) hy
   have est:stA n j=st:=eG hst
   have l4:σ2.length=4:=l2
   refine⟨(σ2.set 0 (some (.ref q2))).set 1 (some (.int st.2)),by rw[c8,c8];exact l2,(ag2.trans (Agree.set (by decide) _)).trans (Agree.set (by decide) _),λNn hN=>⟨b2,_,rfl,hb2,rfl,_,_,rfl,_,_,rfl,rfl,hN⟩,cH λR hR=>?_⟩
   have t0:((σ2.set 0 (some (.ref q2))).set 1 (some (.int st.2)))[0]?=some (some (.ref q2)):=by rw[fk (by decide)];exact cS (by lia)
   have t1:((σ2.set 0 (some (.ref q2))).set 1 (some (.int st.2)))[1]?=some (some (.int st.2)):=cS (by rw[c8];lia)
   have tk:∀k,2<=k->((σ2.set 0 (some (.ref q2))).set 1 (some (.int st.2)))[k]?=σ2[k]?:=λk hk=>by rw[fk (by lia),fk (by lia)]
   have t2:=(tk 2 (by decide)).trans ((ag2 2 (by decide)).trans (show _=some (some (aU e.1)) from rfl))
   have t3:=(tk 3 (by decide)).trans ((ag2 3 (by decide)).trans (show _=some (some (aU e.2)) from rfl))
   refine⟨_,t0,_,t2,_,t3,q2,st.1,e.1,e.2,rfl,hq2,_,rfl,?_⟩
   have r:=hR _ (Same.refl _)
   unfold coT at r
   rw[est,ep] at r
   refine zY (λc=>⟨_,t1,?_⟩) λc=>?_
   ·rw[if_pos c] at r;exact r
   ·rw[if_neg c] at r;exact r
  ·have hF2:=s2 _ _ M.top
   have s12:=s1.trans s2
   refine⟨_,rfl, .inl ⟨rfl,_, .of hF2⟩,_,rfl,_,rfl,P,rfl, .inl ⟨⟨_, .of (s12 _ _ hP)⟩,λB hB=>?_⟩⟩
   have hv2:∀H',SameX B (upd H2 B (.lst [])) H'->Same H2 H':=λH' sx=>bA hB sx
   refine bN [0] (mkR (mN n) (λq=>if q=i then 1 else 0)) hB (by rw[aT];lia) (Emits.cast (xH (K:=K) (a:=P) (xs:=ps) (j:=0) (L:=λj=>[V.int (if j=i then 1 else 0)]) (by decide) (by show 0<3;decide) (λH' sx => .of (hv2 H' sx _ _ (s12 _ _ hP))) λj y σ3 H3 hy l3 ag3 t0 sx3 _=>?_) (by rw[pl,aAH];rfl)) λσ3 H3 s3 hB3=>?_
   ·obtain⟨e',b',he',rfl,hb'⟩:=tH (rP.same (s12.trans (hv2 _ sx3))) hy
    have t1:σ3[1]?=some (some (aU e.1)):=(ag3 1 (by decide)).trans rfl
    have t2:σ3[2]?=some (some (aU e.2)):=(ag3 2 (by decide)).trans rfl
    refine cH λR hR=>⟨_,t0,_,t1,_,t2,show 2<=bx by decide,λt ht=>?_⟩
    have mt:=aD ht (.tup [aU e.1,aU e.2])
    refine⟨.tup ([(e'.1:Int),(e'.2:Int)].map Dt.int), .tup ([(e.1:Int),(e.2:Int)].map Dt.int),nE _,⟨b',_,rfl,mt.tup hb',ShL.ints [(e'.1:Int),(e'.2:Int)]⟩,⟨t,_,rfl, .of aA,ShL.ints [(e.1:Int),(e.2:Int)]⟩,_,rfl,?_⟩
    rw[aFb]
    have r:=hR _ mt
    have iff:([(e'.1:Int),(e'.2:Int)]=[(e.1:Int),(e.2:Int)])↔j=i:=by
     constructor
     ·intro z
      have z1:(e'.1:Int)=e.1:=(A7 z).1
      have z2:(e'.2:Int)=e.2:=(A7 (A7 z).2).1
      have ee:e'=e:=by
       obtain⟨a1,a2⟩:=e'
       obtain⟨b1,b2⟩:=e
       have z1:(a1:Int)=b1:=z1
       have z2:(a2:Int)=b2:=z2
       rw[show a1=b1 by lia,show a2=b2 by lia]
      obtain⟨h1,h2⟩:=ai.mp he'
      obtain⟨h3,h4⟩:=ai.mp he
      exact(qq nd).mp (h2.trans (ee.trans h4.symm))
     ·intro z
      subst z
      rw[he] at he'
      rw[bo he']
    refine zY (λc=>?_) λc=>?_
    ·rw[if_pos (iff.mp (of_decide_eq_true c))] at r;exact r
    ·rw[if_neg λz=>c (decide_eq_true (iff.mpr z))] at r;exact r
   ·have hA3:=s3 _ _ hA2
    refine .inl ⟨A,B,_,_,rfl,rfl,hA3,hB3,?_,λC hC=>?_⟩
    ·rw[aT,aT];exact de (show _<=100 by lia) (by decide)
    have mC:=aD hC (.lst (mkR (kN n) (λj=>coT n j i)++mkR (mN n) (λq=>if q=i then 1 else 0)))
    have s123:=(s12.trans s3).trans mC
    refine pE (t:=0) (si:=4) (sj:=5) rfl rfl rfl (hT.same s123) qT (by lia) g2 ⟨show 1<=bx by decide,λD hD=>?_⟩
    have mD:=aD hD (.lst [V.int (at2 T e.1 e.2)])
    have hC2:=mD _ _ (show(upd H3 C (.lst (mkR (kN n) (λj=>coT n j i)++mkR (mN n) (λq=>if q=i then 1 else 0)))) C=_ from aA)
    refine .inl ⟨C,D,_,_,rfl,rfl,hC2,aA,?_,λR hR=>?_⟩
    ·rw[au,aT,aT];exact de (show _<=100 by simp;lia) (by decide)
    have eR:=aLS (T:=T) hi
    rw[ep] at eR
    rw[eR]
    have mR:=aD hR (.lst (mkR (kN n+mN n+1) (λj=>AT T n j i)))
    have sAll:=((((s2.trans s3).trans mC).trans mD).trans mR)
    have hFn:=sAll _ _ M.top
    have nR:R≠F:=λz=>by
     have h2:=(((s2.trans s3).trans mC).trans mD) _ _ M.top
     rw[<- z,hR] at h2
     cases h2
    refine⟨F,_,_,rfl,rfl,hFn,bh (show _<=100 by rw[ae,M.len];lia) (by decide),hi,bB hF (s1.trans sAll),⟨_,_,_,rfl⟩,ls++[R],M.more (λb' o hb' e'=>?_) aA ?_ M.out (gy nR)⟩
    ·rw[aK (show b'≠F from λz=>M.out (z ▸ hb'))]
     exact sAll _ _ e'
    ·rw[aK nR]
     exact aA
 ·subst es
  rw[pl] at M
  refine⟨_,rfl,_,rfl,S,rfl, .inl ⟨⟨_, .of (s1 _ _ hS)⟩,λA hA=>?_⟩⟩
  have hv:∀H',SameX A (upd H1 A (.lst [])) H'->Same H1 H':=λH' sx=>bA hA sx
  refine bN [0,1] (mkR (kN n) (λj=>obT n j)) hA (by rw[aT];lia) (Emits.cast (tN (K:=K) (a:=S) (xs:=ss) (L:=λj=>[V.int (obT n j)]) (λH' sx => .of (hv H' sx _ _ (s1 _ _ hS))) λj y σ2 H2 hy l2 ag2 sx2=>?_) (by rw[sl,aAH];rfl)) λσ2 H2 s2 hA2=>?_
  ·obtain⟨st,b2,q2,hst,rfl,hb2,hq2⟩:=aBO (rS.same (s1.trans (hv _ sx2))) hy
   have est:stA n j=st:=eG hst
   have l4:σ2.length=2:=l2
   refine⟨(σ2.set 0 (some (.ref q2))).set 1 (some (.int st.2)),by rw[c8,c8];exact l2,(ag2.trans (Agree.set (by decide) _)).trans (Agree.set (by decide) _),λNn hN=>⟨b2,_,rfl,hb2,rfl,_,_,rfl,_,_,rfl,rfl,hN⟩,cH λR hR=>?_⟩
   have t1:((σ2.set 0 (some (.ref q2))).set 1 (some (.int st.2)))[1]?=some (some (.int st.2)):=cS (by rw[c8];lia)
   refine⟨2,rfl,_,t1, .inl (.inl ⟨by decide,by decide⟩),?_⟩
   have r:=hR _ (Same.refl _)
   unfold obT at r
   rw[est] at r
   exact r
  ·have s12:=s1.trans s2
   refine⟨_,rfl,P,rfl, .inl ⟨⟨_, .of (s12 _ _ hP)⟩,λB hB=>?_⟩⟩
   have hv2:∀H',SameX B (upd H2 B (.lst [])) H'->Same H2 H':=λH' sx=>bA hB sx
   refine bN [0] (mkR (mN n) (λ_=>0)) hB (by rw[aT];lia) (Emits.cast (xH (K:=K) (a:=P) (xs:=ps) (j:=0) (L:=λj=>[V.int 0]) (by decide) (by show 0<1;decide) (λH' sx => .of (hv2 H' sx _ _ (s12 _ _ hP))) λj y σ3 H3 hy l3 ag3 t0 sx3 _=>cH λR hR=>hR _ (Same.refl _)) (by rw[pl,aAH];rfl)) λσ3 H3 s3 hB3=>?_
   have hA3:=s3 _ _ hA2
   refine .inl ⟨A,B,_,_,rfl,rfl,hA3,hB3,?_,λC hC=>?_⟩
   ·rw[aT,aT];exact de (show _<=100 by lia) (by decide)
   have mC:=aD hC (.lst (mkR (kN n) (λj=>obT n j)++mkR (mN n) (λ_=>0)))
   refine⟨show 1<=bx by decide,λD hD=>?_⟩
   have mD:=aD hD (.lst [V.int 0])
   have hC2:=mD _ _ (show(upd H3 C (.lst (mkR (kN n) (λj=>obT n j)++mkR (mN n) (λ_=>0)))) C=_ from aA)
   refine .inl ⟨C,D,_,_,rfl,rfl,hC2,aA,?_,λR hR=>?_⟩
   ·rw[au,aT,aT];exact de (show _<=100 by simp;lia) (by decide)
   rw[aOi (T:=T)]
   have mR:=aD hR (.lst (mkR (kN n+mN n+1) (λj=>AT T n j (mN n))))
   refine⟨show 1<=bx by decide,λL hL=>?_⟩
   have mL:=aD hL (.lst [V.ref R])
   have sAll:=(((((s2.trans s3).trans mC).trans mD).trans mR).trans mL)
   refine .inl ⟨F,L,_,_,rfl,rfl,sAll _ _ M.top,aA,?_,λF4 hF4=>?_⟩
   ·rw[ae,M.len];exact de (show _<=100 by simp;lia) (by decide)
   have m4:=aD hF4 (.lst (ls.map V.ref++[V.ref R]))
   have hR2:=mL _ _ (show(upd (upd (upd H3 C (.lst (mkR (kN n) (λj=>obT n j)++mkR (mN n) (λ_=>0)))) D (.lst [V.int 0])) R (.lst (mkR (kN n+mN n+1) (λj=>AT T n j (mN n))))) R=_ from aA)
   refine q F4 (ls++[R]) _ ((s1.trans sAll).trans m4) ((s1.trans sAll).free hF4) (M.more (λb' o _ e'=>m4 _ _ (sAll _ _ e')) aA (m4 _ _ hR2) (λz=>?_) λz=>?_)
   ·obtain⟨k,hk⟩:=f6.mp z
    have:=sAll _ _ (M.row k _ hk)
    rw[hF4] at this
    cases this
   ·rw[z,hR2] at hF4
    cases hF4
abbrev RT (T:List (List Int))(n:Nat): (Nat->Nat)->Nat->Nat->Int:=Sh.R (AT T n) (mN n)
abbrev dT (T:List (List Int))(n:Nat): (Nat->Nat)->Int:=Sh.dd (AT T n) (mN n)
abbrev NN (n:Nat):Nat:=kN n+mN n
abbrev OkT (T:List (List Int))(n:Nat): (Nat->Nat)->Prop:=Sh.Ok (AT T n) (mN n) (NN n)
def xR (n p:Nat):Int:=if(prA n p).2=(prA n p).1+1\/((prA n p).1=0/\(prA n p).2=n - 1) then 1 else 0
def unB (n:Nat):Bool:=(ao (kN n)).all λj=>decide (0<=obT n j+Sh.sumN (mN n) λp=>xR n p*coT n j p)
theorem aPm:∀n,3<=n->n<=6->unB n=true:=n36 (by decide+kernel) (by decide+kernel) (by decide+kernel) (by decide+kernel)
theorem aHL (n3:3<=n)(n6:n<=6):-1<=(stA n j).2/\(stA n j).2<=1:=by
 unfold stA
 rw[aj]
 cases h:(dQ n)[j]? with
 |none=>exact⟨by decide,by decide⟩
 |some e=>
  show -1<=e.2/\e.2<=1
  rcases(qW n3 n6).2.2.2.2.2 e (ar h) with z | z <;> lia
theorem aLx (n3:3<=n)(n6:n<=6)(j c:Nat):-2<=coT n j c/\coT n j c<=2:=by
 have:=aHL (j:=j) n3 n6
 unfold coT
 split <;> lia
theorem aMi (n3:3<=n)(n6:n<=6)(j:Nat):-2<=obT n j/\obT n j<=2:=by
 have:=aHL (j:=j) n3 n6
 unfold obT
 lia
theorem aJt (n3:3<=n)(n6:n<=6)(hp:p<mN n): (prA n p).1<(prA n p).2/\(prA n p).2<n:=by
 have h:(cY n)[p]?=some ((cY n)[p]'hp):=ah hp
 have:prA n p=(cY n)[p]'hp:=eG h
 rw[this]
 exact(qW n3 n6).2.2.2.1 _ (fv hp)
theorem aJn (n3:3<=n)(n6:n<=6)(b:Bs T n)(p:Nat):0<=wyT T n p/\wyT T n p<=1000000:=by
 unfold wyT
 split
 ·rename_i h
  obtain⟨h1,h2⟩:=aJt n3 n6 h
  exact b _ _ (by lia) h2
 ·exact⟨by decide,by decide⟩
theorem aFr (n3:3<=n)(n6:n<=6)(b:Bs T n)(h:Nat->Nat)(i j:Nat): (RT T n h i j).natAbs<2 ^ 400:=Sh.R_bound (qW n3 n6).2.1 (aLx n3 n6) (aMi n3 n6) (aJn n3 n6 b)
theorem lR (n3:3<=n)(n6:n<=6)(b:Bs T n)(h:Nat->Nat): (dT T n h).natAbs<2 ^ 400:=Sh.dd_bound (qW n3 n6).2.1 (aLx n3 n6) (aMi n3 n6) (aJn n3 n6 b)
theorem aPk (n3:3<=n)(n6:n<=6)(b:Bs T n):OkT T n (Sh.h0 (kN n)):=Sh.ok0 λp _=>(aJn n3 n6 b p).1
theorem unT (n3:3<=n)(n6:n<=6)(ok:OkT T n h)(hc:c<NN n)(neg:RT T n h (mN n) c<0):∃i,i<mN n/\0<RT T n h i c:=by
 refine Sh.unb (x:=xR n) ok (λp _=>by unfold xR;split <;> decide) (λj hj=>?_) hc neg
 have:=e9.mp (aPm n n3 n6) j (az.mpr hj)
 exact of_decide_eq_true this
theorem aJI (hr:r<m): (hdL m h).set r (aU c)=hdL m (Sh.put h r c):=by
 apply xt
 intro i
 rw[xu]
 by_cases hi:i<m
 ·by_cases e:r=i
  ·rw[if_pos e,if_pos (by rw[dW];lia),sV hi]
   subst e
   unfold Sh.put
   rw[if_pos rfl]
  ·rw[if_neg e,sV hi,sV hi]
   unfold Sh.put
   rw[if_neg (gy e)]
 ·have n1:(hdL m (Sh.put h r c))[i]?=none:=uc (by rw[dW];lia)
  rw[n1,if_neg (by lia)]
  exact uc (by rw[dW];lia)
theorem Mt.nohl (M:Mt H F ls (m+1) (k+m+1) f)(hh:H hl=some (.lst (hdL m h))):hl≠F/\hl∉ls:=by
 refine⟨λe=>?_,λz=>?_⟩
 ·rw[e,M.top] at hh
  have:=congrArg Bw (HO.lst.inj (bo hh))
  rw[ae,M.len,dW] at this
  lia
 ·obtain⟨i,hi⟩:=f6.mp z
  rw[M.row i hl hi] at hh
  have:=congrArg Bw (HO.lst.inj (bo hh))
  rw[aT,dW] at this
  lia
def aON (K:aa):Sp:=λvs H Q _=>∃(F hl:Addr) (ls:List Addr) (T:List (List Int)) (n:Nat),vs=[.ref F, .ref hl]/\3<=n/\n<=6/\Bs T n/\Mt H F ls (mN n+1) (kN n+mN n+1) (λi j=>AT T n j i)/\H hl=some (.lst (hdL (mN n) (Sh.h0 (kN n)))) /\
 ∀h ls' H',OkT T n h->(∀j,j<NN n->0<=RT T n h (mN n) j)->Mt H' F ls' (mN n+1) (kN n+mN n+1) (RT T n h)->H' hl=some (.lst (hdL (mN n) h))->(∀b o,b≠F->b≠hl->H b=some o->H' b=some o)->Q (.int (dT T n h)) H'
theorem aNU:∀vs H Q E,aON K vs H Q E->aDQ K (aNn K) (aOu K) (aNe K) { nx:=λ_ H'=>Q .non H',rt:=Q } (aW ["rows","held","bottom","column","at"] vs) H:=by
 intro vs H Q E h
 obtain⟨F,hl,ls,T,n,rfl,n3,n6,bT,M,hh,q⟩:=h
 obtain⟨nd,m15,m1,pij,k40,sg⟩:=qW n3 n6
 have ok0:=aPk n3 n6 bT
 have M:Mt H F ls (mN n+1) (kN n+mN n+1) (RT T n (Sh.h0 (kN n))):=M.congr λi j hi hj=>(Sh.R0 (by lia)).symm
 let Col:(Nat->Nat)->V->Prop:=λh x=>(x = .non/\∀j,j<NN n->0<=RT T n h (mN n) j)\/∃c:Nat,x = .int (c:Int)/\c<NN n/\RT T n h (mN n) c<0/\∀j,j<c->0<=RT T n h (mN n) j
 let W:Nat->St->Hp->Prop:=λk σ' H'=>∃(h:Nat->Nat) (ls':List Addr) (x3:V) (x4:Option V),Sh.Rem (AT T n) (mN n) (NN n) k h/\OkT T n h/\Mt H' F ls' (mN n+1) (kN n+mN n+1) (RT T n h)/\H' hl=some (.lst (hdL (mN n) h))/\(∀b o,b≠F->b≠hl->H b=some o->H' b=some o)/\σ'=[some (.ref F),some (.ref hl),some (.int (dT T n h)),some x3,x4]/\Col h x3
 have dd1:dT T n (Sh.h0 (kN n))=1:=Sh.dd0
 refine⟨_,rfl,F,ls,mN n,NN n,_,rfl,M,by show kN n+mN n<=100;lia,λH0 s0=>?_⟩
 have st:∀x3,Col (Sh.h0 (kN n)) x3->∃W:Nat->St->Hp->Prop,(∃m,W m [some (.ref F),some (.ref hl),some (.int 1),some x3,none] H0)/\∀m σ H',W m σ H'->aP (tOp uP (aC 3) (tC .non)) σ H' λb H1=>if b=true then ∃N:St->Hp->Prop,(∀σ' H',N σ' H'->∃m',m'<m/\W m' σ' H')/\(aG (aQ (aO (aOu K) [] E0 (aB (aC 0) (aB (aC 1) (aB (aC 3) aH)))) (aE 4)) (aG (iZ (aO (aNe K) [] E0 (aB (aC 0) (aB (aC 4) (aB (aC 3) (aB (aC 2) aH)))))) (aG (aQ (aC 3) (jZ (aC 1) (aC 4) cL)) (aG (aQ (tOp (aL K) (tOp (aL K) (aC 0) (aC 4)) (aC 3)) (aE 2)) (aG (aQ (aO (aNn K) [] E0 (aB (aC 0) aH)) (aE 3)) aF))))) { nx:=N,rt:=Q,bk:=aG (cE (aC 2)) aF { nx:=λ_ H'=>Q .non H',rt:=Q },ct:=N } σ H1 else aG (cE (aC 2)) aF { nx:=λ_ H'=>Q .non H',rt:=Q } σ H1:=by
  intro x3 cx
  obtain⟨k0,rem0⟩:=ok0.rem
  refine⟨W,⟨k0,Sh.h0 (kN n),ls,x3,none,rem0,ok0,M.same s0,s0 _ _ hh,λb o _ _ e=>s0 _ _ e,by rw[dd1],cx⟩,?_⟩
  rintro k σ1 H1 ⟨h,ls1,y3,x4,rem,ok,M1,hh1,sa1,rfl,col⟩
  refine⟨_,rfl, .inr ⟨rfl,_,rfl,?_⟩⟩
  rcases col with⟨rfl,all⟩ | ⟨c,rfl,cN,neg,fst⟩
  ·exact aV rfl ⟨_,rfl,q h ls1 H1 ok all M1 hh1 sa1⟩
  ·refine bW rfl ⟨λσ' H'=>∃k',k'<k/\W k' σ' H',λσ' H' z=>z,?_⟩
   have fb:=aFr n3 n6 bT h
   refine⟨_,rfl,_,rfl,_,rfl,F,hl,ls1,mN n,NN n,c,RT T n h,h,rfl,M1,hh1,fb,i7 cN,by lia,unT n3 n6 ok cN neg,λr H2 s2 rm pr le=>?_⟩
   refine⟨_,rfl,_,rfl,_,rfl,_,rfl,F,ls1,mN n+1,kN n+mN n+1,r,c,dT T n h,RT T n h,rfl,M1.same s2,fb,ok.d0,lR n3 n6 bT h,by lia,i5 cN,by lia,by lia,λls3 H3 M3 sx3=>?_⟩
   have nh1:=Mt.nohl M1 hh1
   have hh3:H3 hl=some (.lst (hdL (mN n) h)):=sx3 _ _ nh1.1 (s2 _ _ hh1)
   have nh3:=Mt.nohl M3 hh3
   refine⟨_,rfl,_,rfl,_,rfl,hl,_,(r:Int),r,rfl,rfl,hh3,?_,?_⟩
   ·rw[dW]
    unfold ixN
    rw[if_pos (by lia),if_pos (by lia),dh]
   rw[show(V.int (c:Int))=aU c from rfl,aJI rm]
   have st:Sh.Stp (AT T n) (mN n) (NN n) h (Sh.put h r c) c r:=⟨cN,rm,neg,fst,pr,λi hi pi=>le i hi pi,rfl⟩
   have ok':=ok.step st
   have M4:Mt (upd H3 hl (.lst (hdL (mN n) (Sh.put h r c)))) F ls3 (mN n+1) (kN n+mN n+1) (RT T n (Sh.put h r c)):=by
    have M5:Mt H3 F ls3 (mN n+1) (kN n+mN n+1) (RT T n (Sh.put h r c)):=M3.congr λi j hi hj=>by
     unfold tnF
     by_cases e:i=r
     ·subst e;rw[if_pos rfl];exact(Sh.R_row rm).symm
     ·rw[if_neg e]
      have z:=Sh.R_turn (c:=c) ok rm (show i<=mN n by lia) e (show j<=NN n by show j<=kN n+mN n;lia)
      show(RT T n h i j*RT T n h r c - RT T n h i c*RT T n h r j) / dT T n h=RT T n (Sh.put h r c) i j
      rw[b8 (RT T n h i j),<- z]
      exact j3 _ (by have:=ok.d0;lia)
    exact⟨by rw[aK (gy nh3.1)];exact M5.top,M5.len,λi l e=>by rw[aK λz:l=hl=>nh3.2 (z ▸ ar e)];exact M5.row i l e,M5.out⟩
   have hh4:(upd H3 hl (.lst (hdL (mN n) (Sh.put h r c)))) hl=some (.lst (hdL (mN n) (Sh.put h r c))):=aA
   have sa4:∀b o,b≠F->b≠hl->H b=some o->(upd H3 hl (.lst (hdL (mN n) (Sh.put h r c)))) b=some o:=λb o h1 h2 e=>by
    rw[aK h2]
    exact sx3 _ _ h1 (s2 _ _ (sa1 b o h1 h2 e))
   generalize upd H3 hl (.lst (hdL (mN n) (Sh.put h r c)))=G at *
   have ed:dT T n (Sh.put h r c)=RT T n (Sh.put h r c) r c:=by
    show Sh.dd _ _ _=Sh.R _ _ _ _ _
    rw[Sh.dd_put rm,Sh.R_row rm]
   refine aHh (t:=0) (si:=4) (sj:=3) (i:=r) (j:=c) M4 rfl rfl rfl (by lia) (i5 cN) ?_
   rw[<- ed]
   obtain⟨k',rfl⟩:∃k',k=k'+1:=by
    cases k with
    |zero=>exact absurd ⟨c,r,st⟩ (rem _)
    |succ k'=>exact⟨k',rfl⟩
   have rem':=rem _ ⟨c,r,st⟩
   refine⟨_,rfl,F,ls3,mN n,NN n,_,rfl,M4,by show kN n+mN n<=100;lia,λH5 s5=>⟨λall=>?_,λc' c'N neg' fst'=>?_⟩⟩
   ·exact⟨k',by lia,_,ls3,_,_,rem',ok',M4.same s5,s5 _ _ hh4,λb o h1 h2 e=>s5 _ _ (sa4 b o h1 h2 e),rfl, .inl ⟨rfl,all⟩⟩
   ·exact⟨k',by lia,_,ls3,_,_,rem',ok',M4.same s5,s5 _ _ hh4,λb o h1 h2 e=>s5 _ _ (sa4 b o h1 h2 e),rfl, .inr ⟨c',rfl,c'N,neg',fst'⟩⟩
 exact⟨λall=>st .non (.inl ⟨rfl,all⟩),λc cN neg fst=>st (.int (c:Int)) (.inr ⟨c,rfl,cN,neg,fst⟩)⟩
def lo (i j:Int):Int×Int:=(i / gd i j,j / gd i j)
def sH (T:List (List Int))(n:Nat)(h:Nat->Nat)(i:Nat):Bool:=decide (h i<kN n) && !decide (RT T n h i (NN n)=0)
def aMP (T:List (List Int))(n:Nat)(h:Nat->Nat)(i:Nat):List Int×Int×Int:=((stA n (h i)).1.map Int.ofNat,lo ((stA n (h i)).2*RT T n h i (NN n)) (dT T n h))
def aGu (T:List (List Int))(n:Nat)(h:Nat->Nat):List (List Int×Int×Int):=((ao (mN n)).filter (sH T n h)).map (aMP T n h)
def zG (T:List (List Int))(n:Nat)(h:Nat->Nat)(p:Nat):Bool:=decide (0<RT T n h (mN n) (kN n+p))
def aMT (T:List (List Int))(n:Nat)(h:Nat->Nat)(p:Nat):List Int:=[((prA n p).1:Int),((prA n p).2:Int),(lo (RT T n h (mN n) (kN n+p)) (dT T n h)).1,(lo (RT T n h (mN n) (kN n+p)) (dT T n h)).2]
def aOe (T:List (List Int))(n:Nat)(h:Nat->Nat):List (List Int):=((ao (mN n)).filter (zG T n h)).map (aMT T n h)
theorem aNE:∀n,3<=n->n<=6->decide (dQ n).Nodup=true:=n36 (by decide+kernel) (by decide+kernel) (by decide+kernel) (by decide+kernel)
theorem aIV (hj:j<kN n): (dQ n)[j]?=some (stA n j):=by
 have h:(dQ n)[j]?=some ((dQ n)[j]'hj):=ah hj
 rw[h]
 exact congrArg some (eG h).symm
theorem aML (n3:3<=n)(n6:n<=6)(ok:OkT T n h)(hi:i<mN n)(hj:j<mN n)(ki:h i<kN n)(kj:h j<kN n)(ne:i≠j): (stA n (h i)).1≠(stA n (h j)).1:=by
 intro e
 have nd:=of_decide_eq_true (aNE n n3 n6)
 have sg:=(qW n3 n6).2.2.2.2.2
 have hi2:=aIV ki
 have hj2:=aIV kj
 by_cases es:(stA n (h i)).2=(stA n (h j)).2
 ·have:stA n (h i)=stA n (h j):=Prod.ext e es
  rw[this] at hi2
  obtain⟨a1,a2⟩:=ai.mp hi2
  obtain⟨b1,b2⟩:=ai.mp hj2
  exact ne (ok.inj hi hj ((qq nd).mp (a2.trans b2.symm)))
 ·have op:(stA n (h i)).2 = -1*(stA n (h j)).2:=by
   rcases sg _ (ar hi2) with a | a <;> rcases sg _ (ar hj2) with b | b <;> rw[a,b] at es ⊢ <;> first | rfl | exact absurd rfl es
  refine Sh.no_opp ok hi hj (λc=>?_) ne
  show AT T n (h i) c = -1*AT T n (h j) c
  by_cases c1:c<mN n
  ·show Sh.A0 _ _ _ _ _ _ _ = -1*Sh.A0 _ _ _ _ _ _ _
   rw[Sh.A0_step ki c1,Sh.A0_step kj c1]
   unfold coT
   rw[e,op]
   split
   ·rfl
   ·rfl
  ·by_cases c2:c=mN n
   ·subst c2
    show Sh.A0 _ _ _ _ _ _ _ = -1*Sh.A0 _ _ _ _ _ _ _
    rw[Sh.A0_ob ki,Sh.A0_ob kj]
    unfold obT
    rw[op]
    lia
   ·show Sh.A0 _ _ _ _ _ _ _ = -1*Sh.A0 _ _ _ _ _ _ _
    rw[Sh.A0_out (by lia),Sh.A0_out (by lia)]
    rfl
theorem aLH (n3:3<=n)(n6:n<=6)(ok:OkT T n h): ((aGu T n h).map (·.1)).Nodup:=by
 unfold aGu
 rw[dw]
 refine mw.mpr ((sr.filter (sH T n h)).imp_of_mem λ{a b} ha hb lt e=>?_)
 obtain⟨a1,a2⟩:=fg.mp ha
 obtain⟨b1,b2⟩:=fg.mp hb
 have a1:=az.mp a1
 have b1:=az.mp b1
 unfold sH at a2 b2
 rw[dn] at a2 b2
 exact aML n3 n6 ok a1 b1 (of_decide_eq_true a2.1) (of_decide_eq_true b2.1) (by lia) (xG.mp e)
def RG {α:Type}(P:Addr->α->Prop)(xs:List V)(L:List α):Prop:=xs.length=L.length/\∀(i:Nat) (e:α),L[i]?=some e->∃b,xs[i]?=some (.ref b)/\P b e
theorem aHQ:RG P [] []:=⟨rfl,λi e h=>by cases h⟩
theorem dF (h:RG P xs L)(f:∀b e,P b e->P' b e):RG P' xs L:=⟨h.1,λi e he=>let⟨b,e1,e2⟩:=h.2 i e he;⟨b,e1,f _ _ e2⟩⟩
theorem aCZ (h:RG P xs L)(hb:P b e):RG P (xs++[.ref b]) (L++[e]):=by
 refine⟨by rw[au,au,h.1];rfl,λi e' he=>?_⟩
 by_cases hi:i<L.length
 ·rw[c6 hi] at he
  obtain⟨b',e1,e2⟩:=h.2 i e' he
  exact⟨b',by rw[c6 (by rw[h.1];exact hi)];exact e1,e2⟩
 ·rw[cw (by lia)] at he
  have:i - L.length=0:=by
   rcases hk:i - L.length with _ | k
   ·rfl
   ·rw[hk] at he;cases he
  rw[this] at he
  cases he
  exact⟨b,by rw[cw (by rw[h.1];lia),h.1,this];rfl,hb⟩
theorem aLP {α: Type}{P: Addr->α->Prop}{xs: List V}{L: List α}(h:RG P xs L){i: Nat}{x: V}(hx:xs[i]?=some x):∃e b,L[i]?=some e/\x = .ref b/\P b e:=by
 have hi:i<L.length:=by rw[<- h.1];exact(ai.mp hx).1
 obtain⟨b,e1,e2⟩:=h.2 i L[i] (ah hi)
 rw[hx] at e1
 exact⟨L[i],b,ah hi,bo e1,e2⟩
theorem fN: (ao (i+1)).filter p=(ao i).filter p++if p i=true then[i] else[]:=by
 rw[ot,kl]
 congr 1
 by_cases c:p i=true
 ·rw[if_pos c,il c];rfl
 ·rw[if_neg c,ip c];rfl
theorem oV: ((ao i).filter p).length<=i:=by have:=f9 p (ao i);rw[br] at this;exact this
theorem aBU (hlen:ys.length<=xs.length)(Pv:Nat->St->Hp->Prop)(h0:Pv 0 σ H)(hl:∀i σ H,i<=ys.length->Pv i σ H->SqB b1 K H l1 xs/\SqB b2 K H l2 ys)(hs:∀i x y σ H p,xs[i]?=some x->ys[i]?=some y->H p=none->Pv i σ H->g (.ref p) σ (upd H p (.tup [x,y])) λσ2 H2=>tb { D with nx:=Pv (i+1),ct:=Pv (i+1),bk:=D.nx } σ2 H2)(hd:∀σ H,Pv ys.length σ H->D.nx σ H):
  cX (Itz K b1 b2 l1 l2) g tb D σ H:=by
 refine⟨λi m σ H=>m=ys.length - i/\i<=ys.length/\Pv i σ H,⟨ys.length,by simp,bg _,h0⟩,?g⟩
 case g=>
 rintro i m σ H ⟨rfl,hi,p⟩
 obtain⟨q1,q2⟩:=hl i σ H hi p
 by_cases hlt:i<ys.length
 ·refine .inr ⟨⟨xs,ys,xs[i],ys[i],q1,q2,by simp[show i<xs.length by lia],by simp[hlt]⟩,Pv (i+1),λσ' H' p'=>⟨ys.length - (i+1),by lia,rfl,hlt,p'⟩,λv H' ⟨a,x,y,e1,e2,e3,e4,e5⟩=>?g⟩
  case g=>
  subst e1;subst e3
  exact hs i x y σ H a (e4 xs q1) (e5 ys q2) e2 p
 ·obtain rfl:i=ys.length:=by lia
  exact .inl ⟨⟨xs,ys,q1,q2, .inr (bc _)⟩,hd σ H p⟩
theorem Pt.same (s:Same H H')(h:Pt K H b e):Pt K H' b e:=let⟨q,f,a1,a2,a3⟩:=h;⟨q,f,s.tup a1,s.tup a2,s.tup a3⟩
theorem Pt.x (hp:H p=some (.lst ys))(s:SameX p H H')(h:Pt K H b e):Pt K H' b e:=let⟨q,f,a1,a2,a3⟩:=h;⟨q,f,xQ a1 hp s,xQ a2 hp s,xQ a3 hp s⟩
theorem Tri.same (s:Same H H')(h:Tri K H b e):Tri K H' b e:=let⟨q,x,y,t,z,a0,a1,a2⟩:=h;⟨q,x,y,t,z,a0,s.tup a1,s.tup a2⟩
theorem Tri.x (hp:H p=some (.lst ys))(s:SameX p H H')(h:Tri K H b e):Tri K H' b e:=let⟨q,x,y,t,z,a0,a1,a2⟩:=h;⟨q,x,y,t,z,a0,xQ a1 hp s,xQ a2 hp s⟩
def aOP (K:aa):Sp:=λvs H Q _=>∃(S F hl:Addr) (ss:List V) (ls:List Addr) (T:List (List Int)) (n:Nat) (h:Nat->Nat),vs=[.ref S, .ref F, .ref hl, .int (dT T n h)]/\3<=n/\n<=6/\Bs T n/\OkT T n h/\H S=some (.lst ss)/\RowsS K H ss (dQ n)/\Mt H F ls (mN n+1) (kN n+mN n+1) (RT T n h)/\H hl=some (.lst (hdL (mN n) h)) /\
 ∀C zs W H',Same H H'->H C=none->H' C=some (.lst zs)->W.Perm (aGu T n h)->(W.map (·.1)).Pairwise (λa b=>lexL b a=false)->xX K H' zs W->Q (.ref C) H'
theorem aNp:∀vs H Q E,aOP K vs H Q E->oE K (uB K) { nx:=λ_ H'=>Q .non H',rt:=Q } (aW ["steps","rows","held","bottom","cuts","row","column","some","sign"] vs) H:=by
 intro vs H Q E h
 obtain⟨S,F,hl,ss,ls,T,n,h,rfl,n3,n6,bT,ok,hS,rS,M,hh,q⟩:=h
 obtain⟨nd,m15,m1,pij,k40,sg⟩:=qW n3 n6
 have sl:ss.length=kN n:=rS.1
 refine⟨show 0<=bx by decide,λC hC=>?_⟩
 have mC:=aD hC (.lst [])
 have hC1:(upd H C (.lst [])) C=some (.lst []):=aA
 generalize upd H C (.lst [])=G at *
 refine⟨_,rfl,_,rfl,F,hl,true,true,rfl,⟨_, .of (mC _ _ M.top)⟩,⟨_, .of (mC _ _ hh)⟩,?_⟩
 refine aBU (K:=K) (b1:=true) (b2:=true) (l1:=F) (l2:=hl) (xs:=ls.map V.ref) (ys:=hdL (mN n) h) (by rw[dW,ae,M.len];lia) (λi σ' H'=>i<=mN n/\Same H H'/\(∃x5 x6 x7 x8,σ'=[some (.ref S),some (.ref F),some (.ref hl),some (.int (dT T n h)),some (.ref C),x5,x6,x7,x8])/\∃zs,H' C=some (.lst zs)/\RG (Pt K H') zs (((ao i).filter (sH T n h)).map (aMP T n h)))
  ⟨bg _,mC,⟨_,_,_,_,rfl⟩,[],hC1,aHQ⟩ (λi σ1 H1 _ ⟨_,s1,_⟩=>⟨.of (s1 _ _ M.top), .of (s1 _ _ hh)⟩) (λi x y σ1 H1 t hx hy ht ⟨_,s1,⟨x5,x6,x7,x8,es⟩,zs,hz,rz⟩=>?_) λσ1 H1 ⟨_,s1,⟨x5,x6,x7,x8,es⟩,zs,hz,rz⟩=>?_
 ·subst es
  have hi:i<mN n:=by have:=(ai.mp hy).1;rw[dW] at this;exact this
  rw[sV hi] at hy
  obtain rfl:aU (h i)=y:=bo hy
  obtain⟨l,g1,g2,g3⟩:=M.at (show i<mN n+1 by lia)
  rw[g2] at hx
  obtain rfl:V.ref l=x:=bo hx
  have mt:=aD ht (.tup [V.ref l,aU (h i)])
  refine⟨t,_,rfl, .of aA,rfl,_,_,rfl,_,_,rfl,rfl,?_⟩
  have s2:=s1.trans mt
  have hz2:=mt _ _ hz
  have rz2:=dF rz λb e=>Pt.same mt
  generalize upd H1 t (.tup [V.ref l,aU (h i)])=G1 at *
  have hl2:=s2 _ _ g3
  refine⟨_,rfl,_,rfl,S,_,rfl, .inl (.of (s2 _ _ hS)),_,_,rfl,rfl,_,rfl,?_⟩
  rw[sl]
  have ed:decide (((h i:Nat):Int)<((kN n:Nat):Int))=decide (h i<kN n):=by
   by_cases c:h i<kN n
   ·rw[decide_eq_true c];exact decide_eq_true (by lia)
   ·rw[decide_eq_false c];exact decide_eq_false (by lia)
  show if decide (((h i:Nat):Int)<((kN n:Nat):Int))=true then _ else _
  rw[ed]
  have skip:sH T n h i=false->(i+1<=mN n/\Same H G1/\(∃y5 y6 y7 y8,([some (.ref S),some (.ref F),some (.ref hl),some (.int (dT T n h)),some (.ref C),some (.ref l),some (aU (h i)),x7,x8]:St)=[some (.ref S),some (.ref F),some (.ref hl),some (.int (dT T n h)),some (.ref C),y5,y6,y7,y8])/\∃zs,G1 C=some (.lst zs)/\RG (Pt K G1) zs (((ao (i+1)).filter (sH T n h)).map (aMP T n h))):=λc=>by
   refine⟨hi,s2,⟨_,_,_,_,rfl⟩,zs,hz2,?_⟩
   rw[fN,if_neg (by rw[c];decide),iq]
   exact rz2
  have lastv:∀{R:VK},R (.int (RT T n h i (NN n))) G1->aL K (.ref l) (.int (-1)) G1 R:=λr=>aCf (.of hl2) (by rw[aT];lia) (by rw[aT];exact jS (by lia)) r
  by_cases ck:h i<kN n
  ·refine bW (decide_eq_true ck) ⟨_,rfl,1,rfl,lastv ⟨.int _, .int 0,bg _,rfl,rfl,_,rfl,?_⟩⟩
   have e0:(!eqD (.int (RT T n h i (NN n))) (.int 0)) = !decide (RT T n h i (NN n)=0):=by rw[eqD];rfl
   rw[e0]
   by_cases c0:RT T n h i (NN n)=0
   ·refine aV (by rw[decide_eq_true c0];rfl) (skip ?_)
    unfold sH
    rw[decide_eq_true c0]
    simp
   ·refine bW (by rw[decide_eq_false c0];rfl) ?_
    have ci:sH T n h i=true:=by unfold sH;rw[decide_eq_true ck,decide_eq_false c0];rfl
    obtain⟨b,q2,e1,e2,e3⟩:=(rS.same s2).2 _ _ (aIV ck)
    refine⟨_,rfl,_,rfl,ixL (.of (s2 _ _ hS)) e1 ⟨b,_,rfl,e2,rfl,_,_,rfl,_,_,rfl,rfl,?_⟩⟩
    have sgb:=aHL (j:=h i) n3 n6
    refine⟨_,rfl, .inl ⟨rfl,_, .of hz2⟩,_,rfl,_,rfl,_,rfl,1,rfl,lastv ⟨.inl (.inl ⟨by lia,by lia⟩),_,rfl,_,_,rfl,ok.d0,big (lR n3 n6 bT h),λf H3 s3 hf=>⟨show 2<=bx by decide,λu hu=>?_⟩⟩⟩
    have mu:=aD hu (.tup [V.ref q2, .ref f])
    have s4:=s3.trans mu
    have hz4:=s4 _ _ hz2
    refine⟨C,zs,_,rfl,rfl,hz4,bh (show zs.length<=100 by rw[rz.1,ae];have:=oV (i:=i) (p:=sH T n h);lia) (by decide),hi,bB hC (s2.trans s4),⟨_,_,_,_,rfl⟩,_,aA,?_⟩
    rw[fN,if_pos ci,bj]
    refine dF (aCZ (dF rz2 λb e=>Pt.same s4) (b:=u) (e:=aMP T n h i) ⟨q2,f, .of aA,?_,mu.tup (.of hf)⟩) λb e=>Pt.x hz4 (SameX.put _)
    show SqT K _ q2 (((stA n (h i)).1.map Int.ofNat).map V.int)
    rw[<- jB]
    exact s4.tup e3
  ·refine aV (decide_eq_false ck) (aV rfl (skip ?_))
   unfold sH
   rw[decide_eq_false ck]
   rfl
 ·subst es
  rw[dW] at rz
  refine⟨_,rfl,C,zs,aGu T n h,rfl, .inl (.of hz),rz,aLH n3 n6 ok,?_,λys W pW sW py rW l hl'=>?_⟩
  ·unfold aGu
   rw[ae]
   have:=oV (i:=mN n) (p:=sH T n h)
   lia
  ·have ml:=aD hl' (.lst ys)
   exact q l ys W _ (s1.trans ml) (s1.free hl') aA pW sW (dF rW λb e=>Pt.same ml)
def aOx (K:aa)(C1 C2 C3:Addr):Sp:=λvs H Q E=>∃(v:V) (T:List (List Int)) (n:Nat),vs=[v]/\Sh K H (uF T) v/\Quad T n/\1<=n/\n<=8 /\
 (((eN T n).all id=false/\∀H',Same H H'->E (.ref C1) none H')\/(Sy T n/\((n<3/\∀H',Same H H'->E (.ref C2) none H')\/(6<n/\∀H',Same H H'->E (.ref C3) none H')\/(3<=n/\n<=6/\∀H',Same H H'->Q .non H'))))
theorem aOc:∀vs H Q E,aOx K C1 C2 C3 vs H Q E->gZ K C1 C2 C3 E (aNN K) { nx:=λ_ H'=>Q .non H',rt:=Q } (aW ["table"] vs) H:=by
 intro vs H Q E h
 obtain⟨v,T,n,rfl,hT,qT,n1,n8,q⟩:=h
 refine⟨_,rfl,v,T,n,rfl,hT,qT,n1,n8,λH1 s1=>?_⟩
 obtain⟨a,rs,rfl,ha,hl,_⟩:=id hT.tab
 have hl:rs.length=n:=hl.trans qT.len
 rcases q with⟨ev,e⟩ | ⟨sy,q⟩
 ·exact⟨_,rfl,bW (by show(!(eN T n).all id)=true;rw[ev];rfl) (e H1 s1)⟩
 ·refine⟨_,rfl,aV (by show(!(eN T n).all id)=false;rw[nU sy];rfl) ?_⟩
  refine⟨_,rfl,a,rs,rfl, .inr (s1.tup ha),_,_,rfl,rfl,_,rfl,?_⟩
  rw[hl]
  rcases q with⟨lt,e⟩ | q
  ·exact bW (decide_eq_true (by lia)) (e H1 s1)
  ·have n3:3<=n:=by rcases q with⟨z,_⟩ | ⟨z,_⟩ <;> lia
   refine aV (decide_eq_false (by lia)) ⟨_,rfl,a,rs,rfl, .inr (s1.tup ha),_,_,rfl,rfl,_,rfl,?_⟩
   rw[hl]
   rcases q with⟨gt,e⟩ | ⟨_,n6,q⟩
   ·exact bW (decide_eq_true (by lia)) (e H1 s1)
   ·exact aV (decide_eq_false (by lia)) (q H1 s1)
def aJZ (K:aa)(C1 C2 C3:Addr):Sp:=λvs H Q E=>∃(v:V) (T:List (List Int)) (n:Nat),vs=[v]/\Sh K H (uF T) v/\Quad T n/\1<=n/\n<=8 /\
 (((eN T n).all id=false/\∀H',Same H H'->E (.ref C1) none H')\/(Sy T n/\((n<3/\∀H',Same H H'->E (.ref C2) none H')\/(6<n/\∀H',Same H H'->E (.ref C3) none H')\/(3<=n/\n<=6/\Bs T n /\
  ∀h p wp fl cl ys zs W H',Same H H'->OkT T n h->(∀j,j<NN n->0<=RT T n h (mN n) j)->H' p=some (.tup [.ref wp, .ref fl, .ref cl])->H' wp=some (.tup [.int (lo (RT T n h (mN n) (NN n)) (dT T n h)).1, .int (lo (RT T n h (mN n) (NN n)) (dT T n h)).2])->H fl=none->H' fl=some (.lst ys)->aCK K H' ys (aOe T n h) ->
   H cl=none->cl≠fl->H' cl=some (.lst zs)->W.Perm (aGu T n h)->(W.map (·.1)).Pairwise (λa b=>lexL b a=false)->xX K H' zs W->Q (.ref p) H'))))
theorem aLK:∀vs H Q E,aJZ K C1 C2 C3 vs H Q E->aBp K E (aOA K) (aON K) (aOI K) (uB K) (aOT K) (aOP K) (aOx K C1 C2 C3) { nx:=λ_ H'=>Q .non H',rt:=Q } (aW ["table","pairs","steps","rows","held","bottom","tops","found"] vs) H:=by
 intro vs H Q E h
 obtain⟨v,T,n,rfl,hT,qT,n1,n8,q⟩:=h
 refine⟨_,rfl,v,T,n,rfl,hT,qT,n1,n8,?_⟩
 rcases q with q | ⟨sy,q | q | ⟨n3,n6,bT,q⟩⟩
 ·exact .inl q
 ·exact .inr ⟨sy, .inl q⟩
 ·exact .inr ⟨sy, .inr (.inl q)⟩
 refine .inr ⟨sy, .inr (.inr ⟨n3,n6,λH1 s1=>?_⟩)⟩
 obtain⟨nd,m15,m1,pij,k40,sg⟩:=qW n3 n6
 obtain⟨a,rs,rfl,ha,hl,_⟩:=id hT.tab
 have hl:rs.length=n:=hl.trans qT.len
 refine⟨_,rfl,a,rs,rfl, .inr (s1.tup ha),n,by rw[hl];rfl,n8,λP ps H2 s2 _ hP rP=>?_⟩
 have s12:=s1.trans s2
 refine⟨_,rfl,a,rs,rfl, .inr (s12.tup ha),n,by rw[hl];rfl,n3,n6,λS ss H3 s3 _ hS rS=>?_⟩
 have s13:=s12.trans s3
 refine⟨_,rfl,_,rfl,_,rfl, .ref a,P,S,ps,ss,T,n,rfl,hT.same s13,qT,n3,n6,s3 _ _ hP,rP.same s3,hS,rS,λF ls H4 s4 hF0 M4=>?_⟩
 have s14:=s13.trans s4
 have pl:ps.length=mN n:=by rw[rP.1,dU];rfl
 have sl:ss.length=kN n:=rS.1
 have hP4:=(s3.trans s4) _ _ hP
 have hS4:=s4 _ _ hS
 refine⟨_,rfl,P,_,rfl, .inl (.of hP4),(ps.length:Int),rfl,by lia,by lia,λA hA=>?_⟩
 rw[dh,pl]
 have hv:∀H',SameX A (upd H4 A (.lst [])) H'->Same H4 H':=λH' sx=>bA hA sx
 refine bN [0] (hdL (mN n) (Sh.h0 (kN n))) hA (by rw[dW];lia) (Emits.cast (gS (n:=mN n) (lo:=0) (j:=0) (L:=λi=>[aU (kN n+i)]) (by decide) (by show 0<2;decide) λi σ5 H5 hi l5 ag5 t0 sx5 _=>?_) (by rw[aAH];rfl)) λσ5 H5 s5 hA5=>?_
 ·have t1:σ5[1]?=some (some (.ref S)):=(ag5 1 (by decide)).trans rfl
  rw[kd] at t0
  refine cH λR hR=>⟨_,t1,S,_,rfl, .inl (.of (hv _ sx5 _ _ hS4)),_,t0,?_⟩
  show R (.int ((ss.length:Int)+(i:Int))) H5
  rw[sl,show((kN n:Nat):Int)+(i:Int)=((kN n+i:Nat):Int) by lia]
  exact hR _ (Same.refl _)
 have s15:=s14.trans s5
 refine⟨_,rfl,_,rfl,F,A,ls,T,n,rfl,n3,n6,bT,M4.same s5,hA5,λh ls6 H6 ok all M6 hh6 sa6=>?_⟩
 have nF:∀b o,H3 b=some o->b≠F:=λb o e z=>by rw[z,hF0] at e;cases e
 have nA:∀b o,H4 b=some o->b≠A:=λb o e z=>by rw[z,hA] at e;cases e
 have s36:Same H3 H6:=λb o e=>sa6 b o (nF b o e) (nA b o (s4 _ _ e)) (s5 _ _ (s4 _ _ e))
 have s16:=s13.trans s36
 obtain⟨ll,g1,g2,g3⟩:=M6.at (show mN n<mN n+1 by lia)
 have lastR:∀{R:VK},R (.ref ll) H6->aL K (.ref F) (.int (-1)) H6 R:=λr=>aCf (.of M6.top) (by rw[ae,M6.len];lia) (by rw[ae,M6.len];exact g2) r
 refine⟨_,rfl,1,rfl,lastR ⟨_,rfl,S,_,rfl, .inl (.of (s36 _ _ hS)),_,rfl,1,rfl,_,rfl, .inl ⟨ll,_,rfl, .of g3,λtp htp=>?_⟩⟩⟩
 rw[sl,aDh (by rw[aT];lia)]
 have et:((mkR (kN n+mN n+1) (RT T n h (mN n))).drop (kN n)).take ((mkR (kN n+mN n+1) (RT T n h (mN n))).length - 1 - kN n)=mkR (mN n) (λp=>RT T n h (mN n) (kN n+p)):=by
  rw[aT,show kN n+mN n+1 - 1 - kN n=mN n by lia]
  apply xt
  intro i
  rw[List.getElem?_take]
  by_cases c:i<mN n
  ·rw[if_pos c,jl,jS (by lia),jS c]
  ·rw[if_neg c]
   exact(uc (by rw[aT];lia)).symm
 rw[et]
 have mtp:=aD htp (.lst (mkR (mN n) (λp=>RT T n h (mN n) (kN n+p))))
 have htp7:(upd H6 tp (.lst (mkR (mN n) (λp=>RT T n h (mN n) (kN n+p))))) tp=some (.lst (mkR (mN n) (λp=>RT T n h (mN n) (kN n+p)))):=aA
 have s17:=s16.trans mtp
 have s37:=s36.trans mtp
 have M7:=M6.same mtp
 have hh7:=mtp _ _ hh6
 generalize upd H6 tp (.lst (mkR (mN n) (λp=>RT T n h (mN n) (kN n+p))))=H7 at *
 have hP7:=s37 _ _ (s3 _ _ hP)
 have rP7:=(rP.same s3).same s37
 refine⟨_,rfl,_,rfl,P,tp,true,true,rfl,⟨_, .of hP7⟩,⟨_, .of htp7⟩,λB hB=>?_⟩
 refine aBU (K:=K) (b1:=true) (b2:=true) (l1:=P) (l2:=tp) (xs:=ps) (ys:=mkR (mN n) (λp=>RT T n h (mN n) (kN n+p))) (by rw[aT,pl];lia) (λi σ' H'=>i<=mN n/\Same H7 H'/\(∃x0 x1 x2,σ'=[x0,x1,x2,some (.int (dT T n h))])/\∃ys,H' B=some (.lst ys)/\RG (Tri K H') ys (((ao i).filter (zG T n h)).map (aMT T n h)))
  ⟨bg _,aD hB _,⟨_,_,_,rfl⟩,[],aA,aHQ⟩ (λi σ8 H8 _ ⟨_,s8,_⟩=>⟨.of (s8 _ _ hP7), .of (s8 _ _ htp7)⟩) (λi x y σ8 H8 t hx hy ht ⟨_,s8,⟨x0,x1,x2,es⟩,ys,hz,rz⟩=>?_) λσ8 H8 ⟨_,s8,_,ys,hz,rz⟩=>?_
 ·subst es
  obtain⟨hi,rfl⟩:=vQ hy
  obtain⟨e,b,he,rfl,hb⟩:=tH (rP7.same s8) hx
  have ep:prA n i=e:=eG he
  have mt:=aD ht (.tup [V.ref b, .int (RT T n h (mN n) (kN n+i))])
  refine⟨t,_,rfl, .of aA,rfl,_,_,rfl,b,_,rfl,mt.tup hb,rfl,_,_,rfl,_,_,rfl,rfl,_,_,rfl,rfl,?_⟩
  have s9:=s8.trans mt
  have hz9:=mt _ _ hz
  have rz9:=dF rz λb e=>Tri.same mt
  generalize upd H8 t (.tup [V.ref b, .int (RT T n h (mN n) (kN n+i))])=H9 at *
  refine⟨_,rfl,_,_,rfl,rfl,_,rfl,zY (λc=>?_) λc=>?_⟩
  ·have ci:zG T n h i=true:=c
   refine⟨_,rfl,_,rfl,_,rfl,_,rfl,_,_,rfl,ok.d0,big (lR n3 n6 bT h),λf H10 s10 hf=>⟨show 3<=bx by decide,λu hu=>?_⟩⟩
   have mu:=aD hu (.tup [aU e.1,aU e.2, .ref f])
   have s11:=s10.trans mu
   have hz11:=s11 _ _ hz9
   refine⟨ys,hz11,bh (show ys.length<=100 by rw[rz.1,ae];have:=oV (i:=i) (p:=zG T n h);lia) (by decide),hi,bB hB (s9.trans s11),⟨_,_,_,rfl⟩,_,aA,?_⟩
   rw[fN,if_pos ci,bj]
   refine dF (aCZ (dF rz9 λb e=>Tri.same s11) (b:=u) (e:=aMT T n h i) ⟨f,e.1,e.2,(lo (RT T n h (mN n) (kN n+i)) (dT T n h)).1,(lo (RT T n h (mN n) (kN n+i)) (dT T n h)).2,by unfold aMT;rw[ep], .of aA,mu.tup (.of hf)⟩) λb e=>Tri.x hz11 (SameX.put _)
  ·refine⟨hi,s9,⟨_,_,_,rfl⟩,ys,hz9,?_⟩
   have ci:¬ zG T n h i=true:=c
   rw[fN,if_neg ci,iq]
   exact rz9
 ·rw[aT] at rz
  have g3':=s8 _ _ (mtp _ _ g3)
  have Fl8:=s8 _ _ M7.top
  refine⟨_,rfl,1,rfl,aCf (.of Fl8) (by rw[ae,M7.len];lia) (by rw[ae,M7.len];exact g2) ⟨1,rfl,aCf (.of g3') (by rw[aT];lia) (by rw[aT];exact jS (by lia)) ⟨_,rfl,_,_,rfl,ok.d0,big (lR n3 n6 bT h),λwp H9 s9 hwp=>?_⟩⟩⟩
  have s89:=s8.trans s9
  refine⟨_,rfl,_,rfl,_,rfl,_,rfl,_,rfl,S,F,A,ss,ls6,T,n,h,rfl,n3,n6,bT,ok,(s37.trans s89) _ _ hS,rS.same (s37.trans s89),M7.same s89,s89 _ _ hh7,λcl zs W H10 s10 hcl0 hcl pW sW rW=>⟨show 3<=bx by decide,λp hp=>?_⟩⟩
  have mp:=aD hp (.tup [V.ref wp, .ref B, .ref cl])
  have hB10:=s10 _ _ (s9 _ _ hz)
  refine q h p wp B cl ys zs W _ (((s17.trans s89).trans s10).trans mp) ok all aA ?_ (s17.free hB) (mp _ _ hB10) (dF rz λb e=>Tri.same ((s9.trans s10).trans mp)) ((s17.trans s89).free hcl0) (λz=>?_) (mp _ _ hcl) pW sW (dF rW λb e=>Pt.same mp)
  ·exact mp _ _ (s10 _ _ hwp)
  ·rw[z,s9 _ _ hz] at hcl0
   cases hcl0
end K39
namespace K39.L
open PySem L2
def whD:Dt->Bool
 | .int _=>true
 |_=>false
inductive aKL (K : aa) (vs : List V) (H : Hp) (Q : VK) : Prop
 |mk (v : V) (d : Dt) (h0 : vs = [v]) (h1 : Sh K H d v) (h2 : ∀H', Same H H' -> Q (.bl (whD d)) H') : aKL K vs H Q
def spW (K:aa):Sp:=λvs H Q _=>aKL K vs H Q
end K39.L
namespace K39
open PySem L2
def OkD (D:Int)(P:Pr):Prop:=∀e∈P,0<e.2/\e.2 ∣ D/\e.1.natAbs<2 ^ 2000
def cF (D:Int)(P:Pr):Int:=(P.map λe=>e.1*(D / e.2)).sum
theorem aAt (hb:0<b)(h1:c ∣ D)(h2:b ∣ D):c*(b / gd c b) ∣ D:=by
 obtain⟨r1,r2,r3,r4⟩:=fI (i:=c) hb
 have g0:=fH (i:=c) hb
 obtain⟨u,rfl⟩:=h1
 have h3:gd c b*(b / gd c b) ∣ gd c b*(c / gd c b*u):=by
  rw[<- r2,<- cm,<- r1]
  exact h2
 have h4:b / gd c b ∣ c / gd c b*u:=Int.dvd_of_mul_dvd_mul_left (by lia) h3
 obtain⟨w,hw⟩:=zL h4 r4
 refine⟨w,?_⟩
 rw[cm,<- hw]
theorem aZ {c D: Int}(hc:0<c)(hD:0<D)(h:c ∣ D){k: Nat}(hb:D.natAbs<2 ^ k):c.natAbs<2 ^ k:=by
 have:=ym hD h
 lia
theorem vA {x: Int}(h:x.natAbs<2 ^ 2000):x.natAbs<2 ^ 8000:=cg h (ff (by decide) (by decide))
theorem dD {D e: Int}(he:0<e)(hD:0<D){k: Nat}(hb:D.natAbs<2 ^ k): (D / e).natAbs<2 ^ k:=by
 have:D / e<=D:=Int.ediv_le_self _ (by lia)
 have:0<=D / e:=Int.ediv_nonneg (by lia) (by lia)
 lia
def aNd (K:aa):Sp:=λvs H Q _=>∃(a:Addr) (xs:List V) (P:Pr) (D:Int),vs=[.ref a]/\Sq K H a xs/\Rows K H xs (prI P)/\OkD D P/\0<D/\D.natAbs<2 ^ 2000/\∀c:Int,0<c->c ∣ D->(∀e∈P,e.2 ∣ c)->Q (.int c) H
theorem aNi:∀vs H Q E,aNd K vs H Q E->fX K aNA { nx:=λ_ H'=>Q .non H',rt:=Q } (aW ["some","common","top","bottom"] vs) H:=by
 intro vs H Q E h
 obtain⟨a,xs,P,D,rfl,ha,hr,okp,D0,Db,q⟩:=h
 have hl:xs.length=P.length:=by rw[hr.1];unfold prI;rw[ae]
 rcases ha with ha | ha
 ·refine⟨_,rfl,a,rfl, .inl ⟨⟨_,ha⟩,aS (K:=K) (a:=a) (xs:=xs) (λi σ' H'=>H'=H/\i<=xs.length/\∃(c:Int) (x2 x3:Option V),σ'=[some (.ref a),some (.int c),x2,x3]/\0<c/\c ∣ D/\∀e∈P.take i,e.2 ∣ c) ⟨rfl,bg _,1,none,none,rfl,by decide,BG _,by simp⟩ (λi σ1 H1 _ ⟨e,_⟩=>by rw[e];exact ha) (λi x σ1 H1 hx ⟨e,_,c,x2,x3,es,c0,cd,ce⟩=>?_) λσ1 H1 ⟨e,_,c,x2,x3,es,c0,cd,ce⟩=>?_⟩⟩
  ·subst e es
   have hi:i<xs.length:=(ai.mp hx).1
   obtain⟨e,b,he,rfl,hb⟩:=hU hr hx
   obtain⟨b0,bd,_⟩:=okp e (ar he)
   refine⟨b,_,rfl,hb,rfl, .int e.1,[.int e.2],rfl, .int e.2,[],rfl,rfl,?_⟩
   have g0:=fH (i:=c) b0
   obtain⟨r1,r2,r3,_⟩:=fI (i:=c) b0
   have e2s:=vA (aZ b0 D0 bd Db)
   refine⟨_,rfl,_,rfl,_,rfl,_,rfl,c,e.2,rfl,_,_,rfl,rfl,tG b0 e2s, .inr ⟨vA (aZ c0 D0 cd Db),dD g0 b0 e2s⟩,rfl,hi,c*(e.2 / gd c e.2),_,_,rfl,qa c0 r3,aAt b0 cd bd,λx hx'=>?_⟩
   rw[e8,he] at hx'
   rcases di.mp hx' with h | h
   ·exact A8 (ce x h) (xw ..)
   ·obtain rfl:x=e:=by simpa using h
    refine⟨c / gd c x.2,?_⟩
    have:c*(x.2 / gd c x.2)=(gd c x.2*(c / gd c x.2))*(x.2 / gd c x.2):=by rw[<- r1]
    rw[this,cm,dm,<- cm,b8 (c / gd c x.2),cm,b8 (c / gd c x.2),<- cm,<- r2]
  ·subst e es
   rw[hl,fc] at ce
   exact⟨_,rfl,q c c0 cd ce⟩
 ·refine⟨_,rfl,a,rfl, .inr ⟨⟨_,ha⟩,qC (K:=K) (a:=a) (xs:=xs) (λi σ' H'=>H'=H/\i<=xs.length/\∃(c:Int) (x2 x3:Option V),σ'=[some (.ref a),some (.int c),x2,x3]/\0<c/\c ∣ D/\∀e∈P.take i,e.2 ∣ c) ⟨rfl,bg _,1,none,none,rfl,by decide,BG _,by simp⟩ (λi σ1 H1 _ ⟨e,_⟩=>by rw[e];exact ha) (λi x σ1 H1 hx ⟨e,_,c,x2,x3,es,c0,cd,ce⟩=>?_) λσ1 H1 ⟨e,_,c,x2,x3,es,c0,cd,ce⟩=>?_⟩⟩
  ·subst e es
   have hi:i<xs.length:=(ai.mp hx).1
   obtain⟨e,b,he,rfl,hb⟩:=hU hr hx
   obtain⟨b0,bd,_⟩:=okp e (ar he)
   refine⟨b,_,rfl,hb,rfl, .int e.1,[.int e.2],rfl, .int e.2,[],rfl,rfl,?_⟩
   have g0:=fH (i:=c) b0
   obtain⟨r1,r2,r3,_⟩:=fI (i:=c) b0
   have e2s:=vA (aZ b0 D0 bd Db)
   refine⟨_,rfl,_,rfl,_,rfl,_,rfl,c,e.2,rfl,_,_,rfl,rfl,tG b0 e2s, .inr ⟨vA (aZ c0 D0 cd Db),dD g0 b0 e2s⟩,rfl,hi,c*(e.2 / gd c e.2),_,_,rfl,qa c0 r3,aAt b0 cd bd,λx hx'=>?_⟩
   rw[e8,he] at hx'
   rcases di.mp hx' with h | h
   ·exact A8 (ce x h) (xw ..)
   ·obtain rfl:x=e:=by simpa using h
    refine⟨c / gd c x.2,?_⟩
    have:c*(x.2 / gd c x.2)=(gd c x.2*(c / gd c x.2))*(x.2 / gd c x.2):=by rw[<- r1]
    rw[this,cm,dm,<- cm,b8 (c / gd c x.2),cm,b8 (c / gd c x.2),<- cm,<- r2]
  ·subst e es
   rw[hl,fc] at ce
   exact⟨_,rfl,q c c0 cd ce⟩
def jX (D:Int)(P:Pr):List Int:=P.map λe=>e.1*(D / e.2)
def aNu (K:aa):Sp:=λvs H Q _=>∃(a:Addr) (xs:List V) (P:Pr) (D:Int),vs=[.ref a, .int D]/\Sq K H a xs/\Rows K H xs (prI P)/\OkD D P/\P.length<=100/\0<D/\D.natAbs<2 ^ 2000/\∀l H',Same H H'->H' l=some (.lst ((jX D P).map V.int))->Q (.ref l) H'
theorem aNm:∀vs H Q E,aNu K vs H Q E->pP K { nx:=λ_ H'=>Q .non H',rt:=Q } (aW ["some","bottom"] vs) H:=by
 intro vs H Q E h
 obtain⟨a,xs,P,D,rfl,ha,hr,okp,h8,D0,Db,q⟩:=h
 have hl:xs.length=P.length:=by rw[hr.1];unfold prI;rw[ae]
 rcases ha with ha | ha
 ·refine⟨_,rfl,a,rfl, .inl ⟨⟨_,ha⟩,λA hA=>?_⟩⟩
  refine aS (K:=K) (a:=a) (xs:=xs) (λi σ' H'=>i<=xs.length/\Same H H'/\(∃x0 x1,σ'=[x0,x1,some (.int D)])/\H' A=some (.lst ((jX D (P.take i)).map V.int))) ⟨bg _,aD hA _,⟨_,_,rfl⟩,aA⟩ (λi σ1 H1 _ ⟨_,s1,_⟩=>s1.seq ha) (λi x σ1 H1 hx ⟨_,s1,⟨x0,x1,es⟩,hA1⟩=>?_) λσ1 H1 ⟨_,s1,_,hA1⟩=>?_
  ·subst es
   have hi:i<xs.length:=(ai.mp hx).1
   obtain⟨e,b,he,rfl,hb⟩:=hU (hr.same s1) hx
   obtain⟨b0,b1,t1⟩:=okp e (ar he)
   refine⟨b,_,rfl,hb,rfl, .int e.1,[.int e.2],rfl, .int e.2,[],rfl,rfl,?_⟩
   refine⟨_,rfl,_,rfl,_,rfl,_,_,rfl,rfl,⟨b0,vA (aZ b0 D0 b1 Db)⟩, .inr ⟨vA t1,vA (dD b0 D0 Db)⟩,_,hA1,?_,hi,bB hA s1,⟨_,_,rfl⟩,?_⟩
   ·rw[ae]
    unfold jX
    rw[ae,c9]
    exact bh (show _<=100 by lia) (by decide)
   ·rw[aA,e8,he]
    unfold jX
    rw[bj,bj]
    rfl
  ·rw[hl,fc] at hA1
   exact q A H1 s1 hA1
 ·refine⟨_,rfl,a,rfl, .inr ⟨⟨_,ha⟩,λA hA=>?_⟩⟩
  refine qC (K:=K) (a:=a) (xs:=xs) (λi σ' H'=>i<=xs.length/\Same H H'/\(∃x0 x1,σ'=[x0,x1,some (.int D)])/\H' A=some (.lst ((jX D (P.take i)).map V.int))) ⟨bg _,aD hA _,⟨_,_,rfl⟩,aA⟩ (λi σ1 H1 _ ⟨_,s1,_⟩=>s1.tup ha) (λi x σ1 H1 hx ⟨_,s1,⟨x0,x1,es⟩,hA1⟩=>?_) λσ1 H1 ⟨_,s1,_,hA1⟩=>?_
  ·subst es
   have hi:i<xs.length:=(ai.mp hx).1
   obtain⟨e,b,he,rfl,hb⟩:=hU (hr.same s1) hx
   obtain⟨b0,b1,t1⟩:=okp e (ar he)
   refine⟨b,_,rfl,hb,rfl, .int e.1,[.int e.2],rfl, .int e.2,[],rfl,rfl,?_⟩
   refine⟨_,rfl,_,rfl,_,rfl,_,_,rfl,rfl,⟨b0,vA (aZ b0 D0 b1 Db)⟩, .inr ⟨vA t1,vA (dD b0 D0 Db)⟩,_,hA1,?_,hi,bB hA s1,⟨_,_,rfl⟩,?_⟩
   ·rw[ae]
    unfold jX
    rw[ae,c9]
    exact bh (show _<=100 by lia) (by decide)
   ·rw[aA,e8,he]
    unfold jX
    rw[bj,bj]
    rfl
  ·rw[hl,fc] at hA1
   exact q A H1 s1 hA1
theorem xI (hc:0<c)(hD:0<D)(hcD:c ∣ D):∀{P:Pr},(∀e∈P,0<e.2/\e.2 ∣ c)->cF c P*D=cF D P*c
 |[],_=>by simp[cF]
 |e :: P,h=>by
  have ih:=xI hc hD hcD (P:=P) λx hx=>h x (ay _ hx)
  obtain⟨e0,u,rfl⟩:=h e (cv ..)
  obtain⟨w,rfl⟩:=hcD
  have x1:e.2*u / e.2=u:=j3 _ (by lia)
  have x2:e.2*u*w / e.2=u*w:=by rw[cm];exact j3 _ (by lia)
  unfold cF at ih ⊢
  rw[cf,cf,dz,dz,pw,pw,ih,x1,x2]
  congr 1
  simp only[cm,dm,b8]
theorem aBY (hb:0<b)(hd:0<d)(h:a*d=c*b):lo a b=lo c d:=by
 obtain⟨e1,e2⟩:=aLE hb hd h
 unfold lo
 rw[e1,e2]
def aFc (K:aa):Sp:=λvs H Q _=>∃(a:Addr) (xs:List V) (P:Pr) (D:Int),vs=[.ref a]/\H a=some (.lst xs)/\Rows K H xs (prI P)/\OkD D P/\P.length<=100/\0<D/\D.natAbs<2 ^ 2000/\∀p H',Same H H'->H' p=some (.tup [.int (lo (cF D P) D).1, .int (lo (cF D P) D).2])->Q (.ref p) H'
theorem aMe:∀vs H Q E,aFc K vs H Q E->aEk K (aNd K) (uB K) (aNu K) { nx:=λ_ H'=>Q .non H',rt:=Q } (aW ["some","bottom"] vs) H:=by
 intro vs H Q E h
 obtain⟨a,xs,P,D,rfl,ha,hr,okp,h8,D0,Db,q⟩:=h
 refine⟨_,rfl,a,xs,P,D,rfl, .inl (.of ha),hr,okp,D0,Db,λc c0 cd ce=>?_⟩
 have cb:=aZ c0 D0 cd Db
 refine⟨_,rfl,_,rfl,a,xs,P,c,rfl, .inl (.of ha),hr,λe he=>⟨(okp e he).1,ce e he,(okp e he).2.2⟩,h8,c0,cb,λl H1 s1 hl=>⟨l,jX c P,rfl, .inl (.of hl),_,rfl,_,_,rfl,c0,vA cb,λp H2 s2 hp=>q p H2 (s1.trans s2) ?_⟩⟩
 rw[hp]
 have e:=aBY c0 D0 (xI c0 D0 cd (P:=P) λe he=>⟨(okp e he).1,ce e he⟩)
 rw[<- e]
 rfl
def Fr (K:aa)(H:Hp)(a:Addr)(t b:Int):Prop:=SqT K H a [.int t, .int b]
theorem aOF {α β: Type}(p:α->Bool)(g:α->β)(e:α): ([e].filter p).map g=if p e=true then[g e] else[]:=by
 by_cases c:p e=true
 ·rw[if_pos c,il c];rfl
 ·rw[if_neg c,ip c];rfl
abbrev Shs:= List ((Nat×Nat)×(Int×Int))
def mO (L:Shs):List (List Int):=L.map λe=>[(e.1.1:Int),(e.1.2:Int),e.2.1,e.2.2]
def aCo (s:List Nat)(L:Shs):Pr:=(L.filter λe=>prt s e.1.1 e.1.2).map (·.2)
theorem pF {K: aa}{H: Hp}{ys: List V}{L: Shs}(h:aCK K H ys (mO L)){i: Nat}{x: V}(hx:ys[i]?=some x):∃e b q,L[i]?=some e/\x = .ref b/\SqT K H b [aU e.1.1,aU e.1.2, .ref q]/\SqT K H q [.int e.2.1, .int e.2.2]:=by
 obtain⟨row,b,hr,rfl,q,x,y,t,z,er,h1,h2⟩:=aLP (show RG (Tri K H) ys (mO L) from h) hx
 unfold mO at hr
 rw[aw] at hr
 cases he:L[i]? with
 |none=>rw[he] at hr;cases hr
 |some e=>
  rw[he] at hr
  have z1:=(bo hr).trans er
  simp only[Ae,and_true] at z1
  obtain⟨a1,a2,a3,a4⟩:=z1
  subst a1 a2 a3 a4
  exact⟨e,b,q,rfl,rfl,h1,h2⟩
theorem aEv (h:OkD D P)(s:∀e∈P',e∈P):OkD D P':=λe he=>h e (s e he)
theorem uC:prI (P++P')=prI P++prI P':=by unfold prI;rw[bj]
def aOL (K:aa):Sp:=λvs H Q _=>∃(l c:Addr) (ys:List V) (L:Shs) (s:List Nat) (D:Int),vs=[.ref l, .ref c]/\H l=some (.lst ys)/\aCK K H ys (mO L)/\L.length<=60/\SqT K H c (s.map aU)/\OkD D (L.map (·.2))/\0<D/\D.natAbs<2 ^ 2000 /\
 ∀p H',Same H H'->H' p=some (.tup [.int (lo (cF D (aCo s L)) D).1, .int (lo (cF D (aCo s L)) D).2])->Q (.ref p) H'
abbrev Cts:= List (List Nat×(Int×Int))
def aIP (W:Cts):List (List Int×Int×Int):=W.map λe=>(e.1.map Int.ofNat,e.2)
def aOE (i j:Nat)(W:Cts):Pr:=(W.filter λe=>prt e.1 i j).map (·.2)
theorem aKH {K: aa}{H: Hp}{ys: List V}{W: Cts}(h:xX K H ys (aIP W)){i: Nat}{x: V}(hx:ys[i]?=some x):∃e b q f,W[i]?=some e/\x = .ref b/\SqT K H b [.ref q, .ref f]/\SqT K H q (e.1.map aU)/\SqT K H f [.int e.2.1, .int e.2.2]:=by
 obtain⟨row,b,hr,rfl,q,f,h1,h2,h3⟩:=aLP (show RG (Pt K H) ys (aIP W) from h) hx
 unfold aIP at hr
 rw[aw] at hr
 cases he:W[i]? with
 |none=>rw[he] at hr;cases hr
 |some e=>
  rw[he] at hr
  obtain rfl:(e.1.map Int.ofNat,e.2)=row:=bo hr
  exact⟨e,b,q,f,rfl,rfl,h1,by rw[jB];exact h2,h3⟩
def frB (t b:Int):Bool:=decide (1<=b) && decide (gd t b=1)
theorem tV (h:Fr K H f t b):Sh K H (.tup [.int t, .int b]) (.ref f):=⟨f,_,rfl,h,ShL.ints [t,b]⟩
def shB (n:Nat)(i j t z:Int):Bool:=decide (0<=i) && (decide (i<j) && (decide (j<(n:Int)) && (frB t z && decide (0<t))))
def ctB (s:List Nat)(t z:Int):Bool:=frB t z && (decide (0<t) || (decide (s.length=1) && decide (t<0)))
def wrS (T:List (List Int))(L:Shs):Pr:=L.map λe=>lo (e.2.1*at2 T e.1.1 e.1.2) (e.2.2*1)
def pr2 (L:Shs):List (List Int):=L.map λe=>[(e.1.1:Int),(e.1.2:Int)]
def Unf (C1 C2 C3:Addr)(T:List (List Int))(n:Nat)(H:Hp)(E:XK)(ok:Prop):Prop:=
 ((eN T n).all id=false/\∀H',Same H H'->E (.ref C1) none H')\/(Sy T n/\((n<3/\∀H',Same H H'->E (.ref C2) none H')\/(6<n/\∀H',Same H H'->E (.ref C3) none H')\/(3<=n/\n<=6/\ok)))
theorem aIo:∀{P:Pr},(∀e∈P,(e.1*(D / e.2)).natAbs<=y)->(cF D P).natAbs<=P.length*y
 |[],_=>bg _
 |e :: P,h=>by
  have i1:=aIo (P:=P) λx hx=>h x (ay _ hx)
  have i2:=h e (cv ..)
  have i3:=Int.natAbs_add_le (e.1*(D / e.2)) (cF D P)
  show(e.1*(D / e.2)+cF D P).natAbs<=_
  rw[da,Az,Bz]
  lia
theorem aPv (k:Nat):100*2 ^ k<2 ^ (7+k):=by
 rw[BF]
 exact vz (by decide) (Nat.pow_pos (by decide))
theorem aCp (D0:0<D)(Db:D.natAbs<2 ^ b)(h:∀e∈P,0<e.2/\e.1.natAbs<2 ^ a)(hl:P.length<=100): (cF D P).natAbs<2 ^ (7+(a+b)):=
 bh (aIo λe he=>i7 (yC (h e he).2 (dD (h e he).1 D0 Db))) (bh (ur _ hl) (aPv (a+b)))
theorem aEP (D0:0<D)(Db:D.natAbs<2 ^ 2000)(h:OkD D P)(hl:P.length<=100): (cF D P).natAbs<2 ^ (7+(2000+2000)):=aCp D0 Db (λe he=>⟨(h e he).1,(h e he).2.2⟩) hl
theorem iA (h:0<j):0<(lo i j).2:=(fI (i:=i) h).2.2.1
theorem oA (h:0<j)(hi:i.natAbs<2 ^ k): (lo i j).1.natAbs<2 ^ k:=aKD h hi
theorem tU (h:0<j): (lo i j).2 ∣ j:=⟨gd i j,by have:=(fI (i:=i) h).2.1;rw[b8];exact this⟩
theorem aDp (h:0<j)(hj:j.natAbs<2 ^ k): (lo i j).2.natAbs<2 ^ k:=aZ (iA h) h (tU h) hj
theorem up8 {x: Int}{k: Nat}(h:x.natAbs<2 ^ k)(hk:k<=8000):x.natAbs<2 ^ 8000:=cg h (ff (by decide) hk)
theorem aBq {α β: Type}{L: List α}{i: Nat}{e: α}(f:α->β)(h:L[i]?=some e): (L.take (i+1)).map f=(L.take i).map f++[f e]:=by
 rw[e8,h,bj]
 rfl
def vM (T:List (List Int))(n:Nat)(h:Nat->Nat):Cts:=((ao (mN n)).filter (sH T n h)).map λi=>((stA n (h i)).1,lo ((stA n (h i)).2*RT T n h i (NN n)) (dT T n h))
theorem aKG:aGu T n h=aIP (vM T n h):=by
 unfold aGu aIP vM
 rw[dw]
 rfl
theorem aBe (p:W.Perm (aGu T n h)):∃W0:Cts,W0.Perm (vM T n h)/\W=aIP W0:=by
 rw[aKG] at p
 exact yH p (vM T n h) rfl
theorem aEg (n3:3<=n)(n6:n<=6)(b:Bs T n)(ok:OkT T n h): (vM T n h).length<=15/\∀e∈vM T n h,0<e.2.2/\e.2.2 ∣ dT T n h/\e.2.1.natAbs<2 ^ 900:=by
 refine⟨?_,λe he=>?_⟩
 ·unfold vM
  rw[ae]
  have:=oV (i:=mN n) (p:=sH T n h)
  have:=(qW n3 n6).2.1
  lia
 ·obtain⟨i,_,rfl⟩:=b6.mp he
  refine⟨iA ok.d0,tU ok.d0,?_⟩
  have sg:=aHL (j:=h i) n3 n6
  have:=yC (show(stA n (h i)).2.natAbs<2 ^ 1 by lia) (aFr n3 n6 b h i (NN n))
  exact cg (oA ok.d0 this) (ff (by decide) (by decide))
def inW (i:Nat)(W:Cts):Pr:=(W.filter λe=>e.1.contains i).map (·.2)
def eQ (T:List (List Int))(n:Nat)(h:Nat->Nat)(W:Cts):Pr:=(ao n).map λi=>lo (cF (dT T n h) (inW i W)) (dT T n h)
def aOQ (K:aa)(C1 C2 C3:Addr):Sp:=λvs H Q E=>∃(v:V) (T:List (List Int)) (n:Nat),vs=[v]/\Sh K H (uF T) v/\Quad T n/\1<=n/\n<=8/\Unf C1 C2 C3 T n H E (Bs T n /\
 ∀h p xs W H',Same H H'->OkT T n h->(∀j,j<NN n->0<=RT T n h (mN n) j)->W.Perm (vM T n h)->H' p=some (.tup xs)->Rows K H' xs (prI (eQ T n h W))->Q (.ref p) H')
def aFU (K:aa)(T:List (List Int))(n:Nat)(h:Nat->Nat)(cl:Addr)(H1:Hp)(W:Cts)(A:Addr)(i:Nat)(σ':St)(H':Hp):Prop:=i<=n/\Same H1 H'/\(∃x0,σ'=[x0,some (.ref cl)])/\∃us,H' A=some (.lst us)/\Rows K H' us (prI ((ao i).map λi=>K39.lo (cF (dT T n h) (inW i W)) (dT T n h)))
def aHj (K:aa)(zs:List V)(W:Cts)(i:Nat)(H2:Hp)(B:Addr)(j:Nat)(σ':St)(H':Hp):Prop:=j<=zs.length/\Same H2 H'/\(∃x0 x1,σ'=[x0,x1,some (.int (i:Int))])/\∃ws,H' B=some (.lst ws)/\Rows K H' ws (prI (inW i (W.take j)))
theorem aOp:∀vs H Q E,aOQ K C1 C2 C3 vs H Q E->iW K E (aFc K) (aJZ K C1 C2 C3) { nx:=λ_ H'=>Q .non H',rt:=Q } (aW ["table","worth","found","cuts"] vs) H:=by
 intro vs H Q E h
 obtain⟨v,T,n,rfl,hT,qT,n1,n8,q⟩:=h
 refine⟨_,rfl,v,T,n,rfl,hT,qT,n1,n8,?_⟩
 rcases q with q | ⟨sy,q | q | ⟨n3,n6,bT,q⟩⟩
 ·exact .inl q
 ·exact .inr ⟨sy, .inl q⟩
 ·exact .inr ⟨sy, .inr (.inl q)⟩
 refine .inr ⟨sy, .inr (.inr ⟨n3,n6,bT,λh p wp fl cl ys zs W H1 s1 ok all hp hwp _ hfl rfl' _ _ hcl pW0 sW rW=>?_⟩)⟩
 obtain⟨W,pW,rfl⟩:=aBe pW0
 obtain⟨c15,ck⟩:=aEg n3 n6 bT ok
 have wl:W.length<=15:=by rw[pW.length_eq];exact c15
 have ck:∀e∈W,0<e.2.2/\e.2.2 ∣ dT T n h/\e.2.1.natAbs<2 ^ 900:=λe he=>ck e (pW.mem_iff.mp he)
 have zl:zs.length=W.length:=by rw[rW.1];unfold aIP;rw[ae]
 have d0:=ok.d0
 have db:(dT T n h).natAbs<2 ^ 2000:=cg (lR n3 n6 bT h) (ff (by decide) (by decide))
 refine⟨p,_,rfl, .of hp,rfl,_,_,rfl,_,_,rfl,_,_,rfl,rfl,?_⟩
 obtain⟨ta,rs,rfl,ha,hrl,_⟩:=id hT.tab
 have hrl:rs.length=n:=hrl.trans qT.len
 refine⟨_,rfl,ta,rs,rfl, .inr (s1.tup ha),(rs.length:Int),rfl,by lia,by lia,λA hA=>?_⟩
 rw[dh,hrl]
 refine bH (lo:=0) (n:=n) (aFU K T n h cl H1 W A) ⟨bg _,aD hA _,⟨_,rfl⟩,[],aA,Rows.nil⟩ (λi σ2 H2 hi ⟨_,s2,⟨x0,es⟩,us,hA2,r2⟩=>?_) λσ2 H2 ⟨_,s2,_,us,hA2,r2⟩=>?_
 ·subst es
  rw[kd]
  refine⟨_,rfl,cl,rfl, .inl ⟨⟨_, .of (s2 _ _ hcl)⟩,λB hB=>?_⟩⟩
  refine aS (K:=K) (a:=cl) (xs:=zs) (aHj K zs W i H2 B) ⟨bg _,aD hB _,⟨_,_,rfl⟩,[],aA,Rows.nil⟩ (λj σ3 H3 _ ⟨_,s3,_⟩ => .of (s3 _ _ (s2 _ _ hcl))) (λj x σ3 H3 hx ⟨_,s3,⟨x0,x1,es⟩,ws,hB3,r3⟩=>?_) λσ3 H3 ⟨_,s3,_,ws,hB3,r3⟩=>?_
  ·subst es
   have hj:j<zs.length:=(ai.mp hx).1
   obtain⟨e,b,c,f,he,rfl,hb,hc,hf⟩:=aKH (K:=K) (H:=H3) (dF rW λb e=>Pt.same (s2.trans s3)) hx
   refine⟨b,_,rfl,hb,rfl,_,_,rfl,_,_,rfl,rfl,?_⟩
   refine⟨_,rfl,_,rfl,c,_,rfl, .inr hc,rfl,nV,_,rfl,?_⟩
   show if inV (.int (i:Int)) (e.1.map aU)=true then _ else _
   rw[tY]
   have e1:inW i (W.take (j+1))=inW i (W.take j)++if e.1.contains i=true then[e.2] else[]:=by
    unfold inW
    rw[e8,he,kl,bj]
    congr 1
    exact aOF (λe:List Nat×(Int×Int)=>e.1.contains i) (·.2) e
   refine zY (λcp=>?_) λcp=>?_
   ·rw[if_pos cp] at e1
    refine⟨_,rfl,ws,hB3,bh (show ws.length<=100 by rw[r3.1];unfold prI inW;rw[ae,ae];have:=f9 (λe:List Nat×(Int×Int)=>e.1.contains i) (W.take j);rw[c9] at this;lia) (by decide),hj,bB hB s3,⟨_,_,rfl⟩,_,aA,?_⟩
    rw[e1,uC]
    exact Rows.put (Rows.snoc r3 (b:=f) (r:=[e.2.1,e.2.2]) hf) hB3
   ·rw[if_neg cp,iq] at e1
    refine⟨hj,s3,⟨_,_,rfl⟩,ws,hB3,?_⟩
    rw[e1]
    exact r3
  ·rw[zl,fc] at r3
   refine⟨B,ws,inW i W,dT T n h,rfl,hB3,r3,λe he=>?_,?_,d0,db,λt H4 s4 ht=>?_⟩
   ·obtain⟨x,hx,rfl⟩:=b6.mp he
    obtain⟨c1,c2,c3⟩:=ck x (fg.mp hx).1
    exact⟨c1,c2,cg c3 (ff (by decide) (by decide))⟩
   ·unfold inW
    rw[ae]
    have:=f9 (λe:List Nat×(Int×Int)=>e.1.contains i) W
    lia
   ·have s24:=s3.trans s4
    have hA4:=s24 _ _ hA2
    refine⟨us,hA4,bh (show us.length<=100 by rw[r2.1];unfold prI;rw[ae,ae,br];lia) (by decide),hi,bB hA (s2.trans s24),⟨_,rfl⟩,_,aA,?_⟩
    rw[ot,bj,uC]
    exact Rows.put (Rows.snoc (r2.same s24) (b:=t) (r:=[_,_]) (.of ht)) hA4
 ·refine⟨A,us,rfl, .inl ⟨.of hA2,λt ht=>?_⟩⟩
  have mt:=aD ht (.tup us)
  exact q h t us W _ ((s1.trans s2).trans mt) ok all pW aA (r2.same mt)
theorem aBP (h:0<j): (lo i j).1*gd i j=i/\(lo i j).2*gd i j=j:=by
 obtain⟨e1,e2,_,_⟩:=fI (i:=i) h
 refine⟨?_,?_⟩
 ·rw[b8];exact e1.symm
 ·rw[b8];exact e2.symm
theorem aAk (hz:0<z)(hD:0<D)(hd:z ∣ D): (lo x z).1*(D / (lo x z).2)=x*(D / z):=by
 obtain⟨w,rfl⟩:=hd
 obtain⟨e1,e2⟩:=aBP (i:=x) hz
 have p:=iA (i:=x) hz
 rw[j3 _ (show z≠0 by lia)]
 have:z*w / (lo x z).2=gd x z*w:=by
  have:z*w=(lo x z).2*(gd x z*w):=by rw[<- cm,e2]
  rw[this]
  exact j3 _ (by lia)
 rw[this,<- cm,e1]
theorem qN (hD:0<D): (lo x D).1*(D / (lo x D).2)=x:=by
 rw[aAk hD hD (Int.dvd_refl D),Int.ediv_self (by lia),jc]
theorem aBx:cF D (P++P')=cF D P+cF D P':=by
 unfold cF
 rw[bj,qb]
theorem aDL {l l': List Int}(h:l.Perm l'):l.sum=l'.sum:=by
 induction h with
 |nil=>rfl
 |cons x _ ih=>rw[dz,dz,ih]
 |swap x y l=>rw[dz,dz,dz,dz];lia
 |trans _ _ a b=>exact a.trans b
theorem aDn (h:P.Perm P'):cF D P=cF D P':=by
 unfold cF
 exact aDL (h.map λe:Int×Int=>e.1*(D / e.2))
theorem gT {D: Int}(hD:0<D){q: Nat->Bool}{v: Nat->Int}{g: Nat->Int×Int}(hg:∀p,q p=true->(g p).1*(D / (g p).2)=v p):∀m:Nat,cF D (((ao m).filter q).map g)=Sh.sumN m λp=>if q p=true then v p else 0
 |0=>rfl
 |m+1=>by
  rw[fN,bj,aBx,gT hD hg m]
  show _=Sh.sumN m _+if q m=true then v m else 0
  congr 1
  by_cases c:q m=true
  ·rw[if_pos c,if_pos c]
   show cF D [g m]=_
   unfold cF
   rw[cf,og,dz,Bv,ub,hg m c]
  ·rw[if_neg c,if_neg c]
   rfl
def nI (T:List (List Int))(n:Nat)(h:Nat->Nat):Shs:=((ao (mN n)).filter (zG T n h)).map λp=>(prA n p,lo (RT T n h (mN n) (kN n+p)) (dT T n h))
theorem aKy:aOe T n h=mO (nI T n h):=by
 unfold aOe mO nI
 rw[dw]
 rfl
abbrev lam (T:List (List Int))(n:Nat)(h:Nat->Nat)(p:Nat):Int:=RT T n h (mN n) (kN n+p)
def Top (T:List (List Int))(n:Nat)(h:Nat->Nat):Prop:=∀j,j<NN n->0<=RT T n h (mN n) j
theorem Top.lam (t:Top T n h)(hp:p<mN n):0<=lam T n h p:=t _ (by show kN n+p<kN n+mN n;lia)
def zJ (T:List (List Int))(n:Nat)(h:Nat->Nat)(s:List Nat):Int:=Sh.sumN (mN n) λp=>if prt s (prA n p).1 (prA n p).2=true then lam T n h p else 0
theorem aFX (t:Top T n h)(d0:0<dT T n h)(s:List Nat):cF (dT T n h) (aCo s (nI T n h))=zJ T n h s:=by
 have e:aCo s (nI T n h)=((ao (mN n)).filter λp=>prt s (prA n p).1 (prA n p).2 && zG T n h p).map λp=>lo (lam T n h p) (dT T n h):=by
  unfold aCo nI
  rw[List.filter_map,dw,List.filter_filter]
  rfl
 rw[e,gT d0 (v:=lam T n h) (λp _=>qN d0)]
 unfold zJ
 refine Sh.sumN_congr λp hp=>?_
 have:=t.lam hp
 by_cases c:zG T n h p=true
 ·rw[c,AU]
 ·have z:lam T n h p=0:=by
   unfold zG at c
   have:¬ 0<lam T n h p:=of_decide_eq_false (gx _ |>.mp c)
   lia
  rw[gx _ |>.mp c,Bool.and_false,if_neg (by decide),z]
  split <;> rfl
def vU (n:Nat)(s:List Nat):List Bool:=(ao (mN n)).map λp=>prt s (prA n p).1 (prA n p).2
theorem yD (e:vU n s=vU n s'):zJ T n h s=zJ T n h s':=by
 unfold zJ
 refine Sh.sumN_congr λp hp=>?_
 have:(vU n s)[p]?=(vU n s')[p]?:=by rw[e]
 unfold vU at this
 rw[aw,aw,jx hp] at this
 have:prt s (prA n p).1 (prA n p).2=prt s' (prA n p).1 (prA n p).2:=bo this
 rw[this]
def aPn (n:Nat):Bool:=(cW n).all λs=>((ao (kN n)).any λj=>decide ((stA n j).2=1) && decide (vU n (stA n j).1=vU n s)) && (!decide (s.length=1) || (ao (kN n)).any λj=>decide ((stA n j).2 = -1) && decide (vU n (stA n j).1=vU n s))
theorem aOa:∀n,3<=n->n<=6->aPn n=true:=n36 (by decide+kernel) (by decide+kernel) (by decide+kernel) (by decide+kernel)
theorem aBn (hj:j<kN n):RT T n h (mN n) j=(stA n j).2*(zJ T n h (stA n j).1 - 2*dT T n h):=by
 have e:RT T n h (mN n) j=(Sh.sumN (mN n) λp=>coT n j p*RT T n h (mN n) (kN n+p))+obT n j*dT T n h:=Sh.last_step hj
 rw[e]
 have e2:(Sh.sumN (mN n) λp=>coT n j p*RT T n h (mN n) (kN n+p))=(stA n j).2*zJ T n h (stA n j).1:=by
  unfold zJ
  rw[<- Sh.sumN_mul]
  refine Sh.sumN_congr λp hp=>?_
  unfold coT
  split
  ·rfl
  ·rw[rg,fj]
 rw[e2,j5]
 unfold obT
 rw[show(stA n j).2*(2*dT T n h)=2*(stA n j).2*dT T n h by rw[<- cm,b8 (stA n j).2 2],show -2*(stA n j).2*dT T n h = -(2*(stA n j).2*dT T n h) by rw[cm,cm,jw]]
 lia
theorem aDD (n3:3<=n)(n6:n<=6)(t:Top T n h)(hs:s∈cW n):2*dT T n h<=zJ T n h s/\(s.length=1->zJ T n h s=2*dT T n h):=by
 have b:=e9.mp (aOa n n3 n6) s hs
 rw[dn,o9] at b
 obtain⟨b1,b2⟩:=b
 obtain⟨j,hj,hb⟩:=qr.mp b1
 rw[dn] at hb
 have hj:=az.mp hj
 have ge:2*dT T n h<=zJ T n h s:=by
  have z:=t j (by show j<kN n+mN n;lia)
  rw[aBn hj,of_decide_eq_true hb.1,nj,yD (of_decide_eq_true hb.2)] at z
  lia
 refine⟨ge,λl1=>?_⟩
 rcases b2 with b2 | b2
 ·rw[decide_eq_true l1] at b2;cases b2
 ·obtain⟨j',hj',hb'⟩:=qr.mp b2
  rw[dn] at hb'
  have hj':=az.mp hj'
  have z:=t j' (by show j'<kN n+mN n;lia)
  rw[aBn hj',of_decide_eq_true hb'.1,yD (of_decide_eq_true hb'.2),jw,nj] at z
  lia
theorem aMg (hD:0<D):lo (2*D) D=(2,1):=by
 rw[aBY (c:=2) (d:=1) hD (by decide) (by rw[jc])]
 decide+kernel
theorem aOo (hD:0<D):c*(lo S D).2<=(lo S D).1↔c*D<=S:=by
 obtain⟨e1,e2⟩:=aBP (i:=S) hD
 have g0:=fH (i:=S) hD
 constructor
 ·intro z
  have:=gk z (jf g0)
  rw[cm,e1,e2] at this
  exact this
 ·intro z
  rw[<- e2,<- cm] at z
  refine Int.le_of_mul_le_mul_right (a:=gd S D) ?_ g0
  rw[e1]
  exact z
theorem aKX (h:0<j):gd (lo i j).1 (lo i j).2=1:=by
 have:=(fI (i:=i) h).2.2.2
 unfold gd
 show(((lo i j).1.gcd (lo i j).2:Nat):Int)=1
 unfold lo
 rw[this]
 rfl
theorem aDM (h:0<j):frB (lo i j).1 (lo i j).2=true:=by
 unfold frB
 rw[decide_eq_true (show 1<=(lo i j).2 from iA h),decide_eq_true (aKX h)]
 rfl
theorem aIu (h:0<j): (0<i->0<(lo i j).1)/\(i<0->(lo i j).1<0):=by
 obtain⟨e1,_⟩:=aBP (i:=i) h
 have g0:=fH (i:=i) h
 refine⟨λz=>?_,λz=>?_⟩
 ·apply b9
  intro c
  have:=Int.mul_nonpos_of_nonpos_of_nonneg (show(lo i j).1<=0 by lia) (jf g0)
  lia
 ·apply b9
  intro c
  have:=i6 (show 0<=(lo i j).1 by lia) (jf g0)
  lia
theorem aDv (he:e∈nI T n h):∃p,p<mN n/\0<lam T n h p/\e=(prA n p,lo (lam T n h p) (dT T n h)):=by
 obtain⟨p,hp,rfl⟩:=b6.mp he
 obtain⟨h1,h2⟩:=fg.mp hp
 exact⟨p,az.mp h1,of_decide_eq_true h2,rfl⟩
theorem aMo (n3:3<=n)(n6:n<=6)(d0:0<dT T n h):∀e∈nI T n h,shB n e.1.1 e.1.2 e.2.1 e.2.2=true/\e.1.1<e.1.2/\e.1.2<n/\0<e.2.1:=λe he=>by
 obtain⟨p,hp,lp,rfl⟩:=aDv he
 obtain⟨g1,g2⟩:=aJt n3 n6 hp
 have t0:=(aIu (i:=lam T n h p) d0).1 lp
 refine⟨?_,g1,g2,t0⟩
 unfold shB
 show(decide ((0:Int)<=((prA n p).1:Int)) && (decide (((prA n p).1:Int)<((prA n p).2:Int)) && (decide (((prA n p).2:Int)<(n:Int)) && (frB (lo (lam T n h p) (dT T n h)).1 (lo (lam T n h p) (dT T n h)).2 && decide (0<(lo (lam T n h p) (dT T n h)).1)))))=true
 rw[decide_eq_true (show(0:Int)<=((prA n p).1:Int) by lia),decide_eq_true (show((prA n p).1:Int)<((prA n p).2:Int) by lia),decide_eq_true (show((prA n p).2:Int)<(n:Int) by lia),aDM d0,decide_eq_true t0]
 rfl
theorem aNM (n3:3<=n)(n6:n<=6)(b:Bs T n)(d0:0<dT T n h):∀e∈nI T n h,0<e.2.2/\e.2.2 ∣ dT T n h/\e.2.1.natAbs<2 ^ 400:=λe he=>by
 obtain⟨p,hp,lp,rfl⟩:=aDv he
 exact⟨iA d0,tU d0,oA d0 (aFr n3 n6 b h _ _)⟩
theorem aJS (n3:3<=n)(n6:n<=6): (nI T n h).length<=15:=by
 unfold nI
 rw[ae]
 have:=oV (i:=mN n) (p:=zG T n h)
 have:=(qW n3 n6).2.1
 lia
theorem aMt (n3:3<=n)(n6:n<=6)(t:Top T n h)(d0:0<dT T n h):cF (dT T n h) (wrS T (nI T n h))=RT T n h (mN n) (NN n):=by
 have e:wrS T (nI T n h)=((ao (mN n)).filter (zG T n h)).map λp=>lo ((lo (lam T n h p) (dT T n h)).1*at2 T (prA n p).1 (prA n p).2) ((lo (lam T n h p) (dT T n h)).2*1):=by
  unfold wrS nI
  rw[dw]
  rfl
 rw[e,gT d0 (v:=λp=>lam T n h p*at2 T (prA n p).1 (prA n p).2) λp _=>by
  rw[jc,aAk (iA d0) d0 (tU d0),cm,b8 (at2 T _ _),<- cm,qN d0]]
 have e2:RT T n h (mN n) (NN n)=Sh.sumN (mN n) λp=>wyT T n p*RT T n h (mN n) (kN n+p):=Sh.last_worth
 rw[e2]
 refine Sh.sumN_congr λp hp=>?_
 unfold wyT
 rw[if_pos hp]
 have:=t.lam hp
 by_cases c:zG T n h p=true
 ·rw[if_pos c,b8]
 ·have z:lam T n h p=0:=by
   unfold zG at c
   have:¬ 0<lam T n h p:=of_decide_eq_false (gx _ |>.mp c)
   lia
  rw[if_neg c]
  show 0=_*lam T n h p
  rw[z,fj]
def prB (n:Nat):Bool:=(ao (mN n)).all λq=>(ao q).all λp=>HT.lexLt [((prA n p).1:Int),((prA n p).2:Int)] [((prA n q).1:Int),((prA n q).2:Int)]
theorem aPo:∀n,3<=n->n<=6->prB n=true:=n36 (by decide+kernel) (by decide+kernel) (by decide+kernel) (by decide+kernel)
theorem aKd (n3:3<=n)(n6:n<=6): (pr2 (nI T n h)).Pairwise λa b=>HT.lexLt a b=true:=by
 unfold pr2 nI
 rw[dw]
 refine mw.mpr ((sr.filter (zG T n h)).imp_of_mem λ{a b} ha hb lt=>?_)
 have hb:=az.mp (fg.mp hb).1
 exact e9.mp (e9.mp (aPo n n3 n6) b (az.mpr hb)) a (az.mpr lt)
theorem aLy:∀n,3<=n->n<=6->((ao n).all λi=>decide ([i]∈cW n))=true:=n36 (by decide+kernel) (by decide+kernel) (by decide+kernel) (by decide+kernel)
theorem aAW {T: List (List Int)}{n: Nat}{h: Nat->Nat}(ok:OkT T n h){q: Nat->Bool}{W: Cts}(pW:W.Perm (vM T n h))(f:List Nat×(Int×Int)->Bool)(hf:∀i,f ((stA n (h i)).1,lo ((stA n (h i)).2*RT T n h i (NN n)) (dT T n h))=q i):cF (dT T n h) ((W.filter f).map (·.2))=Sh.sumN (mN n) λi=>if h i<kN n/\q i=true then(stA n (h i)).2*RT T n h i (NN n) else 0:=by
 have d0:0<dT T n h:=ok.d0
 rw[aDn ((pW.filter f).map (·.2))]
 have e:((vM T n h).filter f).map (·.2)=((ao (mN n)).filter λi=>q i && sH T n h i).map λi=>lo ((stA n (h i)).2*RT T n h i (NN n)) (dT T n h):=by
  unfold vM
  rw[List.filter_map,dw,List.filter_filter]
  have:(λa=>(f∘λi=>((stA n (h i)).1,lo ((stA n (h i)).2*RT T n h i (NN n)) (dT T n h))) a && sH T n h a)=λi=>q i && sH T n h i:=by
   funext i
   show(f ((stA n (h i)).1,_) && sH T n h i)=_
   rw[hf i]
  rw[this]
  rfl
 rw[e,gT d0 (v:=λi=>(stA n (h i)).2*RT T n h i (NN n)) λp _=>qN d0]
 refine Sh.sumN_congr λi hi=>?_
 unfold sH
 by_cases c1:h i<kN n
 ·by_cases c2:q i=true
  ·have a:h i<kN n/\q i=true:=⟨c1,c2⟩
   rw[if_pos a,c2,decide_eq_true c1]
   by_cases c3:RT T n h i (NN n)=0
   ·rw[decide_eq_true c3,c3,fj]
    rfl
   ·rw[decide_eq_false c3]
    rfl
  ·have a:¬ (h i<kN n/\q i=true):=λz=>c2 z.2
   rw[if_neg a,gx _ |>.mp c2,wx]
   rfl
 ·have a:¬ (h i<kN n/\q i=true):=λz=>c1 z.1
  rw[if_neg a,decide_eq_false c1,wx,Bool.and_false]
  rfl
theorem aKS (n3:3<=n)(n6:n<=6)(ok:OkT T n h)(pW:W.Perm (vM T n h))(hp:p<mN n):cF (dT T n h) (aOE (prA n p).1 (prA n p).2 W)<=at2 T (prA n p).1 (prA n p).2*dT T n h:=by
 unfold aOE
 rw[aAW ok pW (q:=λi=>prt (stA n (h i)).1 (prA n p).1 (prA n p).2) _ λi=>rfl]
 have e:dT T n h*wyT T n p=Sh.sumN (mN n) λi=>RT T n h i (kN n+mN n)*AT T n (h i) p:=Sh.held_way ok hp
 unfold wyT at e
 rw[if_pos hp] at e
 rw[b8,e]
 refine Sh.sumN_le λi hi=>?_
 have b0:0<=RT T n h i (NN n):=ok.b0 i hi
 by_cases c1:h i<kN n
 ·show _<=_*Sh.A0 _ _ _ _ _ (h i) p
  rw[Sh.A0_step c1 hp]
  unfold coT
  by_cases c2:prt (stA n (h i)).1 (prA n p).1 (prA n p).2=true
  ·have a:h i<kN n/\prt (stA n (h i)).1 (prA n p).1 (prA n p).2=true:=⟨c1,c2⟩
   rw[if_pos a,if_pos c2,b8]
   exact ij _
  ·have a:¬ (h i<kN n/\prt (stA n (h i)).1 (prA n p).1 (prA n p).2=true):=λz=>c2 z.2
   rw[if_neg a,if_neg c2,fj]
   exact ij _
 ·have a:¬ (h i<kN n/\prt (stA n (h i)).1 (prA n p).1 (prA n p).2=true):=λz=>c1 z.1
  rw[if_neg a]
  have hN:=ok.hN i hi
  obtain⟨r,er⟩:∃r,h i=kN n+r:=⟨h i - kN n,by lia⟩
  show 0<=_*Sh.A0 _ _ _ _ _ (h i) p
  rw[er,Sh.A0_slack (by have:h i<kN n+mN n:=hN;lia)]
  refine i6 b0 ?_
  show 0<=if p=r then(1:Int) else 0
  split <;> decide
theorem aIE {T: List (List Int)}{n: Nat}{h: Nat->Nat}(ok:OkT T n h){W: Cts}(pW:W.Perm (vM T n h)):2*cF (dT T n h) (W.map (·.2))=RT T n h (mN n) (NN n):=by
 have e0:W.map (·.2)=(W.filter λ_=>true).map (·.2):=by rw[qx.mpr λ_ _=>rfl]
 rw[e0,aAW ok pW (q:=λ_=>true) _ λi=>rfl]
 have e:RT T n h (mN n) (kN n+mN n)+(Sh.sumN (mN n) λi=>RT T n h i (kN n+mN n)*AT T n (h i) (mN n))=0:=Sh.held_worth ok
 have e2:(Sh.sumN (mN n) λi=>RT T n h i (kN n+mN n)*AT T n (h i) (mN n)) = -2*Sh.sumN (mN n) λi=>if h i<kN n/\true=true then(stA n (h i)).2*RT T n h i (NN n) else 0:=by
  rw[<- Sh.sumN_mul]
  refine Sh.sumN_congr λi hi=>?_
  by_cases c1:h i<kN n
  ·show _*Sh.A0 _ _ _ _ _ (h i) (mN n)=_
   have a:h i<kN n/\true=true:=⟨c1,rfl⟩
   rw[if_pos a,Sh.A0_ob c1]
   unfold obT
   rw[b8,cm]
  ·have a:¬ (h i<kN n/\true=true):=λz=>c1 z.1
   rw[if_neg a,fj]
   have hN:=ok.hN i hi
   obtain⟨r,er⟩:∃r,h i=kN n+r:=⟨h i - kN n,by lia⟩
   show _*Sh.A0 _ _ _ _ _ (h i) (mN n)=_
   rw[er,Sh.A0_slack (by have:h i<kN n+mN n:=hN;lia),show Sh.unit r (mN n)=0 from if_neg (by have:h i<kN n+mN n:=hN;lia),fj]
 rw[e2] at e
 show _=RT T n h (mN n) (kN n+mN n)
 lia
def aPr (n:Nat):Bool:=(ao (kN n)).all λj=>decide ((stA n j).1∈cW n) && (decide ((stA n j).2=1) || (decide ((stA n j).2 = -1) && decide ((stA n j).1.length=1)))
theorem aNs:∀n,3<=n->n<=6->aPr n=true:=n36 (by decide+kernel) (by decide+kernel) (by decide+kernel) (by decide+kernel)
theorem aJD (n3:3<=n)(n6:n<=6)(ok:OkT T n h):∀e∈vM T n h,e.1∈cW n/\ctB e.1 e.2.1 e.2.2=true/\e.2.1≠0/\(1<e.1.length->0<e.2.1):=λe he=>by
 have d0:0<dT T n h:=ok.d0
 obtain⟨i,hi,rfl⟩:=b6.mp he
 obtain⟨h1,h2⟩:=fg.mp hi
 have hi:=az.mp h1
 unfold sH at h2
 rw[dn] at h2
 have ck:=of_decide_eq_true h2.1
 have c0:RT T n h i (NN n)≠0:=of_decide_eq_false (by simpa using h2.2)
 have b0:0<=RT T n h i (NN n):=ok.b0 i hi
 have nb:=e9.mp (aNs n n3 n6) (h i) (az.mpr ck)
 rw[dn,o9,dn] at nb
 obtain⟨nb1,nb2⟩:=nb
 refine⟨of_decide_eq_true nb1,?_⟩
 unfold ctB
 show(frB (lo ((stA n (h i)).2*RT T n h i (NN n)) (dT T n h)).1 (lo ((stA n (h i)).2*RT T n h i (NN n)) (dT T n h)).2 && _)=true/\_
 rw[aDM d0,A6]
 have sg:=aIu (i:=(stA n (h i)).2*RT T n h i (NN n)) d0
 rcases nb2 with nb2 | ⟨nb2,nb3⟩
 ·have:0<(lo ((stA n (h i)).2*RT T n h i (NN n)) (dT T n h)).1:=sg.1 (by rw[of_decide_eq_true nb2,nj];lia)
  exact⟨by rw[decide_eq_true this];rfl,by show(lo _ _).1≠0;lia,λ_=>this⟩
 ·have:(lo ((stA n (h i)).2*RT T n h i (NN n)) (dT T n h)).1<0:=sg.2 (by rw[of_decide_eq_true nb2,jw,nj];lia)
  have l1:=of_decide_eq_true nb3
  exact⟨by rw[decide_eq_true this,decide_eq_true l1];simp,by show(lo _ _).1≠0;lia,λz=>by have z:1<(stA n (h i)).1.length:=z;lia⟩
theorem aCT:∀{a b:List Int},lexL a b=HT.lexLt a b
 |[],[]=>rfl
 |[],_ :: _=>rfl
 |_ :: _,[]=>rfl
 |x :: xs,y :: ys=>by
  rw[lexL,HT.lexLt_cons,aCT (a:=xs) (b:=ys)]
theorem aEO:∀{a b:List Int},a≠b->HT.lexLt b a=false->HT.lexLt a b=true
 |[],[],h,_=>absurd rfl h
 |[],_ :: _,_,_=>rfl
 |_ :: _,[],_,h=>by rw[HT.lexLt_nil_cons] at h;cases h
 |x :: xs,y :: ys,h,g=>by
  rw[HT.lexLt_cons] at g ⊢
  by_cases c:x=y
  ·subst c
   rw[if_pos rfl] at g ⊢
   exact aEO (λz=>h (by rw[z])) g
  ·rw[if_neg (gy c)] at g
   rw[if_neg c]
   have:=of_decide_eq_false g
   exact decide_eq_true (by lia)
theorem uR:∀{a b:List Int},HT.lexLt a b=true->HT.lexLt b a=false
 |[],[],h=>by cases h
 |[],_ :: _,_=>rfl
 |_ :: _,[],h=>by rw[HT.lexLt_cons_nil] at h;cases h
 |x :: xs,y :: ys,h=>by
  rw[HT.lexLt_cons] at h ⊢
  by_cases c:x=y
  ·subst c
   rw[if_pos rfl] at h ⊢
   exact uR h
  ·rw[if_neg c] at h
   rw[if_neg (gy c)]
   have:=of_decide_eq_true h
   exact decide_eq_false (by lia)
theorem aJY (a:List Int):HT.lexLt a a=false:=by
 cases h:HT.lexLt a a with
 |false=>rfl
 |true=>rw[uR h] at h;cases h
theorem aGA {R R': List (List Int)}(h:R.Pairwise λa b=>HT.lexLt a b=true)(h1:R'.Pairwise λa b=>lexL b a=false)(nd:R'.Nodup)(m:∀r,r∈R'↔r∈R):R'=R:=by
 have h2:R'.Pairwise λa b=>HT.lexLt a b=true:=(List.pairwise_and_iff.mpr ⟨h1,nd⟩).imp λ⟨z1,z2⟩=>aEO z2 (by rw[<- aCT];exact z1)
 have nd2:R.Nodup:=h.imp λ{a b} z e=>by subst e;rw[aJY] at z;cases z
 have pm:R'.Perm R:=(j8 nd nd2).mpr m
 refine List.Perm.eq_of_pairwise (le:=λa b=>HT.lexLt a b=true) (λa b _ _ x y=>?_) h2 h pm
 rw[uR x] at y
 cases y
theorem oK:∀(n:Nat),∀s∈bG n,s.Pairwise (· < ·)
 |0,s,h=>by
  obtain rfl:s=[]:=by simpa[bG] using h
  exact .nil
 |n+1,s,h=>by
  rcases di.mp (show s∈bG n++(bG n).map (· ++ [n]) from h) with h | h
  ·exact oK n s h
  ·obtain⟨t,ht,rfl⟩:=b6.mp h
   refine Ao.mpr ⟨oK n t ht,List.pairwise_singleton _ _,λa ha b hb=>?_⟩
   obtain rfl:b=n:=cq.mp hb
   exact(cP b t ht).2 a ha
theorem aDj (h:s∈cW n):s.Pairwise (· < ·):=oK n s (qh (uu h))
def sX (n:Nat)(s:List Nat):Bool:=decide (0<s.length) && decide (s.length<n)
theorem aJf:∀n,3<=n->n<=6->decide ((bG n).filter (sX n)=cW n)=true:=n36 (by decide+kernel) (by decide+kernel) (by decide+kernel) (by decide+kernel)
theorem aFJ (n3:3<=n)(n6:n<=6)(h:s∈cW n):0<s.length/\s.length<n:=by
 rw[<- of_decide_eq_true (aJf n n3 n6)] at h
 have:=(fg.mp h).2
 unfold sX at this
 rw[dn] at this
 exact⟨of_decide_eq_true this.1,of_decide_eq_true this.2⟩
theorem aNc:∀n,3<=n->n<=6->((ao n).all λj=>(ao j).all λi=>decide ([(i:Int),(j:Int)]∈K28))=true:=n36 (by decide+kernel) (by decide+kernel) (by decide+kernel) (by decide+kernel)
def aGC (H:Hp)(a:Addr)(xs:List V)(P:Pr)(D:Int)(i:Nat)(σ':St)(H':Hp):Prop:=i<=xs.length/\Same H H'/\∃(x3:Option V),σ'=[some (.ref a),some (.int (lo (cF D (P.take i)) D).1),some (.int (lo (cF D (P.take i)) D).2),x3]
theorem aOf:∀vs H Q E,aFc K vs H Q E->lK K (uB K) { nx:=λ_ H'=>Q .non H',rt:=Q } (aW ["some","top","bottom","one"] vs) H:=by
 intro vs H Q E h
 obtain⟨a,xs,P,D,rfl,ha,hr,okp,h8,D0,Db,q⟩:=h
 have hl:xs.length=P.length:=by rw[hr.1];unfold prI;rw[ae]
 refine⟨show 2<=bx by decide,λu hu=>⟨u,_,rfl, .of aA,rfl,_,_,rfl,_,_,rfl,rfl,?_⟩⟩
 have mu:=aD hu (.tup [V.int 0, .int 1])
 generalize upd H u (.tup [V.int 0, .int 1])=G at *
 refine⟨_,rfl,a,rfl, .inl ⟨⟨_, .of (mu _ _ ha)⟩,?_⟩⟩
 refine aS (K:=K) (a:=a) (xs:=xs) (aGC H a xs P D) ⟨bg _,mu,none,?_⟩ (λi σ1 H1 _ ⟨_,s1,_⟩ => .of (s1 _ _ ha)) (λi x σ1 H1 hx ⟨_,s1,x3,es⟩=>?_) λσ1 H1 ⟨_,s1,x3,es⟩=>?_
 ·have:lo (cF D (P.take 0)) D=(0,1):=by
   show lo 0 D=(0,1)
   rw[aBY (c:=0) (d:=1) D0 (by decide) (by rw[rg,rg])]
   decide+kernel
  rw[this]
  rfl
 ·subst es
  have hi:i<xs.length:=(ai.mp hx).1
  obtain⟨e,b,he,rfl,hb⟩:=hU (hr.same s1) hx
  obtain⟨b0,bd,tb⟩:=okp e (ar he)
  have okt:OkD D (P.take i):=aEv okp λx hx=>uu hx
  have sb:=aEP D0 Db okt (by rw[c9];lia)
  have p0:=iA (i:=cF D (P.take i)) D0
  have b2:=aDp (i:=cF D (P.take i)) D0 Db
  have e2:=aZ b0 D0 bd Db
  refine⟨_,rfl,_,rfl,ixT (j:=1) hb rfl ⟨.inr ⟨up8 (oA D0 sb) (by decide),up8 e2 (by decide)⟩,_,rfl,ixT (j:=0) hb rfl ⟨_,rfl, .inr ⟨up8 tb (by decide),up8 b2 (by decide)⟩,_,rfl,_,rfl,ixT (j:=1) hb rfl ⟨.inr ⟨up8 b2 (by decide),up8 e2 (by decide)⟩,_,_,rfl,qa p0 b0,up8 (yC b2 e2) (by decide),λp H2 s2 hp=>?_⟩⟩⟩⟩
  refine⟨p,_,rfl, .of hp,rfl,_,_,rfl,_,_,rfl,rfl,hi,s1.trans s2,some (.ref b),?_⟩
  have el:K39.lo ((lo (cF D (P.take i)) D).1*e.2+e.1*(lo (cF D (P.take i)) D).2) ((lo (cF D (P.take i)) D).2*e.2)=K39.lo (cF D (P.take (i+1))) D:=by
   refine aBY (qa p0 b0) D0 ?_
   obtain⟨g1,g2⟩:=aBP (i:=cF D (P.take i)) D0
   have es:cF D (P.take (i+1))=cF D (P.take i)+e.1*(D / e.2):=by
    rw[e8,he,aBx]
    congr 1
    show cF D [e]=_
    unfold cF
    rw[cf,og,dz,Bv,ub]
   rw[es]
   obtain⟨w,rfl⟩:=bd
   rw[j3 _ (show e.2≠0 by lia)]
   have key:∀t b g S x y w:Int,t*g=S->b*g=x*w->(t*x+y*b)*(x*w)=(S+y*w)*(b*x):=λt b g S x y w h1 h2=>by
    rw[<- h1,pw,pw]
    have z1:t*x*(x*w)=t*g*(b*x):=by rw[<- h2];simp only[cm,dm,b8]
    have z2:y*b*(x*w)=y*w*(b*x):=by simp only[cm,dm,b8]
    rw[z1,z2]
   exact key _ _ _ _ _ _ _ g1 g2
  exact congrArg (λz:Int×Int=>[some (V.ref a),some (V.int z.1),some (V.int z.2),some (V.ref b)]) el
 ·subst es
  rw[hl,fc]
  refine⟨_,rfl,_,rfl,show 2<=bx by decide,λp hp=>q p _ (s1.trans (aD hp _)) aA⟩
def aNR (K:aa):Sp:=λvs H Q _=>∃(f:Addr) (t b:Int),vs=[.ref f]/\Fr K H f t b/\frB t b=true/\b.natAbs<2 ^ 8000/\∀H',Same H H'->Q (.bl true) H'
theorem aNX:∀vs H Q E,aNR K vs H Q E->dI K (uB K) (L.spW K) { nx:=λ_ H'=>Q .non H',rt:=Q } (aW ["thing"] vs) H:=by
 intro vs H Q E h
 obtain⟨f,t,b,rfl,hf,fb,bb,q⟩:=h
 unfold frB at fb
 rw[dn] at fb
 have b1:1<=b:=of_decide_eq_true fb.1
 have g1:gd t b=1:=of_decide_eq_true fb.2
 refine⟨_,rfl, .ref f,_,"tuple",rfl,by decide,tV hf,_,rfl,aV rfl ⟨_,rfl,f,_,rfl, .inr hf, .int 2, .int 2,bg _,rfl,rfl,_,rfl,aV rfl ?_⟩⟩
 refine⟨_,rfl,ixT (j:=0) hf rfl ⟨.int t, .int t,rfl,rfl,λH1 s1=>⟨_,rfl,aV rfl ?_⟩⟩⟩
 refine⟨_,rfl,ixT (j:=1) (s1.tup hf) rfl ⟨.int b, .int b,rfl,rfl,λH2 s2=>⟨_,rfl,aV rfl ?_⟩⟩⟩
 have s12:=s1.trans s2
 have hf2:Fr K H2 f t b:=s12.tup hf
 refine⟨_,rfl,ixT (j:=1) hf2 rfl ⟨_,_,rfl,rfl,_,rfl,aV (decide_eq_false (by lia)) ?_⟩⟩
 refine⟨_,rfl,ixT (j:=0) hf2 rfl ⟨_,rfl,ixT (j:=1) hf2 rfl ⟨t,b,rfl,by lia,bb,λp H3 s3 hp=>?_⟩⟩⟩
 refine⟨_,rfl, .tup ([t,b].map Dt.int), .tup ([t,b].map Dt.int),nE _,⟨p,_,rfl, .of (by rw[hp,g1,Bl,Bl];rfl),ShL.ints [t,b]⟩,⟨f,_,rfl,s3.tup hf2,ShL.ints [t,b]⟩,?_⟩
 rw[jE]
 exact q H3 (s12.trans s3)
def aLJ (K:aa):Sp:=λvs H Q _=>∃(n:Nat) (b:Addr) (i j:Nat),vs=[.int (n:Int), .ref b]/\SqT K H b [aU i,aU j]/\i<j/\j<n/\∀H',Same H H'->Q (.bl true) H'
theorem aJP:∀vs H Q E,aLJ K vs H Q E->hJ K (L.spW K) { nx:=λ_ H'=>Q .non H',rt:=Q } (aW ["many","thing"] vs) H:=by
 intro vs H Q E h
 obtain⟨n,b,i,j,rfl,hb,hij,hjn,q⟩:=h
 refine⟨_,rfl, .ref b, .tup ([(i:Int),(j:Int)].map Dt.int),"tuple",rfl,by decide,⟨b,_,rfl,hb,ShL.ints [(i:Int),(j:Int)]⟩,_,rfl,aV rfl ⟨_,rfl,b,_,rfl, .inr hb, .int 2, .int 2,bg _,rfl,rfl,_,rfl,aV rfl ?_⟩⟩
 refine⟨_,rfl,ixT (j:=0) hb rfl ⟨aU i, .int (i:Int),rfl,rfl,λH1 s1=>⟨_,rfl,aV rfl ?_⟩⟩⟩
 refine⟨_,rfl,ixT (j:=1) (s1.tup hb) rfl ⟨aU j, .int (j:Int),rfl,rfl,λH2 s2=>⟨_,rfl,aV rfl ?_⟩⟩⟩
 have hb2:=(s1.trans s2).tup hb
 refine⟨_,rfl,ixT (j:=0) hb2 rfl ⟨_,_,rfl,rfl,_,rfl,?_⟩⟩
 rw[decide_eq_true (show(0:Int)<=(i:Int) by lia),if_pos rfl]
 refine⟨_,rfl,ixT (j:=1) hb2 rfl ⟨_,_,rfl,rfl,_,rfl,?_⟩⟩
 rw[decide_eq_true (show(i:Int)<(j:Int) by lia),if_pos rfl]
 refine⟨_,rfl,_,_,rfl,rfl,?_⟩
 rw[decide_eq_true (show(j:Int)<(n:Int) by lia)]
 exact q _ (s1.trans s2)
def aLq (K:aa):Sp:=λvs H Q _=>∃n:Nat,vs=[.int (n:Int)]/\3<=n/\n<=6/\∀F ys H',Same H H'->H F=none->H' F=some (.lst ys)->Rows K H' ys (nN (cW n))->Q (.ref F) H'
def aHt (K:vy)(H:Hp)(n i:Nat)(σ':St)(H':Hp):Prop:=i<=n/\Same H H'/\∃F x2 ys,σ'=[some (.int (n:Int)),some (.ref F),x2]/\H F=none/\H' F=some (.lst ys)/\Rows K H' ys (nN (bG i))
def aHK (K:vy)(i:Nat)(H1:Hp)(ys:List V)(A:Addr)(j:Nat)(σ2:St)(H2:Hp):Prop:=j<=ys.length/\Same H1 H2/\(∃x0,σ2=[x0,some (.int (i:Int))])/\∃zs,H2 A=some (.lst zs)/\Rows K H2 zs (nN (((bG i).take j).map (· ++ [i])))
def aGS (K:vy)(n:Nat)(H1:Hp)(ys:List V)(A:Addr)(i:Nat)(σ':St)(H':Hp):Prop:=i<=ys.length/\Same H1 H'/\(∃x0,σ'=[x0,some (.int (n:Int))])/\∃zs,H' A=some (.lst zs)/\Rows K H' zs (nN (((bG n).take i).filter (sX n)))
theorem aLp:∀vs H Q E,aLq K vs H Q E->lE K { nx:=λ_ H'=>Q .non H',rt:=Q } (aW ["many","found","place"] vs) H:=by
 intro vs H Q E h
 obtain⟨n,rfl,n3,n6,q⟩:=h
 refine⟨show 0<=bx by decide,λp hp=>⟨show 1<=bx by decide,λl hl=>?_⟩⟩
 have mp:=aD hp (.tup [])
 have ml:=aD hl (.lst [V.ref p])
 have m0:=mp.trans ml
 have hl0:(upd (upd H p (.tup [])) l (.lst [V.ref p])) l=some (.lst [V.ref p]):=aA
 have hp0:SqT K (upd (upd H p (.tup [])) l (.lst [V.ref p])) p []:=ml.tup (.of aA)
 have hlH:H l=none:=mp.free hl
 generalize upd (upd H p (.tup [])) l (.lst [V.ref p])=G at *
 refine⟨_,rfl,(n:Int),rfl,by lia,by lia,?_⟩
 rw[dh]
 refine bH (lo:=0) (n:=n) (aHt K H n) ⟨bg _,m0,l,none,[.ref p],rfl,hlH,hl0,rfl,λi row e=>?_⟩ (λi σ' H1 hi ⟨_,m1,F,x2,ys,es,hF0,hF,r1⟩=>?_) λσ' H1 ⟨_,m1,F,x2,ys,es,hF0,hF,r1⟩=>?_
 ·match i,e with
  |0,e=>
   obtain rfl:([]:List Int)=row:=bo e
   exact⟨p,rfl,hp0⟩
 ·subst es
  rw[kd]
  have yl:ys.length=(bG i).length:=by rw[r1.1,dP]
  have y64:ys.length<=32:=by
   rw[yl,eJ]
   exact de (ff (by decide) (show i<=5 by lia)) (by decide)
  refine⟨_,rfl,_,rfl,F,rfl, .inl ⟨⟨_, .of hF⟩,λA hA=>?_⟩⟩
  refine aS (K:=K) (a:=F) (xs:=ys) (aHK K i H1 ys A) ⟨bg _,aD hA _,⟨_,rfl⟩,[],aA,Rows.nil⟩ (λj σ2 H2 _ ⟨_,s2,_⟩ => .of (s2 _ _ hF)) (λj x σ2 H2 hx ⟨_,s2,⟨x0,e2⟩,zs,hA2,r2⟩=>?_) λσ2 H2 ⟨_,s2,_,zs,hA2,r2⟩=>?_
  ·subst e2
   obtain⟨s,b,hs,rfl,hb⟩:=kR (r1.same s2) hx
   have hj:j<ys.length:=(ai.mp hx).1
   have sl:s.length<=i:=(cP i s (ar hs)).1
   refine⟨_,rfl,_,rfl,show 1<=bx by decide,λt ht=>?_⟩
   have mt:=aD ht (.tup [V.int (i:Int)])
   refine .inr ⟨b,t,_,_,rfl,rfl,mt.tup hb, .of aA,?_,λc H3 _ hc s3=>?_⟩
   ·rw[ae]
    exact de (show s.length+1<=10 by lia) (by decide)
   ·have s4:=mt.trans s3
    have hA3:=s4 _ _ hA2
    refine⟨zs,hA3,bh (show zs.length<=100 by rw[r2.1,dP,ae,c9];lia) (by decide),hj,bB hA (s2.trans s4),⟨_,rfl⟩,_,aA,?_⟩
    rw[e8,hs,bj]
    have:nN (((bG i).take j).map (· ++ [i])++((some s).toList.map (· ++ [i])))=nN (((bG i).take j).map (· ++ [i]))++[(s++[i]).map Int.ofNat]:=by
     unfold nN
     rw[bj]
     rfl
    rw[this]
    refine Rows.put (Rows.snoc (r2.same s4) (b:=c) ?_) hA3
    rw[dw,bj]
    exact hc
  ·have hA4:=s2 _ _ hF
   refine .inl ⟨F,A,ys,zs,rfl,rfl,hA4,hA2,?_,λF4 hF4=>?_⟩
   ·rw[r2.1,dP,ae,c9]
    exact de (show _<=100 by lia) (by decide)
   ·have m4:=aD hF4 (.lst (ys++zs))
    refine⟨hi,(m1.trans s2).trans m4,F4,_,ys++zs,rfl,(m1.trans s2).free hF4,aA,?_⟩
    rw[yl,fc] at r2
    have:nN (bG (i+1))=nN (bG i)++nN ((bG i).map (· ++ [i])):=by unfold nN;rw[<- bj];rfl
    rw[this]
    exact(nH (r1.same s2) r2).same m4
 ·subst es
  have yl:ys.length=(bG n).length:=by rw[r1.1,dP]
  have y64:ys.length<=64:=by
   rw[yl,eJ]
   exact de (ff (by decide) n6) (by decide)
  refine⟨_,rfl,F,rfl, .inl ⟨⟨_, .of hF⟩,λA hA=>?_⟩⟩
  refine aS (K:=K) (a:=F) (xs:=ys) (aGS K n H1 ys A) ⟨bg _,aD hA _,⟨_,rfl⟩,[],aA,Rows.nil⟩ (λi σ2 H2 _ ⟨_,s2,_⟩ => .of (s2 _ _ hF)) (λi x σ2 H2 hx ⟨_,s2,⟨x1,e2⟩,zs,hA2,r2⟩=>?_) λσ2 H2 ⟨_,s2,_,zs,hA2,r2⟩=>?_
  ·subst e2
   have hi:i<ys.length:=(ai.mp hx).1
   obtain⟨s,b,hs,rfl,hb⟩:=kR (r1.same s2) hx
   have e1:((bG n).take (i+1)).filter (sX n)=((bG n).take i).filter (sX n)++if sX n s=true then[s] else[]:=by
    rw[e8,hs,kl]
    congr 1
    show[s].filter (sX n)=_
    by_cases c:sX n s=true
    ·rw[if_pos c,il c];rfl
    ·rw[if_neg c,ip c];rfl
   have yes:sX n s=true->(bF (aC 0) A) { nx:=λσ' H'=>i+1<=ys.length/\Same H1 H'/\(∃x0,σ'=[x0,some (.int (n:Int))])/\∃zs,H' A=some (.lst zs)/\Rows K H' zs (nN (((bG n).take (i+1)).filter (sX n))),rt:=λ_ _=>False,ct:=λσ' H'=>i+1<=ys.length/\Same H1 H'/\(∃x0,σ'=[x0,some (.int (n:Int))])/\∃zs,H' A=some (.lst zs)/\Rows K H' zs (nN (((bG n).take (i+1)).filter (sX n))) } [some (.ref b),some (.int (n:Int))] H2:=λcp=>by
    rw[if_pos cp] at e1
    refine⟨_,rfl,zs,hA2,bh (show zs.length<=100 by rw[r2.1,dP];have:=f9 (sX n) ((bG n).take i);rw[c9] at this;lia) (by decide),hi,bB hA s2,⟨_,rfl⟩,_,aA,?_⟩
    rw[e1]
    have:nN (((bG n).take i).filter (sX n)++[s])=nN (((bG n).take i).filter (sX n))++[s.map Int.ofNat]:=by unfold nN;rw[bj];rfl
    rw[this]
    exact Rows.put (Rows.snoc r2 (by rw[<- jB];exact hb)) hA2
   have no:sX n s=false->(i+1<=ys.length/\Same H1 H2/\(∃x0,([some (.ref b),some (.int (n:Int))]:St)=[x0,some (.int (n:Int))])/\∃zs,H2 A=some (.lst zs)/\Rows K H2 zs (nN (((bG n).take (i+1)).filter (sX n)))):=λcp=>by
    rw[if_neg (by rw[cp];decide),iq] at e1
    refine⟨hi,s2,⟨_,rfl⟩,zs,hA2,?_⟩
    rw[e1]
    exact r2
   refine⟨_,rfl,b,_,rfl, .inr hb,_,_,rfl,rfl,_,rfl,?_⟩
   rw[ae]
   by_cases c1:0<s.length
   ·refine bW (decide_eq_true (by lia)) ⟨_,rfl,_,_,rfl,rfl,_,rfl,?_⟩
    by_cases c2:s.length<n
    ·exact bW (decide_eq_true (by lia)) (yes (by unfold sX;rw[decide_eq_true c1,decide_eq_true c2];rfl))
    ·exact aV (decide_eq_false (by lia)) (no (by unfold sX;rw[decide_eq_false c2];simp))
   ·exact aV (decide_eq_false (by lia)) ⟨_,rfl,aV rfl (no (by unfold sX;rw[decide_eq_false c1];rfl))⟩
  ·rw[yl,fc,of_decide_eq_true (aJf n n3 n6)] at r2
   exact q A zs H2 (m1.trans s2) (m1.free hA) hA2 r2
def aHg (K:vy)(H:Hp)(l c:Addr)(ys:List V)(L:Shs)(s:List Nat)(A:Addr)(i:Nat)(σ':St)(H':Hp):Prop:=i<=ys.length/\Same H H'/\(∃x3 x4 x5,σ'=[some (.ref l),some (.ref c),some (.ref A),x3,x4,x5])/\∃zs,H' A=some (.lst zs)/\Rows K H' zs (prI (aCo s (L.take i)))
theorem aKZ:∀vs H Q E,aOL K vs H Q E->fE K (aNY K) (aFc K) { nx:=λ_ H'=>Q .non H',rt:=Q } (aW ["some","side","found","i","j","part"] vs) H:=by
 intro vs H Q E h
 obtain⟨l,c,ys,L,s,D,rfl,hl,rL,z,hc,okd,D0,Db,q⟩:=h
 have yl:ys.length=L.length:=by rw[rL.1];unfold mO;rw[ae]
 refine⟨show 0<=bx by decide,λA hA=>?_⟩
 have mA:=aD hA (.lst [])
 have hA0:(upd H A (.lst [])) A=some (.lst []):=aA
 generalize upd H A (.lst [])=G at *
 refine⟨_,rfl,l,rfl, .inl ⟨⟨_, .of (mA _ _ hl)⟩,?_⟩⟩
 refine aS (K:=K) (a:=l) (xs:=ys) (aHg K H l c ys L s A) ⟨bg _,mA,⟨_,_,_,rfl⟩,[],hA0,Rows.nil⟩ (λi σ1 H1 _ ⟨_,s1,_⟩ => .of (s1 _ _ hl)) (λi x σ1 H1 hx ⟨_,s1,⟨x3,x4,x5,es⟩,zs,hA1,r1⟩=>?_) λσ1 H1 ⟨_,s1,⟨x3,x4,x5,es⟩,zs,hA1,r1⟩=>?_
 ·subst es
  have hi:i<ys.length:=(ai.mp hx).1
  obtain⟨e,b,f,he,rfl,hb,hf⟩:=pF (K:=K) (H:=H1) (dF rL λb e=>Tri.same s1) hx
  refine⟨b,_,rfl,hb,rfl,_,_,rfl,_,_,rfl,_,_,rfl,rfl,?_⟩
  refine⟨_,rfl,_,rfl,_,rfl,c,s,e.1.1,e.1.2,rfl,s1.tup hc,_,rfl,?_⟩
  have e1:aCo s (L.take (i+1))=aCo s (L.take i)++if prt s e.1.1 e.1.2=true then[e.2] else[]:=by
   unfold aCo
   rw[e8,he,kl,bj]
   congr 1
   exact aOF (λe:(Nat×Nat)×(Int×Int)=>prt s e.1.1 e.1.2) (·.2) e
  refine zY (λcp=>?_) λcp=>?_
  ·rw[if_pos cp] at e1
   refine⟨_,rfl, .inl ⟨rfl,_, .of hA1⟩,_,rfl,A,zs,_,rfl,rfl,hA1,bh (show zs.length<=100 by rw[r1.1];unfold prI aCo;rw[ae,ae];have:=f9 (λe:(Nat×Nat)×(Int×Int)=>prt s e.1.1 e.1.2) (L.take i);rw[c9] at this;lia) (by decide),hi,bB hA s1,⟨_,_,_,rfl⟩,_,aA,?_⟩
   rw[e1,uC]
   exact Rows.put (Rows.snoc r1 (b:=f) (r:=[e.2.1,e.2.2]) hf) hA1
  ·rw[if_neg cp,iq] at e1
   refine⟨hi,s1,⟨_,_,_,rfl⟩,zs,hA1,?_⟩
   rw[e1]
   exact r1
 ·subst es
  rw[yl,fc] at r1
  refine⟨_,rfl,A,zs,aCo s L,D,rfl,hA1,r1,aEv okd λe he=>?_,?_,D0,Db,λp H2 s2 hp=>q p H2 (s1.trans s2) hp⟩
  ·obtain⟨x,hx,rfl⟩:=b6.mp he
   exact b6.mpr ⟨x,(fg.mp hx).1,rfl⟩
  ·unfold aCo
   rw[ae]
   have:=f9 (λe:(Nat×Nat)×(Int×Int)=>prt s e.1.1 e.1.2) L
   lia
def whS (T:List (List Int))(L:Shs):Pr:=L.map λe=>(e.2.1*at2 T e.1.1 e.1.2,e.2.2)
theorem aLw (n3:3<=n)(n6:n<=6)(t:Top T n h)(d0:0<dT T n h):cF (dT T n h) (whS T (nI T n h))=RT T n h (mN n) (NN n):=by
 have e:whS T (nI T n h)=((ao (mN n)).filter (zG T n h)).map λp=>((lo (lam T n h p) (dT T n h)).1*at2 T (prA n p).1 (prA n p).2,(lo (lam T n h p) (dT T n h)).2):=by
  unfold whS nI
  rw[dw]
  rfl
 have e2:wrS T (nI T n h)=((ao (mN n)).filter (zG T n h)).map λp=>lo ((lo (lam T n h p) (dT T n h)).1*at2 T (prA n p).1 (prA n p).2) ((lo (lam T n h p) (dT T n h)).2*1):=by
  unfold wrS nI
  rw[dw]
  rfl
 rw[<- aMt n3 n6 t d0,e,e2,gT d0 (v:=λp=>lam T n h p*at2 T (prA n p).1 (prA n p).2) (λp _=>by
  show(lo (lam T n h p) (dT T n h)).1*at2 T _ _*(dT T n h / (lo (lam T n h p) (dT T n h)).2)=_
  rw[cm,b8 (at2 T _ _),<- cm,qN d0]),gT d0 (v:=λp=>lam T n h p*at2 T (prA n p).1 (prA n p).2) λp _=>by
  rw[jc,aAk (iA d0) d0 (tU d0),cm,b8 (at2 T _ _),<- cm,qN d0]]
theorem aFs:dep (.tup [.int t, .int b])<=100:=nE [t,b]
theorem aHY {K: aa}{α: Type}{H: Hp}(f:α->Dt):∀{L:List α}{xs:List V},xs.length=L.length->(∀(i:Nat) (e:α),L[i]?=some e->∃x,xs[i]?=some x/\Sh K H (f e) x)->ShL K H (L.map f) xs
 |[],xs,h,_=>mz.mp h
 |e :: L,[],h,_=>by simp at h
 |e :: L,x :: xs,h,g=>by
  obtain⟨y,h1,h2⟩:=g 0 e rfl
  obtain rfl:x=y:=bo h1
  exact⟨x,xs,rfl,h2,aHY f (by simpa using h) λi e' he=>by
   obtain⟨y,h1,h2⟩:=g (i+1) e' (by simpa using he)
   exact⟨y,by simpa using h1,h2⟩⟩
def aNj (e:(Nat×Nat)×(Int×Int)):Dt := .tup [.int e.1.1, .int e.1.2, .tup [.int e.2.1, .int e.2.2]]
theorem aFp (hb:SqT K H b [aU e.1.1,aU e.1.2, .ref f])(hf:SqT K H f [.int e.2.1, .int e.2.2]):Sh K H (aNj e) (.ref b):=⟨b,_,rfl,hb,_,_,rfl,rfl,_,_,rfl,rfl,_,_,rfl,tV hf,rfl⟩
theorem aKe (hl:H l=some (.lst ys))(rL:aCK K H ys (mO L)):Sh K H (.lst (L.map aNj)) (.ref l):=by
 have yl:ys.length=L.length:=by rw[rL.1];unfold mO;rw[ae]
 refine⟨l,ys,rfl, .of hl,aHY aNj yl λi e he=>?_⟩
 have hi:i<ys.length:=by rw[yl];exact(ai.mp he).1
 obtain⟨e',b,f,he',eb,hb,hf⟩:=pF rL (ah hi)
 rw[he] at he'
 obtain rfl:=bo he'
 exact⟨.ref b,by rw[ah hi,eb],aFp hb hf⟩
def aOH (K:aa):Sp:=λvs H Q _=>∃(v:V) (l w:Addr) (ys:List V) (T:List (List Int)) (n:Nat) (h:Nat->Nat),vs=[v, .ref l, .ref w]/\Sh K H (uF T) v/\Quad T n/\3<=n/\n<=6/\Bs T n/\OkT T n h/\Top T n h/\H l=some (.lst ys)/\aCK K H ys (mO (nI T n h))/\Fr K H w (lo (RT T n h (mN n) (NN n)) (dT T n h)).1 (lo (RT T n h (mN n) (NN n)) (dT T n h)).2/\∀H',Same H H'->Q (.bl true) H'
def aHG (H:Hp)(l w:Addr)(n:Nat)(ta:Addr)(i:Nat)(σ':St)(H':Hp):Prop:=Same H H'/\∃x4,σ'=[some (.ref ta),some (.ref l),some (.ref w),some (.int (n:Int)),x4,none,none,none,none,none,none,none]
def aGg (l w:Addr)(n:Nat)(ta:Addr)(x4:Option V)(B:Addr)(H6:Hp)(i:Nat)(σ':St)(H':Hp):Prop:=Same H6 H'/\∃x6 x7,σ'=[some (.ref ta),some (.ref l),some (.ref w),some (.int (n:Int)),x4,some (.ref B),x6,x7,none,none,none,none]
def aGo (K:vy)(l w:Addr)(ys:List V)(T:List (List Int))(n:Nat)(L:Shs)(ta:Addr)(x4:Option V)(B:Addr)(H7:Hp)(x6 x7:Option V)(A:Addr)(i:Nat)(σ':St)(H':Hp):Prop:=i<=ys.length/\Same H7 H'/\(∃x9 x10 x11,σ'=[some (.ref ta),some (.ref l),some (.ref w),some (.int (n:Int)),x4,some (.ref B),x6,x7,some (.ref A),x9,x10,x11])/\∃ws,H' A=some (.lst ws)/\Rows K H' ws (prI (whS T (L.take i)))
theorem aNl:∀vs H Q E,aOH K vs H Q E->dO K (aNR K) (aLJ K) (aOL K) (aFc K) (aLq K) { nx:=λ_ H'=>Q .non H',rt:=Q } (aW ["table","some","worth","many","thing","pairs","side","over","whole","i","j","part"] vs) H:=by
 intro vs H Q E h
 obtain⟨v,l,w,ys,T,n,h,rfl,hT,qT,n3,n6,bT,ok,top,hl,rL,hw,q⟩:=h
 have d0:0<dT T n h:=ok.d0
 have db:(dT T n h).natAbs<2 ^ 2000:=cg (lR n3 n6 bT h) (ff (by decide) (by decide))
 have fo:=aMo n3 n6 d0
 have fD:=aNM n3 n6 bT d0
 have f15:=aJS (T:=T) (h:=h) n3 n6
 have okd:OkD (dT T n h) ((nI T n h).map (·.2)):=λx hx=>by
  obtain⟨e,he,rfl⟩:=b6.mp hx
  obtain⟨a1,a2,a3⟩:=fD e he
  exact⟨a1,a2,cg a3 (ff (by decide) (by decide))⟩
 generalize hL:nI T n h=L at *
 have yl:ys.length=L.length:=by rw[rL.1];unfold mO;rw[ae]
 obtain⟨ta,rs,rfl,ha,hrl,_⟩:=id hT.tab
 have hrl:rs.length=n:=hrl.trans qT.len
 refine⟨_,rfl,ta,rs,rfl, .inr ha,?_⟩
 rw[hrl]
 refine⟨_,rfl, .ref l,_,"list",rfl,by decide,aKe hl rL,_,rfl,aV rfl ?_⟩
 refine⟨_,rfl,l,rfl, .inl ⟨⟨_, .of hl⟩,?_⟩⟩
 refine aS (K:=K) (a:=l) (xs:=ys) (aHG H l w n ta) ⟨Same.refl _,_,rfl⟩ (λi σ1 H1 _ ⟨s1,_⟩ => .of (s1 _ _ hl)) (λi x σ1 H1 hx ⟨s1,x4,es⟩=>?_) λσ1 H1 ⟨s1,x4,es⟩=>?_
 ·subst es
  obtain⟨e,b,f,he,rfl,hb,hf⟩:=pF (K:=K) (H:=H1) (dF rL λb e=>Tri.same s1) hx
  obtain⟨fs,g1,g2,g3⟩:=fo e (ar he)
  obtain⟨d1,d2,d3⟩:=fD e (ar he)
  have fr:frB e.2.1 e.2.2=true:=by
   unfold shB at fs
   simp only[dn] at fs
   exact fs.2.2.2.1
  refine⟨_,rfl, .ref b,_,"tuple",rfl,by decide,aFp hb hf,_,rfl,aV rfl ⟨_,rfl,b,_,rfl, .inr hb, .int 3, .int 3,bg _,rfl,rfl,_,rfl,aV rfl ?_⟩⟩
  refine⟨_,rfl,_,rfl,2,rfl, .inr ⟨b,_,rfl,hb,λp H2 s2 hp=>⟨n,p,e.1.1,e.1.2,rfl,hp,g1,g2,λH3 s3=>⟨_,rfl,aV rfl ?_⟩⟩⟩⟩
  have s23:=s2.trans s3
  refine⟨_,rfl,ixT (j:=2) (s23.tup hb) rfl ⟨f,e.2.1,e.2.2,rfl,s23.tup hf,fr,up8 (aZ d1 d0 d2 db) (by decide),λH4 s4=>⟨_,rfl,aV rfl ?_⟩⟩⟩
  have s24:=s23.trans s4
  exact⟨_,rfl,ixT (j:=2) (s24.tup hb) rfl (ixT (j:=0) (s24.tup hf) rfl ⟨_,_,rfl,rfl,_,rfl,aV (decide_eq_false (by lia)) ⟨s1.trans s24,_,rfl⟩⟩)⟩
 ·subst es
  refine⟨_,rfl,l,rfl, .inl ⟨⟨_, .of (s1 _ _ hl)⟩,λB hB=>?_⟩⟩
  refine aS (K:=K) (a:=l) (xs:=ys) (λi σ' H'=>i<=ys.length/\Same H1 H'/\(∃x0,σ'=[x0])/\∃zs,H' B=some (.lst zs)/\Rows K H' zs (pr2 (L.take i))) ⟨bg _,aD hB _,⟨_,rfl⟩,[],aA,Rows.nil⟩ (λi σ3 H3 _ ⟨_,s3,_⟩ => .of (s3 _ _ (s1 _ _ hl))) (λi x' σ3 H3 hx ⟨_,s3,⟨x0,es⟩,zs,hB3,r3⟩=>?_) λσ3 H3 ⟨_,s3,_,zs,hB3,r3⟩=>?_
  ·subst es
   have hi:i<ys.length:=(ai.mp hx).1
   obtain⟨e,b,f,he,rfl,hb,hf⟩:=pF (K:=K) (H:=H3) (dF rL λb e=>Tri.same (s1.trans s3)) hx
   refine⟨_,rfl,2,rfl, .inr ⟨b,_,rfl,hb,λp H4 s4 hp=>?_⟩⟩
   have hB4:=s4 _ _ hB3
   refine⟨zs,hB4,bh (show zs.length<=100 by rw[r3.1];unfold pr2;rw[ae,c9];lia) (by decide),hi,bB hB (s3.trans s4),⟨_,rfl⟩,_,aA,?_⟩
   unfold pr2 at r3 ⊢
   rw[aBq _ he]
   exact Rows.put (Rows.snoc (r3.same s4) (b:=p) (r:=[(e.1.1:Int),(e.1.2:Int)]) hp) hB4
  rw[yl,fc] at r3
  have s13:=s1.trans s3
  have ris:(pr2 L).Pairwise λa b=>HT.lexLt a b=true:=by rw[<- hL];exact aKd n3 n6
  refine⟨_,rfl,_,rfl,B,zs,pr2 L,rfl, .of hB3,r3,λr hr=>?_,by unfold pr2;rw[ae];lia,λzs' R' srt nd mem H4 s4 r4 l4 hl4=>?_⟩
  ·obtain⟨e,he,rfl⟩:=b6.mp hr
   obtain⟨_,g1,g2,_⟩:=fo e he
   exact of_decide_eq_true (e9.mp (e9.mp (aNc n n3 n6) e.1.2 (az.mpr g2)) e.1.1 (az.mpr g1))
  obtain rfl:=aGA ris srt nd mem
  have m4:=aD hl4 (.lst zs')
  have s14:=(s13.trans s4).trans m4
  refine⟨_,_,aEU _,Rows.sh ((r3.same s4).same m4) (.of (m4 _ _ (s4 _ _ hB3))),Rows.sh (r4.same m4) (.of aA),_,rfl,aV (by rw[jE];rfl) ?_⟩
  generalize upd H4 l4 (.lst zs')=H5 at *
  refine⟨_,rfl,n,rfl,n3,n6,λF6 us H6 s6 _ hF6 r6=>⟨F6,rfl, .inl ⟨⟨_, .of hF6⟩,?_⟩⟩⟩
  have s16:=s14.trans s6
  refine aS (K:=K) (a:=F6) (xs:=us) (aGg l w n ta x4 B H6) ⟨Same.refl _,_,_,rfl⟩ (λi σ7 H7 _ ⟨s7,_⟩ => .of (s7 _ _ hF6)) (λi x σ7 H7 hx ⟨s7,x6,x7,es⟩=>?_) λσ7 H7 ⟨s7,x6,x7,es⟩=>?_
  ·subst es
   obtain⟨s,b,hs,rfl,hb⟩:=kR (r6.same s7) hx
   have sA:=s16.trans s7
   obtain⟨c1,c2⟩:=aDD n3 n6 top (ar hs)
   refine⟨_,rfl,_,rfl,l,b,ys,L,s,dT T n h,rfl,sA _ _ hl,dF rL λb e=>Tri.same sA,by lia,hb,okd,d0,db,λp H8 s8 hp=>?_⟩
   have e0:cF (dT T n h) (aCo s L)=zJ T n h s:=by rw[<- hL];exact aFX top d0 s
   rw[e0] at hp
   have hp:Fr K H8 p (lo (zJ T n h s) (dT T n h)).1 (lo (zJ T n h s) (dT T n h)).2 := .of hp
   have le:=(aOo (c:=2) d0).mpr c1
   refine⟨_,rfl,ixT (j:=0) hp rfl ⟨_,rfl,ixT (j:=1) hp rfl ⟨.inl (.inl ⟨by decide,by decide⟩),_,_,rfl,rfl,_,rfl,aV (decide_eq_false (by lia)) ?_⟩⟩⟩
   refine⟨_,rfl,b,_,rfl, .inr (s8.tup hb), .int (s.length:Int), .int ((1:Nat):Int),bg _,by rw[ae];rfl,rfl,_,rfl,?_⟩
   rw[aFP]
   by_cases c:s.length=1
   ·rw[c2 c,aMg d0] at hp
    refine bW (decide_eq_true c) ⟨_,rfl,show 2<=bx by decide,λu hu=>?_⟩
    have mu:=aD hu (.tup [V.int 2, .int 1])
    exact⟨_,_,aFs,tV (mu.tup hp),tV (.of aA),_,rfl,aV (by rw[jE];rfl) ⟨(s7.trans s8).trans mu,_,_,rfl⟩⟩
   ·exact aV (decide_eq_false c) (aV rfl ⟨s7.trans s8,_,_,rfl⟩)
  ·subst es
   have s17:=s16.trans s7
   refine⟨show 0<=bx by decide,λA hA=>?_⟩
   have mA:=aD hA (.lst [])
   have hA0:(upd H7 A (.lst [])) A=some (.lst []):=aA
   generalize upd H7 A (.lst [])=G at *
   refine⟨_,rfl,l,rfl, .inl ⟨⟨_, .of ((s17.trans mA) _ _ hl)⟩,?_⟩⟩
   refine aS (K:=K) (a:=l) (xs:=ys) (aGo K l w ys T n L ta x4 B H7 x6 x7 A) ⟨bg _,mA,⟨_,_,_,rfl⟩,[],hA0,Rows.nil⟩ (λi σ8 H8 _ ⟨_,s8,_⟩ => .of ((s17.trans s8) _ _ hl)) (λi x σ8 H8 hx ⟨_,s8,⟨x9,x10,x11,es⟩,ws,hA8,r8⟩=>?_) λσ8 H8 ⟨_,s8,⟨x9,x10,x11,es⟩,ws,hA8,r8⟩=>?_
   ·subst es
    have hi:i<ys.length:=(ai.mp hx).1
    have sB:=s17.trans s8
    obtain⟨e,b,f,he,rfl,hb,hf⟩:=pF (K:=K) (H:=H8) (dF rL λb e=>Tri.same sB) hx
    obtain⟨_,g1,g2,_⟩:=fo e (ar he)
    have wb:=bT e.1.1 e.1.2 (by lia) g2
    refine⟨b,_,rfl,hb,rfl,_,_,rfl,_,_,rfl,_,_,rfl,rfl,?_⟩
    refine⟨_,rfl, .inl ⟨rfl,_, .of hA8⟩,_,rfl,ixT (j:=0) hf rfl (pE (t:=0) (si:=9) (sj:=10) (i:=e.1.1) (j:=e.1.2) rfl rfl rfl (hT.same sB) qT (by lia) g2 ⟨.inl (.inr ⟨by lia,by lia⟩),_,rfl,ixT (j:=1) hf rfl ⟨show 2<=bx by decide,λu hu=>?_⟩⟩)⟩
    have mu:=aD hu (.tup [V.int (e.2.1*at2 T e.1.1 e.1.2), .int e.2.2])
    have hA9:=mu _ _ hA8
    refine⟨A,ws,_,rfl,rfl,hA9,bh (show ws.length<=100 by rw[r8.1];unfold prI whS;rw[ae,ae,c9];lia) (by decide),hi,bB hA (s8.trans mu),⟨_,_,_,rfl⟩,_,aA,?_⟩
    unfold whS at r8 ⊢
    rw[aBq _ he,uC]
    exact Rows.put (Rows.snoc (r8.same mu) (b:=u) (r:=[_,_]) (.of aA)) hA9
   ·subst es
    rw[yl,fc] at r8
    refine⟨_,rfl,A,ws,whS T L,dT T n h,rfl,hA8,r8,λx hx=>?_,by unfold whS;rw[ae];lia,d0,db,λp H9 s9 hp=>⟨_,rfl,?_⟩⟩
    ·obtain⟨e,he,rfl⟩:=b6.mp hx
     obtain⟨a1,a2,a3⟩:=fD e he
     obtain⟨_,g1,g2,_⟩:=fo e he
     have wb:=bT e.1.1 e.1.2 (by lia) g2
     exact⟨a1,a2,cg (yC a3 (show(at2 T e.1.1 e.1.2).natAbs<2 ^ 20 by lia)) (ff (by decide) (by decide))⟩
    ·have ew:cF (dT T n h) (whS T L)=RT T n h (mN n) (NN n):=by rw[<- hL];exact aLw n3 n6 top d0
     rw[ew] at hp
     have s19:=(s17.trans s8).trans s9
     exact⟨_,_,aFs,tV (.of hp),tV (s19.tup hw),by rw[jE];exact q H9 s19⟩
theorem jI:∀(n:Nat) (l:List Nat),l.Nodup->(∀x∈l,x<n)->l.length<=n
 |0,l,_,h=>by
  cases l with
  |nil=>exact bc _
  |cons a l=>exact absurd (h a (by simp)) (ou _)
 |n+1,l,nd,h=>by
  have a:=jI n (l.erase n) (nd.erase n) λx hx=>by
   obtain⟨a,b⟩:=(nd.mem_erase_iff).mp hx
   have:=h x b
   lia
  have b:=List.length_erase (a:=n) (l:=l)
  split at b <;> lia
theorem aAX {α: Type}[DecidableEq α]:∀(M L:List α),M.Nodup->(∀x∈M,x∈L)->M.length<=L.length/\(M.length=L.length->L.Perm M)
 |[],L,_,_=>⟨bg _,λh=>by rw[mz.mp h.symm]⟩
 |a :: M,L,nd,h=>by
  have nd':=gg.mp nd
  have ha:=h a (by simp)
  obtain⟨i1,i2⟩:=aAX M (L.erase a) nd'.2 λx hx=>(An (λe=>nd'.1 (by rw[<- e];exact hx))).mpr (h x (ay _ hx))
  have hl:=mr ha
  have hp:0<L.length:=yv ha
  rw[da]
  exact⟨by lia,λe=>(uo ha).trans ((i2 (by lia)).cons a)⟩
theorem aEJ {C: Nat×Nat->Int}:∀{X:List (Nat×Nat)},X≠[]->∃e∈X,∀d∈X,C e<=C d
 |[],h=>absurd rfl h
 |[e],_=>⟨e,by simp,λd hd=>by rw[cq.mp hd];exact ij _⟩
 |e :: d :: X,_=>by
  obtain⟨f,hf,q⟩:=aEJ (C:=C) (X:=d :: X) (by simp)
  by_cases c:C e<=C f
  ·refine⟨e,by simp,λz hz=>?_⟩
   rcases bq.mp hz with rfl | hz
   ·exact ij _
   ·exact Bu c (q z hz)
  ·refine⟨f,ay _ hf,λz hz=>?_⟩
   rcases bq.mp hz with rfl | hz
   ·lia
   ·exact q z hz
abbrev Rw:= Nat×Nat×Int
def rs (R:List Rw)(f:Nat->Nat->Int):Int:=(R.map λr=>r.2.2*f r.1 r.2.1).sum
theorem dZ:rs (r :: R) f=r.2.2*f r.1 r.2.1+rs R f:=rfl
theorem fT:∀{R:List Rw},rs R (λi j=>f i j+g i j)=rs R f+rs R g
 |[]=>rfl
 |r :: R=>by rw[dZ,dZ,dZ,fT (R:=R),fh];lia
theorem dR:∀{R:List Rw},rs R (λi j=>c*f i j)=c*rs R f
 |[]=>(fj c).symm
 |r :: R=>by rw[dZ,dZ,dR (R:=R),fh,dm]
theorem pD:∀{R:List Rw},rs R (λ_ _=>0)=0
 |[]=>rfl
 |r :: R=>by rw[dZ,pD (R:=R),fj];rfl
theorem aIB:∀{R:List Rw},(∀r∈R,0<=r.2.2)->(∀r∈R,f r.1 r.2.1<=g r.1 r.2.1)->rs R f<=rs R g
 |[],_,_=>ij _
 |r :: R,h,k=>by
  rw[dZ,dZ]
  have:=aIB (R:=R) (λx hx=>h x (ay _ hx)) λx hx=>k x (ay _ hx)
  have:=jv (k r (by simp)) (h r (by simp))
  lia
theorem bR:∀{R:List Rw},(∀r∈R,f r.1 r.2.1=g r.1 r.2.1)->rs R f=rs R g
 |[],_=>rfl
 |r :: R,k=>by rw[dZ,dZ,bR (R:=R) λx hx=>k x (ay _ hx),k r (by simp)]
def b1 (c:Prop)[Decidable c]:Int:=if c then 1 else 0
theorem dC[Decidable c](h:c):b1 c=1:=if_pos h
theorem cB[Decidable c](h:¬ c):b1 c=0:=if_neg h
theorem aOs[Decidable c]:0<=b1 c:=by unfold b1;split <;> decide
def deg (R:List Rw)(v:Nat):Int:=rs R λi j=>b1 (i=v)+b1 (j=v)
def aFC (R:List Rw)(S:List Nat):Int:=rs R λi j=>b1 ((i∈S)≠(j∈S))
def inX (R:List Rw)(S:List Nat):Int:=rs R λi j=>b1 (i∈S/\j∈S)
theorem aAe:∀{S:List Nat},S.Nodup->(S.map (deg R)).sum=rs R λi j=>b1 (i∈S)+b1 (j∈S)
 |[],_=>by
  rw[show(λi j=>b1 (i∈([]:List Nat))+b1 (j∈([]:List Nat)))=λ_ _=>(0:Int) from funext λi=>funext λj=>by rw[cB (by simp),cB (by simp)];rfl,pD];rfl
 |w :: S,nd=>by
  obtain⟨n1,n2⟩:=gg.mp nd
  rw[cf,dz,aAe n2]
  unfold deg
  rw[<- fT]
  refine bR λr _=>?_
  have h:∀v,b1 (v=w)+b1 (v∈S)=b1 (v∈w :: S):=λv=>by
   by_cases c:v=w
   ·rw[dC c,cB (by rw[c];exact n1),dC (by rw[c];simp)];rfl
   ·rw[cB c]
    by_cases d:v∈S
    ·rw[dC d,dC (by simp[d])];rfl
    ·rw[cB d,cB (by simp[c,d])];rfl
  have a:=h r.1
  have b:=h r.2.1
  lia
structure Told (R:List Rw)(N:Int)(n:Nat):Prop where
 nn:∀r∈R,0<=r.2.2
 lt:∀r∈R,r.1<r.2.1/\r.2.1<n
 dg:∀v,v<n->deg R v=2*N
 ct:∀S:List Nat,S.Nodup->S≠[]->(∀v∈S,v<n)->S.length<n->2*N<=aFC R S
variable {R:List Rw}{N:Int}{n:Nat}
theorem aBg:2*inX R S+aFC R S=rs R λi j=>b1 (i∈S)+b1 (j∈S):=by
 unfold inX aFC
 rw[<- dR,<- fT]
 refine bR λr _=>?_
 by_cases c:r.1∈S
 ·by_cases d:r.2.1∈S
  ·rw[dC ⟨c,d⟩,dC c,dC d,cB (by simp[c,d])];rfl
  ·rw[cB (λh=>d h.2),dC c,cB d,dC (by simp[c,d])];rfl
 ·by_cases d:r.2.1∈S
  ·rw[cB (λh=>c h.1),cB c,dC d,dC (by simp[c,d])];rfl
  ·rw[cB (λh=>c h.1),cB c,cB d,cB (by simp[c,d])];rfl
theorem pA:∀{S:List Nat},(∀v∈S,f v=c)->(S.map f).sum=(S.length:Int)*c
 |[],_=>by simp
 |v :: S,h=>by
  rw[cf,dz,pA (S:=S) λx hx=>h x (ay _ hx),h v (by simp),da,vw,pw]
  lia
theorem Told.in_le (T:Told R N n)(nd:S.Nodup)(ne:S≠[])(hS:∀v∈S,v<n)(hl:S.length<n):inX R S<=N*((S.length:Int) - 1):=by
 have a:=aBg (R:=R) (S:=S)
 rw[<- aAe nd,pA λv hv=>T.dg v (hS v hv)] at a
 have b:=T.ct S nd ne hS hl
 have e:(S.length:Int)*(2*N)=2*(N*(S.length:Int)):=by rw[dm,b8 (S.length:Int) N]
 rw[j5,jc]
 lia
theorem Told.in_all (T:Told R N n)(nd:S.Nodup)(hS:∀v,v∈S↔1<=v/\v<n)(hl:S.length+1=n)(n1:1<=n):inX R S=N*((S.length:Int) - 1):=by
 have a:=aBg (R:=R) (S:=S)
 rw[<- aAe nd,pA λv hv=>T.dg v ((hS v).mp hv).2] at a
 have d0:=T.dg 0 (by lia)
 have e0:aFC R S=deg R 0:=by
  unfold aFC deg
  refine bR λr hr=>?_
  have:=T.lt r hr
  by_cases c:r.1=0
  ·rw[dC c,cB (c:=r.2.1=0) (by lia),dC];· rfl
   have h1:¬ r.1∈S:=λh=>by have:=(hS _).mp h;lia
   have h2:r.2.1∈S:=(hS _).mpr (by lia)
   simp[h1,h2]
  ·rw[cB c,cB (c:=r.2.1=0) (by lia),cB];· rfl
   have h1:r.1∈S:=(hS _).mpr (by lia)
   have h2:r.2.1∈S:=(hS _).mpr (by lia)
   simp[h1,h2]
 have e:(S.length:Int)*(2*N)=2*(N*(S.length:Int)):=by rw[dm,b8 (S.length:Int) N]
 rw[j5,jc]
 lia
theorem aId:∀{ws:List Int},ws≠[]->∃ws1 w ws2,ws=ws1++w :: ws2/\(∀x∈ws1,x<=w)/\∀x∈ws2,x<=w
 |[],h=>absurd rfl h
 |[a],_=>⟨[],a,[],rfl,(λx hx=>by cases hx),λx hx=>by cases hx⟩
 |a :: b :: l,_=>by
  obtain⟨w1,w,w2,e,h1,h2⟩:=aId (ws:=b :: l) (by simp)
  by_cases c:a<=w
  ·refine⟨a :: w1,w,w2,by rw[e];rfl,λx hx=>?_,h2⟩
   rcases bq.mp hx with rfl | hx
   ·exact c
   ·exact h1 x hx
  ·refine⟨[],a,b :: l,rfl,(λx hx=>by cases hx),λx hx=>?_⟩
   rw[e] at hx
   rcases di.mp hx with hx | hx
   ·have:=h1 x hx;lia
   ·rcases bq.mp hx with rfl | hx
    ·lia
    ·have:=h2 x hx;lia
def up (A:List Nat):List Nat:=A.map (· + 1)
theorem jP:v∈up A↔∃a∈A,v=a+1:=by
 unfold up
 rw[b6]
 exact⟨λ⟨a,h,e⟩=>⟨a,h,e.symm⟩,λ⟨a,h,e⟩=>⟨a,h,e.symm⟩⟩
theorem nK (h:A.Nodup): (up A).Nodup:=by
 unfold up
 refine mw.mpr (h.imp λh e=>h (by lia))
def rsC (R:List Rw)(C:Nat->Nat->Int)(S:List Nat):Int:=rs R λi j=>C i j*b1 (i∈S/\j∈S)
theorem aCs (T:Told R N n)(sy:∀i j,i<n->j<n->C i j=C j i):∀(len:Nat) (A:List Nat) (ws:List Int),ws.length<=len->uO (λi j=>C (i+1) (j+1)) A ws->ws.length+1=A.length->A.Nodup->(∀a∈A,a+1<n)->∀W,(∀w∈ws,w<=W) ->
  N*ws.sum - W*(N*(ws.length:Int) - inX R (up A))<=rsC R C (up A):=by
 intro len
 induction len with
 |zero=>
  intro A ws hl le l1 nd lt W hW
  obtain rfl:ws=[]:=nr (by lia)
  obtain⟨a,rfl⟩:∃a,A=[a]:=by
   match A,l1 with
   |[a],_=>exact⟨a,rfl⟩
  have nb:∀r∈R,¬ (r.1∈up [a]/\r.2.1∈up [a]):=λr hr h=>by
   obtain⟨x,hx,e1⟩:=jP.mp h.1
   obtain⟨y,hy,e2⟩:=jP.mp h.2
   have:=T.lt r hr
   rw[cq.mp hx] at e1
   rw[cq.mp hy] at e2
   lia
  have e1:inX R (up [a])=0:=by
   have:inX R (up [a])=rs R λ_ _=>0:=bR λr hr=>cB (nb r hr)
   rw[this,pD]
  have e2:rsC R C (up [a])=0:=by
   have:rsC R C (up [a])=rs R λ_ _=>0:=bR λr hr=>by rw[cB (nb r hr),fj]
   rw[this,pD]
  rw[e1,e2];simp
 |succ len ih=>
  intro A ws hl le l1 nd lt W hW
  by_cases h0:ws=[]
  ·exact ih A ws (by rw[h0];simp) le l1 nd lt W hW
  obtain⟨w1,w,w2,rfl,m1,m2⟩:=aId h0
  rw[au,da] at l1 hl
  have tl:(A.take (w1.length+1)).length=w1.length+1:=by rw[c9];lia
  have dl:(A.drop (w1.length+1)).length=w2.length+1:=by rw[gp];lia
  have hA:A.take (w1.length+1)++A.drop (w1.length+1)=A:=pe ..
  have cross:=le w1.length w (by simp)
  have L1:uO (λi j=>C (i+1) (j+1)) (A.take (w1.length+1)) w1:=λk v hk x hx y hy=>by
   have hkl:=(ai.mp hk).1
   refine le k v (by rw[c6 hkl];exact hk) x ?_ y ?_
   ·rw[List.take_take,ph (by lia)] at hx;exact hx
   ·rw[<- hA,ju (by lia)];exact fe _ hy
  have L2:uO (λi j=>C (i+1) (j+1)) (A.drop (w1.length+1)) w2:=λk v hk x hx y hy=>by
   refine le (w1.length+1+k) v (by rw[cw (by lia),show w1.length+1+k - w1.length=k+1 by lia];exact hk) x ?_ y ?_
   ·rw[<- hA,List.take_append,tl,jo (by lia),show w1.length+1+k+1 - (w1.length+1)=k+1 by lia]
    exact df _ hx
   ·rw[List.drop_drop] at hy
    rw[show w1.length+1+k+1=w1.length+1+(k+1) by lia];exact hy
  generalize A.take (w1.length+1)=A1 at *
  generalize A.drop (w1.length+1)=A2 at *
  subst hA
  obtain⟨nd1,nd2,dj⟩:=tw.mp nd
  have i1:=ih A1 w1 (by lia) L1 (by lia) nd1 (λa ha=>lt a (fe _ ha)) w m1
  have i2:=ih A2 w2 (by lia) L2 (by lia) nd2 (λa ha=>lt a (df _ ha)) w m2
  have key:rsC R C (up A1)+rsC R C (up A2)+w*(inX R (up (A1++A2)) - inX R (up A1) - inX R (up A2))<=rsC R C (up (A1++A2)):=by
   have e:rsC R C (up A1)+rsC R C (up A2)+w*(inX R (up (A1++A2)) - inX R (up A1) - inX R (up A2))=rs R λi j=>C i j*b1 (i∈up A1/\j∈up A1)+C i j*b1 (i∈up A2/\j∈up A2)+(w*b1 (i∈up (A1++A2)/\j∈up (A1++A2))+((-w)*b1 (i∈up A1/\j∈up A1)+(-w)*b1 (i∈up A2/\j∈up A2))):=by
    rw[fT,fT,fT,fT,dR,dR,dR]
    unfold rsC inX
    rw[j5,j5,jw,jw]
    lia
   rw[e]
   refine aIB T.nn λr hr=>?_
   have rl:=T.lt r hr
   have mA:∀v,v∈up (A1++A2)↔v∈up A1\/v∈up A2:=λv=>by unfold up;rw[bj,di]
   have dis:∀v,v∈up A1->v∈up A2->False:=λv h1 h2=>by
    obtain⟨a,ha,e1⟩:=jP.mp h1
    obtain⟨b,hb,e2⟩:=jP.mp h2
    exact dj a ha b hb (by lia)
   have cr:∀x y,x∈up A1->y∈up A2->w<=C x y:=λx y h1 h2=>by
    obtain⟨a,ha,rfl⟩:=jP.mp h1
    obtain⟨b,hb,rfl⟩:=jP.mp h2
    exact cross a ha b hb
   by_cases p1:r.1∈up A1
   ·have p2:¬ r.1∈up A2:=λh=>dis _ p1 h
    by_cases q1:r.2.1∈up A1
    ·have q2:¬ r.2.1∈up A2:=λh=>dis _ q1 h
     rw[dC ⟨p1,q1⟩,cB (λh=>p2 h.1),dC ⟨(mA _).mpr (.inl p1),(mA _).mpr (.inl q1)⟩]
     lia
    ·rw[cB (c:=r.1∈up A1/\r.2.1∈up A1) (λh=>q1 h.2),cB (c:=r.1∈up A2/\r.2.1∈up A2) (λh=>p2 h.1)]
     by_cases q2:r.2.1∈up A2
     ·rw[dC ⟨(mA _).mpr (.inl p1),(mA _).mpr (.inr q2)⟩]
      have:=cr _ _ p1 q2
      lia
     ·rw[cB λh=>((mA _).mp h.2).elim q1 q2]
      lia
   ·rw[cB (c:=r.1∈up A1/\r.2.1∈up A1) (λh=>p1 h.1)]
    by_cases p2:r.1∈up A2
    ·by_cases q2:r.2.1∈up A2
     ·rw[dC ⟨p2,q2⟩,dC ⟨(mA _).mpr (.inr p2),(mA _).mpr (.inr q2)⟩]
      lia
     ·rw[cB (c:=r.1∈up A2/\r.2.1∈up A2) (λh=>q2 h.2)]
      by_cases q1:r.2.1∈up A1
      ·rw[dC ⟨(mA _).mpr (.inr p2),(mA _).mpr (.inl q1)⟩]
       have:=cr _ _ q1 p2
       have:=sy r.1 r.2.1 (by lia) rl.2
       lia
      ·rw[cB λh=>((mA _).mp h.2).elim q1 q2]
       lia
    ·rw[cB (c:=r.1∈up A2/\r.2.1∈up A2) (λh=>p2 h.1),cB λh=>((mA _).mp h.1).elim p1 p2]
     lia
  have gap:inX R (up (A1++A2))<=N*(((w1++w :: w2).length:Nat):Int):=by
   have hl':(up (A1++A2)).length=(w1++w :: w2).length+1:=by unfold up;rw[ae,au,au,da];lia
   have h0':∀v∈up (A1++A2),v<n/\1<=v:=λv hv=>by
    obtain⟨a,ha,rfl⟩:=jP.mp hv
    exact⟨lt a ha,by lia⟩
   have hlt:(up (A1++A2)).length<n:=by
    have n0:0<n:=by have:=(h0' _ (fv (show 0<(up (A1++A2)).length by lia))).1;lia
    have:=jI n (0 :: up (A1++A2)) (gg.mpr ⟨λh=>by have:=(h0' 0 h).2;lia,nK nd⟩) λx hx=>by
     rcases bq.mp hx with rfl | hx
     ·exact n0
     ·exact(h0' x hx).1
    rw[da] at this
    lia
   have:=T.in_le (nK nd) (λe=>by rw[e] at hl';simp at hl') (λv hv=>(h0' v hv).1) hlt
   rw[hl'] at this
   rw[show(((w1++w :: w2).length:Nat):Int)=(((w1++w :: w2).length+1:Nat):Int) - 1 by lia]
   exact this
  have hw:w<=W:=hW w (by simp)
  have g2:=gk hw (show 0<=N*(((w1++w :: w2).length:Nat):Int) - inX R (up (A1++A2)) by lia)
  have ls:(((w1++w :: w2).length:Nat):Int)=(w1.length:Int)+(w2.length:Int)+1:=by rw[au,da];lia
  have ss:(w1++w :: w2).sum=w1.sum+w2.sum+w:=by rw[qb,dz];lia
  rw[ls] at g2 ⊢
  rw[ss]
  generalize inX R (up (A1++A2))=EA at *
  generalize inX R (up A1)=E1 at *
  generalize inX R (up A2)=E2 at *
  generalize (w1.length:Int)=x1 at *
  generalize (w2.length:Int)=x2 at *
  have c1:w*(N*(x1+x2+1) - EA)=w*(N*x1)+w*(N*x2)+N*w - w*EA:=by rw[j5,fh,fh,fh,fh,jc,b8 w N]
  have c2:w*(N*x1 - E1)=w*(N*x1) - w*E1:=j5 ..
  have c3:w*(N*x2 - E2)=w*(N*x2) - w*E2:=j5 ..
  have c4:w*(EA - E1 - E2)=w*EA - w*E1 - w*E2:=by rw[j5,j5]
  have c5:N*(w1.sum+w2.sum+w)=N*w1.sum+N*w2.sum+N*w:=by rw[fh,fh]
  rw[c1] at g2
  rw[c2] at i1
  rw[c3] at i2
  rw[c4] at key
  rw[c5]
  lia
theorem aCq {c: Nat->Int}(T:Told R N n)(n3:3<=n){a b: Nat}(a1:1<=a)(an:a<n)(b1':1<=b)(bn:b<n)(ne:a≠b)(hab:c a<=c b)(hb:∀j,1<=j->j<n->j≠a->c b<=c j):
  N*(c a+c b)<=rs R λi j=>c j*b1 (i=0):=by
 have d0:=T.dg 0 (by lia)
 have e0:deg R 0=rs R λi _=>b1 (i=0):=bR λr hr=>by
  have:=T.lt r hr
  rw[cB (c:=r.2.1=0) (by lia)];lia
 have xa:inX R [0,a]<=N:=by
  have:=T.in_le (S:=[0,a]) (by simp;lia) (by simp) (λv hv=>by
   rcases bq.mp hv with rfl | hv
   ·lia
   ·rw[cq.mp hv];exact an) (by show 2<n;lia)
  rw[show(([0,a]:List Nat).length:Int) - 1=1 from rfl,jc] at this
  exact this
 have le:rs R (λi j=>(c a - c b)*b1 (i∈[0,a]/\j∈[0,a])+c b*b1 (i=0))<=rs R λi j=>c j*b1 (i=0):=aIB T.nn λr hr=>by
  have rl:=T.lt r hr
  by_cases h0:r.1=0
  ·rw[dC h0]
   by_cases ha:r.2.1=a
   ·rw[dC (show r.1∈[0,a]/\r.2.1∈[0,a] by simp[h0,ha]),ha];lia
   ·rw[cB (c:=r.1∈[0,a]/\r.2.1∈[0,a]) (λh=>by have:=h.2;simp at this;lia)]
    have:=hb r.2.1 (by lia) rl.2 ha
    lia
  ·rw[cB h0,cB (c:=r.1∈[0,a]/\r.2.1∈[0,a]) (λh=>by have h1:=h.1;have h2:=h.2;simp at h1 h2;lia)]
   lia
 rw[fT,dR,dR,<- e0,d0] at le
 have xa:rs R (λi j=>b1 (i∈[0,a]/\j∈[0,a]))<=N:=xa
 have m:=gk xa (show 0<=c b - c a by lia)
 have e1:(c a - c b)*rs R (λi j=>b1 (i∈[0,a]/\j∈[0,a])) = - (rs R (λi j=>b1 (i∈[0,a]/\j∈[0,a]))*(c b - c a)):=by rw[b8,<- AK,Int.neg_sub]
 have e2:N*(c b - c a)=N*c b - N*c a:=j5 ..
 have e3:c b*(2*N)=2*(N*c b):=by rw[dm,b8 (c b) N]
 have e4:N*(c a+c b)=N*c a+N*c b:=fh ..
 lia
theorem xS {c: Nat->Int}(n3:3<=n):∃a b,1<=a/\a<n/\1<=b/\b<n/\a≠b/\c a<=c b/\∀j,1<=j->j<n->j≠a->c b<=c j:=by
 have mi:∀(P:Nat->Prop) [DecidablePred P],(∃j,j<n/\P j)->∃j,j<n/\P j/\∀k,k<n->P k->c j<=c k:=λP _ ⟨j0,h0,p0⟩=>by
  obtain⟨e,he,hm⟩:=aEJ (C:=λe:Nat×Nat=>c e.1) (X:=((ao n).filter λj=>decide (P j)).map λj=>(j,0)) (λe=>by
   have:(j0,0)∈((ao n).filter λj=>decide (P j)).map λj=>(j,0):=b6.mpr ⟨j0,fg.mpr ⟨az.mpr h0,decide_eq_true p0⟩,rfl⟩
   rw[e] at this;cases this)
  obtain⟨j,hj,rfl⟩:=b6.mp he
  obtain⟨g1,g2⟩:=fg.mp hj
  exact⟨j,az.mp g1,of_decide_eq_true g2,λk hk pk=>hm (k,0) (b6.mpr ⟨k,fg.mpr ⟨az.mpr hk,decide_eq_true pk⟩,rfl⟩)⟩
 obtain⟨a,an,a1,am⟩:=mi (λj=>1<=j) ⟨1,by lia,bc _⟩
 obtain⟨b,bn,⟨b1',ba⟩,bm⟩:=mi (λj=>1<=j/\j≠a) (by
  by_cases h:a=1
  ·exact⟨2,by lia,by lia,by lia⟩
  ·exact⟨1,by lia,by lia,by lia⟩)
 exact⟨a,b,a1,an,b1',bn,λe=>ba e.symm,am b bn b1',λj h1 h2 h3=>bm j h2 ⟨h1,h3⟩⟩
theorem sR:∀k,k<m->∃us es,Gr us es/\us.length=k+1/\(∀x∈us,x<m)/\∀q w,(wts C es)[q]?=some w->∀x∈us.take (q+1),∀y,y<m->y∉us.take (q+1)->w<=C x y
 |0,h=>⟨[0],[], .one 0,rfl,λx hx=>by rw[cq.mp hx];exact h,λq w hq=>by cases hq⟩
 |k+1,h=>by
  obtain⟨us,es,g,ul,ult,lw⟩:=sR (C:=C) (m:=m) k (by lia)
  obtain⟨a,ha⟩:∃a,a∈us:=by
   cases us with
   |nil=>simp at ul
   |cons a us=>exact⟨a,by simp⟩
  obtain⟨y,hy,hyn⟩:∃y,y<m/\y∉us:=b9 λhn=>by
   have:=(aAX (ao m) us ji λx hx=>b9 λhx'=>hn ⟨x,az.mp hx,hx'⟩).1
   rw[br] at this
   lia
  obtain⟨e,he,hm⟩:=aEJ (C:=λe:Nat×Nat=>C e.1 e.2) (X:=us.flatMap λx=>((ao m).filter λz=>decide (z∉us)).map λz=>(x,z)) (λe=>by
   have:(a,y)∈us.flatMap λx=>((ao m).filter λz=>decide (z∉us)).map λz=>(x,z):=nt.mpr ⟨a,ha,b6.mpr ⟨y,fg.mpr ⟨az.mpr hy,decide_eq_true hyn⟩,rfl⟩⟩
   rw[e] at this;cases this)
  obtain⟨x,hx,hz⟩:=nt.mp he
  obtain⟨z,hz',rfl⟩:=b6.mp hz
  obtain⟨z1,z2⟩:=fg.mp hz'
  have z2:=of_decide_eq_true z2
  have gl:=g.len
  refine⟨us++[z],es++[(x,z)], .more g hx z2,by rw[au,oh];lia,λv hv=>?_,λq w hq v hv u hu hun=>?_⟩
  ·rcases di.mp hv with hv | hv
   ·exact ult v hv
   ·rw[cq.mp hv];exact az.mp z1
  ·have wl:(wts C es).length=es.length:=ae ..
   have we:wts C (es++[(x,z)])=wts C es++[C x z]:=by unfold wts;rw[bj];rfl
   rw[we] at hq
   by_cases c:q<es.length
   ·rw[c6 (by lia)] at hq
    rw[iz (by lia)] at hv hun
    exact lw q w hq v hv u hu hun
   ·have hq':=(ai.mp hq).1
    rw[au,oh] at hq'
    obtain rfl:q=es.length:=by lia
    rw[cw (by lia),wl,t9] at hq
    cases hq
    rw[iz (by lia),jo (by lia)] at hv hun
    exact hm (v,u) (nt.mpr ⟨v,hv,b6.mpr ⟨u,fg.mpr ⟨az.mpr hu,decide_eq_true hun⟩,rfl⟩⟩)
theorem tQ (hm:1<=m):∃us es,Gr us es/\us.Perm (ao m)/\uO C us (wts C es):=by
 obtain⟨us,es,g,ul,ult,lw⟩:=sR (C:=C) (m:=m) (m - 1) (by lia)
 have pu:(ao m).Perm us:=(aAX us (ao m) g.nd λx hx=>az.mpr (ult x hx)).2 (by rw[br];lia)
 refine⟨us,es,g,pu.symm,λk w hk x hx y hy=>lw k w hk x hx y (ult y (qh hy)) λhm=>?_⟩
 have nd:=g.nd
 rw[<- pe (k+1) us] at nd
 exact(tw.mp nd).2.2 y hm y hy rfl
theorem aOy (T:Told R N n)(n3:3<=n)(st:∀i j,i<n->j<n->t i j=t j i)(hN:0<=N)(hW:IsW t D u n W):N*W<=D*rs R t:=by
 let C:=cC t D u
 have sC:∀i j,i<n->j<n->C i j=C j i:=λi j hi hj=>by show cC t D u i j=cC t D u j i;unfold cC;rw[st i j hi hj];lia
 obtain⟨us,es,g,pu,le⟩:=tQ (C:=λi j=>C (i+1) (j+1)) (m:=n - 1) (by lia)
 obtain⟨a,b,a1,an,b1',bn,ne,hab,hb⟩:=xS (c:=λj=>C 0 j) n3
 have o:One n us es a b:=⟨g,pu,a1,an,b1',bn,ne⟩
 have gl:=g.len
 have ul:us.length=n - 1:=by rw[pu.length_eq,br]
 have wl:(wts (λi j=>C (i+1) (j+1)) es).length=es.length:=ae ..
 have ult:∀x∈us,x+1<n:=λx hx=>by have:=az.mp (pu.mem_iff.mp hx);lia
 obtain⟨Wm,hWm⟩:∃Wm,∀w∈wts (λi j=>C (i+1) (j+1)) es,w<=Wm:=by
  generalize wts (λi j=>C (i+1) (j+1)) es=l
  induction l with
  |nil=>exact⟨0,λw hw=>by cases hw⟩
  |cons a l ih=>
   obtain⟨m,hm⟩:=ih
   refine⟨max a m,λw hw=>?_⟩
   rcases bq.mp hw with rfl | hw
   ·lia
   ·have:=hm w hw;lia
 have p:=aCs (C:=C) T sC _ us _ (bc _) le (by rw[wl];lia) g.nd ult Wm hWm
 have all:inX R (up us)=N*((wts (λi j=>C (i+1) (j+1)) es).length:Int):=by
  have:=T.in_all (S:=up us) (nK g.nd) (λv=>by
   rw[jP]
   constructor
   ·rintro⟨x,hx,rfl⟩;exact⟨by lia,ult x hx⟩
   ·rintro⟨h1,h2⟩;exact⟨v - 1,pu.mem_iff.mpr (az.mpr (by lia)),by lia⟩) (by unfold up;rw[ae];lia) (by lia)
  rw[this,wl]
  congr 1
  unfold up
  rw[ae]
  lia
 rw[all,Int.sub_self,fj,Int.sub_zero] at p
 have z:=aCq (c:=λj=>C 0 j) T n3 a1 an b1' bn ne hab hb
 have split:rs R C=rsC R C (up us)+rs R λi j=>C 0 j*b1 (i=0):=by
  unfold rsC
  rw[<- fT]
  refine bR λr hr=>?_
  have rl:=T.lt r hr
  have mu:∀v,v<n->(v∈up us↔1<=v):=λv hv=>by
   rw[jP]
   exact⟨λ⟨x,_,e⟩=>by lia,λh=>⟨v - 1,pu.mem_iff.mpr (az.mpr (by lia)),by lia⟩⟩
  by_cases h0:r.1=0
  ·rw[dC h0,cB (λh=>by have:=(mu r.1 (by lia)).mp h.1;lia),h0];lia
  ·rw[cB h0,dC ⟨(mu r.1 (by lia)).mpr (by lia),(mu r.2.1 rl.2).mpr (by lia)⟩];lia
 have du:rs R (λi j=>u i+u j)=2*(N*((ao n).map u).sum):=by
  have key:∀(S:List Nat),S.Nodup->(S.map λv=>u v*deg R v).sum=rs R λi j=>(if i∈S then u i else 0)+(if j∈S then u j else 0):=λS=>by
   induction S with
   |nil=>
    intro _
    rw[show(λi j=>(if i∈([]:List Nat) then u i else 0)+(if j∈([]:List Nat) then u j else 0))=λ_ _=>(0:Int) from funext λi=>funext λj=>by simp,pD];rfl
   |cons w S ih=>
    intro nd
    obtain⟨n1,n2⟩:=gg.mp nd
    rw[cf,dz,ih n2]
    unfold deg
    rw[<- dR,<- fT]
    refine bR λr _=>?_
    have h:∀v,u w*b1 (v=w)+(if v∈S then u v else 0)=if v∈w :: S then u v else 0:=λv=>by
     by_cases c:v=w
     ·rw[dC c,c,if_neg n1,if_pos (by simp)];lia
     ·rw[cB c]
      by_cases d:v∈S
      ·rw[if_pos d,if_pos (by simp[d])];lia
      ·rw[if_neg d,if_neg (by simp[c,d])];lia
    rw[<- h r.1,<- h r.2.1,fh]
    lia
  have k:=key (ao n) ji
  have e1:((ao n).map λv=>u v*deg R v)=(ao n).map λv=>2*N*u v:=gw λv hv=>by rw[T.dg v (az.mp hv),b8]
  have e2:∀l:List Nat,(l.map λv=>2*N*u v).sum=2*(N*(l.map u).sum):=λl=>by
   induction l with
   |nil=>simp
   |cons a l ih=>rw[cf,dz,cf,dz,ih,fh,fh,cm]
  rw[e1,e2] at k
  rw[k]
  refine bR λr hr=>?_
  have rl:=T.lt r hr
  rw[if_pos (az.mpr (by lia)),if_pos (az.mpr rl.2)]
 have eC:rs R C=D*rs R t - 2*(N*((ao n).map u).sum):=by
  have:rs R C=rs R λi j=>D*t i j+(-1)*(u i+u j):=bR λr _=>by show cC t D u r.1 r.2.1=_;unfold cC;rw[b8 D];lia
  rw[this,fT,dR,dR,du]
  lia
 have w:=hW.2 us es a b o
 have w':=jv w hN
 have ec:N*co t D u n es a b=N*(wts (λi j=>C (i+1) (j+1)) es).sum+N*(C 0 a+C 0 b)+2*(N*((ao n).map u).sum):=by
  show N*((wts (λi j=>C (i+1) (j+1)) es).sum+C 0 a+C 0 b+2*((ao n).map u).sum)=_
  rw[fh,fh,fh,fh,dm N 2]
  lia
 rw[ec] at w'
 have z:N*(C 0 a+C 0 b)<=rs R λi j=>C 0 j*b1 (i=0):=z
 lia
abbrev Ct:= List Nat×Int
def ys (Y:List Ct)(f:List Nat->Int):Int:=(Y.map λe=>e.2*f e.1).sum
theorem dS:ys (e :: Y) f=e.2*f e.1+ys Y f:=rfl
theorem wH:∀{Y:List Ct},ys Y (λS=>f S+g S)=ys Y f+ys Y g
 |[]=>rfl
 |e :: Y=>by rw[dS,dS,dS,wH (Y:=Y),fh];lia
theorem aAs:∀{Y:List Ct},ys Y (λS=>c*f S)=c*ys Y f
 |[]=>(fj c).symm
 |e :: Y=>by rw[dS,dS,aAs (Y:=Y),fh,dm]
theorem zN:∀{Y:List Ct},ys Y (λ_=>0)=0
 |[]=>rfl
 |e :: Y=>by rw[dS,zN (Y:=Y),fj];rfl
theorem gV:∀{Y:List Ct},(∀e∈Y,e.2*f e.1=e.2*g e.1)->ys Y f=ys Y g
 |[],_=>rfl
 |e :: Y,k=>by rw[dS,dS,gV (Y:=Y) λx hx=>k x (ay _ hx),k e (by simp)]
theorem aLg:∀{Y:List Ct},(∀e∈Y,e.2*f e.1<=e.2*g e.1)->ys Y f<=ys Y g
 |[],_=>ij _
 |e :: Y,k=>by
  have a:=aLg (Y:=Y) λx hx=>k x (ay _ hx)
  have b:=k e (by simp)
  rw[dS,dS];lia
theorem aDU {β: Type}{f: β->List Nat->Int}{Y: List Ct}:∀{l:List β},(l.map λx=>ys Y (f x)).sum=ys Y λS=>(l.map λx=>f x S).sum
 |[]=>(zN (Y:=Y)).symm
 |x :: l=>by
  rw[cf,dz,aDU (l:=l),<- wH]
  exact gV λe _=>by rw[cf,dz]
def uY (Y:List Ct)(v:Nat):Int:=ys Y λS=>b1 (v∈S)
structure aNL (Y:List Ct)(t:Nat->Nat->Int)(D:Int)(n:Nat):Prop where
 nd:∀e∈Y,e.1.Nodup
 lt:∀e∈Y,∀v∈e.1,v<n
 ne:∀e∈Y,e.1≠[]
 z:∀e∈Y,0∈e.1->e.1=[0]
 nn:∀e∈Y,2<=e.1.length->0<=e.2
 pay:∀i j,i<j->j<n->ys Y (λS=>b1 ((i∈S)≠(j∈S)))<=t i j*D
theorem uT[DecidablePred p]:∀{l:List Nat},(l.map λv=>b1 (p v)).sum=((l.filter λv=>decide (p v)).length:Int)
 |[]=>rfl
 |v :: l=>by
  rw[cf,dz,uT (l:=l)]
  by_cases c:p v
  ·rw[dC c,il (by simpa using c),da];lia
  ·rw[cB c,ip (by simpa using c)];lia
theorem aHi {S l: List Nat}(h:l.Nodup): (l.map λv=>b1 (v∈S)).sum<=(S.length:Int):=by
 rw[uT]
 have:=(aAX (l.filter λv=>decide (v∈S)) S (qw.nodup h) λx hx=>of_decide_eq_true (fg.mp hx).2).1
 lia
theorem aEw {S: List Nat}{n: Nat}(h:S.Nodup)(k:∀v∈S,v<n): ((ao n).map λv=>b1 (v∈S)).sum=(S.length:Int):=by
 rw[uT]
 have:((ao n).filter λv=>decide (v∈S)).Perm S:=(j8 (qw.nodup ji) h).mpr λv=>by
  rw[fg,az,decide_eq_true_iff]
  exact⟨λh=>h.2,λh=>⟨k v h,h⟩⟩
 rw[this.length_eq]
theorem aLs[DecidablePred P](g:Gr vs es): ((es.map λe=>b1 (P e.1/\P e.2)).sum=0\/(es.map λe=>b1 (P e.1/\P e.2)).sum+1<=(vs.map λv=>b1 (P v)).sum)/\∀v∈vs,P v->1<=(vs.map λv=>b1 (P v)).sum:=by
 induction g with
 |one r=>exact⟨.inl rfl,λv hv pv=>by rw[cq.mp hv] at pv;rw[cf,dC pv,og,dz,Bv];decide⟩
 | @more vs es p c g hp hc ih=>
  obtain⟨i1,i2⟩:=ih
  rw[bj,bj,qb,qb,List.map_singleton,List.map_singleton,List.sum_singleton,List.sum_singleton]
  have nn:0<=(vs.map λv=>b1 (P v)).sum:=by rw[uT];lia
  refine⟨?_,λv hv pv=>?_⟩
  ·by_cases c1:P c
   ·by_cases c2:P p
    ·rw[dC ⟨c2,c1⟩,dC c1]
     have:=i2 p hp c2
     lia
    ·rw[cB (λh=>c2 h.1),dC c1];lia
   ·rw[cB (λh=>c1 h.2),cB c1];lia
  ·rcases di.mp hv with hv | hv
   ·have:=i2 v hv pv
    have:=aOs (c:=P c)
    lia
   ·rw[cq.mp hv] at pv
    rw[dC pv];lia
theorem aOW (st:∀i j,i<n->j<n->t i j=t j i)(K:aNL Y t D n)(n3:3<=n)(o:One n vs es a b):2*ys Y (λ_=>1)<=co t D (uY Y) n es a b:=by
 have both:∀i j,i<j->j<n->(-2)*ys Y (λS=>b1 (i∈S/\j∈S))<=cC t D (uY Y) i j:=λi j hij hj=>by
  have p:=K.pay i j hij hj
  have e:ys Y (λS=>b1 ((i∈S)≠(j∈S)))=uY Y i+uY Y j+(-2)*ys Y (λS=>b1 (i∈S/\j∈S)):=by
   unfold uY
   rw[<- aAs,<- wH,<- wH]
   refine gV λe _=>?_
   congr 1
   by_cases c:i∈e.1
   ·by_cases d:j∈e.1
    ·rw[dC (c:=i∈e.1/\j∈e.1) ⟨c,d⟩,dC c,dC d,cB (by simp[c,d])];rfl
    ·rw[cB (c:=i∈e.1/\j∈e.1) (λh=>d h.2),dC c,cB d,dC (by simp[c,d])];rfl
   ·by_cases d:j∈e.1
    ·rw[cB (c:=i∈e.1/\j∈e.1) (λh=>c h.1),cB c,dC d,dC (by simp[c,d])];rfl
    ·rw[cB (c:=i∈e.1/\j∈e.1) (λh=>c h.1),cB c,cB d,cB (by simp[c,d])];rfl
  show _<=t i j*D - uY Y i - uY Y j
  lia
 have sC:∀i j,i<n->j<n->cC t D (uY Y) i j=cC t D (uY Y) j i:=λi j hi hj=>by unfold cC;rw[st i j hi hj];lia
 have zero:∀j,1<=j->j<n->0<=cC t D (uY Y) 0 j:=λj h1 h2=>by
  have:=both 0 j (by lia) h2
  have e:ys Y (λS=>b1 (0∈S/\j∈S))=ys Y λ_=>0:=gV λe he=>by
   rw[cB λh=>by have:=K.z e he h.1;rw[this] at h;have:=h.2;simp at this;lia]
  rw[e,zN] at this
  lia
 have za:=zero a o.a1 o.an
 have zb:=zero b o.b1 o.bn
 have em:∀e∈es,e.1+1<n/\e.2+1<n/\e.1≠e.2:=λe he=>by
  obtain⟨x,y,z⟩:=o.gr.mem e he
  have:=az.mp (o.pm.mem_iff.mp x)
  have:=az.mp (o.pm.mem_iff.mp y)
  exact⟨by lia,by lia,z⟩
 have tree:(-2)*ys Y (λS=>(es.map λe=>b1 (e.1+1∈S/\e.2+1∈S)).sum)<=(wts (λi j=>cC t D (uY Y) (i+1) (j+1)) es).sum:=by
  rw[<- aDU]
  unfold wts
  have:∀l:List (Nat×Nat),(∀e∈l,e∈es)->(-2)*(l.map λe=>ys Y λS=>b1 (e.1+1∈S/\e.2+1∈S)).sum<=(l.map λe=>cC t D (uY Y) (e.1+1) (e.2+1)).sum:=λl=>by
   induction l with
   |nil=>intro _;exact ij _
   |cons e l ih=>
    intro h
    have i:=ih λx hx=>h x (ay _ hx)
    obtain⟨m1,m2,m3⟩:=em e (h e (by simp))
    rw[cf,cf,dz,dz,fh]
    have q:(-2)*ys Y (λS=>b1 (e.1+1∈S/\e.2+1∈S))<=cC t D (uY Y) (e.1+1) (e.2+1):=by
     rcases Nat.lt_or_gt_of_ne m3 with c | c
     ·exact both _ _ (by lia) m2
     ·rw[sC _ _ m1 m2]
      have:=both (e.2+1) (e.1+1) (by lia) m1
      rw[gV (g:=λS=>b1 (e.1+1∈S/\e.2+1∈S)) λf _=>by
       by_cases c:e.1+1∈f.1/\e.2+1∈f.1
       ·rw[dC c,dC ⟨c.2,c.1⟩]
       ·rw[cB c,cB λh=>c ⟨h.2,h.1⟩]] at this
      exact this
    lia
  exact this es λe he=>he
 have sumu:((ao n).map (uY Y)).sum=ys Y λS=>(S.length:Int):=by
  show((ao n).map λv=>ys Y λS=>b1 (v∈S)).sum=_
  rw[aDU]
  exact gV λe he=>by rw[aEw (K.nd e he) (K.lt e he)]
 have last:ys Y (λ_=>1)<=ys Y λS=>(S.length:Int)+(-1)*(es.map λe=>b1 (e.1+1∈S/\e.2+1∈S)).sum:=aLg λe he=>by
  obtain⟨c1,_⟩:=aLs (P:=λv=>v+1∈e.1) o.gr
  have c2:(vs.map λv=>b1 (v+1∈e.1)).sum<=(e.1.length:Int):=by
   have:=aHi (S:=e.1) (l:=up vs) (nK o.gr.nd)
   unfold up at this
   rw[dw] at this
   exact this
  have l1:1<=e.1.length:=by
   have:=K.ne e he
   cases h:e.1 with
   |nil=>exact absurd h this
   |cons _ _=>simp
  by_cases c:2<=e.1.length
  ·refine jv ?_ (K.nn e he c)
   lia
  ·have e1:e.1.length=1:=by lia
   obtain⟨x,hx⟩:∃x,e.1=[x]:=List.length_eq_one_iff.mp e1
   have z:(es.map λf=>b1 (f.1+1∈e.1/\f.2+1∈e.1)).sum=0:=by
    have:∀l:List (Nat×Nat),(∀f∈l,f∈es)->(l.map λf=>b1 (f.1+1∈e.1/\f.2+1∈e.1)).sum=0:=λl=>by
     induction l with
     |nil=>intro _;rfl
     |cons f l ih=>
      intro h
      rw[cf,dz,ih λx hx=>h x (ay _ hx),cB λk=>?_]
      ·rfl
      ·have:=(em f (h f (by simp))).2.2
       rw[hx] at k
       have k1:=k.1
       have k2:=k.2
       simp at k1 k2
       lia
    exact this es λf hf=>hf
   rw[z,e1]
   exact ij _
 rw[wH,aAs] at last
 show _<=(wts (λi j=>cC t D (uY Y) (i+1) (j+1)) es).sum+cC t D (uY Y) 0 a+cC t D (uY Y) 0 b+2*((ao n).map (uY Y)).sum
 rw[sumu]
 lia
theorem hk (T:Told R N n)(K:aNL Y t D n)(n3:3<=n)(st:∀i j,i<n->j<n->t i j=t j i)(hN:0<N)(eq:N*(2*ys Y λ_=>1)=D*rs R t)(hW:IsW t D (uY Y) n W):W=2*ys Y λ_=>1:=by
 have a:=aOy T n3 st (jf hN) hW
 rw[<- eq] at a
 have a:=qp a hN
 obtain⟨⟨vs,es,x,y,o,e⟩,_⟩:=hW
 have b:=aOW st K n3 o
 lia
end K39
namespace K39
open PySem L2
theorem aEn (D0:0<D):S / gd S D*D=S*(D / gd S D):=by
 obtain⟨r1,r2,r3,_⟩:=fI (i:=S) D0
 have l:S / gd S D*D=S / gd S D*(gd S D*(D / gd S D)):=by rw[<- r2]
 rw[l,<- cm,b8 (S / gd S D) (gd S D),<- r1]
def mX (x y:Int):Dt := .tup [.int x, .int y]
theorem aBT (x y:Int):dep (mX x y)<=100:=by
 unfold mX
 simp[dep,vJ]
theorem vP (h:SqT K H a [.int x, .int y]):Sh K H (mX x y) (.ref a):=⟨a,_,rfl,h,ShL.ints [x,y]⟩
theorem aEH (x y:Int):eqD (mX x y) (mX x y)=true:=by
 unfold mX
 rw[eqD,eqL,eqL,eqL,eqD,eqD]
 simp
def cR (T:List (List Int))(D:Int)(us:List Int)(n i:Nat):List Int:=(ao n).map λj=>if i≠j then at2 T i j*D - us.getD i 0 - us.getD j 0 else 0
def cT (T:List (List Int))(D:Int)(us:List Int)(n:Nat):List (List Int):=(ao n).map (cR T D us n)
theorem aCC (hi:i<n)(hj:j<n):at2 (cT T D us n) i j=if i≠j then cC (at2 T) D (λk=>us.getD k 0) i j else 0:=by
 have e:(cT T D us n).getD i []=cR T D us n i:=by
  unfold cT
  rw[aj,aw,jx hi]
  rfl
 show((cT T D us n).getD i []).getD j 0=_
 rw[e]
 unfold cR
 rw[aj,aw,jx hj]
 rfl
theorem oQ:Quad (cT T D us n) n:=⟨by unfold cT;rw[ae,br],λr hr=>by
 obtain⟨i,_,rfl⟩:=b6.mp hr
 unfold cR
 rw[ae,br]⟩
def aLF (K:aa):Sp:=λvs H Q _=>∃(v:V) (tp:Addr) (T:List (List Int)) (n:Nat) (D:Int) (us:List Int),vs=[v, .ref tp, .int D]/\Sh K H (uF T) v/\Quad T n/\Bs T n/\1<=n/\n<=8/\H tp=some (.lst (us.map V.int))/\us.length=n/\∀F ys H',Same H H'->H' F=some (.lst ys)->Rows K H' ys (cT T D us n)->Q (.ref F) H'
def aHa (K:vy)(H:Hp)(tp:Addr)(T:List (List Int))(n:Nat)(D:Int)(us:List Int)(A:Addr)(i:Nat)(σ':St)(H':Hp):Prop:=i<=n/\Same H H'/\(∃x0 x1,σ'=[x0,x1,some (.int D),some (.ref tp)])/\∃ys,H' A=some (.lst ys)/\Rows K H' ys ((ao i).map (cR T D us n))
theorem aMu:∀vs H Q E,aLF K vs H Q E->xW K { nx:=λ_ H'=>Q .non H',rt:=Q } (aW ["table","tops","bottom"] vs) H:=by
 intro vs H Q E h
 obtain⟨v,tp,T,n,D,us,rfl,hS,qT,bT,n1,n8,htp,ul,q⟩:=h
 obtain⟨a,rs,rfl,ha,hrl,hrow⟩:=id hS.tab
 have hrl:rs.length=n:=hrl.trans qT.len
 refine⟨_,rfl,a,false,rfl,⟨rs,ha⟩,λA hA=>?_⟩
 refine nT (K:=K) (b:=false) (l:=a) (xs:=rs) (aHa K H tp T n D us A) ⟨bg _,aD hA _,⟨_,_,rfl⟩,[],aA,Rows.nil⟩ (λi σ1 H1 _ ⟨_,s1,_⟩=>s1.tup ha) (λi x σ1 H1 p hx hp ⟨_,s1,⟨x0,x1,es⟩,ys,hA1,r1⟩=>?_) λσ1 H1 ⟨_,s1,_,ys,hA1,r1⟩=>?_
 ·subst es
  have hi:i<n:=by have:=(ai.mp hx).1;lia
  obtain⟨row,e1,e2,e3⟩:=qT.get hi
  obtain⟨b,g1,g2⟩:=hrow i row e1
  rw[hx] at g1
  obtain rfl:x = .ref b:=bo g1
  have mp:=aD hp (.tup [V.int (i:Int), .ref b])
  refine⟨p,_,rfl, .of aA,rfl, .int (i:Int),[.ref b],rfl, .ref b,[],rfl,rfl,?_⟩
  have s2:=s1.trans mp
  have hA2:=mp _ _ hA1
  have r2:=r1.same mp
  generalize upd H1 p (.tup [V.int (i:Int), .ref b])=G at *
  have hb:=s2.tup g2
  refine⟨_,rfl,b,false,rfl,⟨_,hb⟩,λA2 hA2'=>?_⟩
  refine bN [0,1] ((cR T D us n i).map V.int) hA2' (by rw[ae];unfold cR;rw[ae,br];lia) (Emits.cast (aDB (K:=K) (b:=false) (l:=b) (xs:=row.map V.int) (L:=λj=>[V.int (if i≠j then at2 T i j*D - us.getD i 0 - us.getD j 0 else 0)]) (by decide) (by decide) (by decide) (by show 0<5;decide) (by show 1<5;decide) (λH' sx=>(bA hA2' sx).tup hb) λj y σ2 H2 hy l2 ag2 e0 ey sx2 _=>?_) ?_) λσ2 H2 s3 hl2=>?_
  ·have hj:j<n:=by have:=(ai.mp hy).1;rw[ae,e2] at this;exact this
   have ey':y = .int (at2 T i j):=by
    rw[aw,L2.iF (by lia)] at hy
    have:at2 T i j=row.getD j 0:=by unfold at2;rw[e3]
    rw[this]
    exact(bo hy).symm
   subst ey'
   have t2:σ2[2]?=some (some (.int (i:Int))):=(ag2 2 (by decide)).trans rfl
   have t3:σ2[3]?=some (some (.int D)):=(ag2 3 (by decide)).trans rfl
   have t4:σ2[4]?=some (some (.ref tp)):=(ag2 4 (by decide)).trans rfl
   have htp2:=bA hA2' sx2 _ _ (s2 _ _ htp)
   have uat:∀k,k<n->(us.map V.int)[k]?=some (.int (us.getD k 0)):=λk hk=>by rw[aw,L2.iF (by lia)];rfl
   have bb:=bT i j hi hj
   refine cH λR hR=>⟨_,t2,_,e0, .int (i:Int), .int (j:Int),bg _,rfl,rfl,_,rfl,?_⟩
   rw[aFP]
   by_cases c:i=j
   ·refine aV (by rw[decide_eq_true c];rfl) ?_
    have:=hR H2 (Same.refl _)
    rw[if_neg (λz=>z c)] at this
    exact this
   ·refine bW (by rw[decide_eq_false c];rfl) ⟨_,ey,_,t3, .inl (.inl ⟨by lia,by lia⟩),_,t4,_,t2,ixL (j:=i) (.of htp2) (uat i hi) ⟨_,_,rfl,rfl,_,t4,_,e0,ixL (j:=j) (.of htp2) (uat j hj) ⟨_,_,rfl,rfl,?_⟩⟩⟩
    have:=hR H2 (Same.refl _)
    rw[if_pos c] at this
    exact this
  ·rw[ae,e2]
   unfold cR
   rw[dw]
   have:∀(L:List Nat) (f:Nat->V),(L.flatMap λk=>[f k])=L.map f:=λL f=>by
    induction L with
    |nil=>rfl
    |cons a L ih=>rw[ka,ih];rfl
   rw[this]
   rfl
  ·refine⟨A2,_,rfl, .inl ⟨.of hl2,λt ht=>?_⟩⟩
   have mt:=aD ht (.tup ((cR T D us n i).map V.int))
   have hA4:=mt _ _ (s3 _ _ hA2)
   refine⟨ys,hA4,bh (show ys.length<=9 by rw[r1.1,ae,br];lia) (by decide),hi,bB hA ((s2.trans s3).trans mt),⟨_,_,rfl⟩,_,aA,?_⟩
   rw[ot,bj]
   exact Rows.put (Rows.snoc ((r2.same s3).same mt) (.of aA)) hA4
 ·rw[hrl] at r1
  exact q A ys H1 s1 hA1 r1
theorem aBv (hA:H A=none)(ha:H a=some (.lst xs))(hr:Rows K H xs (prI P))(z:P.length<=100)(h2:σ.length=2)(hf:∀e,(f e).length<=100)(h:∀e σ' H',σ'[0]?=some (some (.int e.1))->σ'[1]?=some (some (.int e.2))->∀Q:List V->Hp->Prop,Q ((f e).map V.int) H'->ta σ' H' Q)(q:∀σ' H' ys,Same H H'->H' A=some (.lst ys)->Rows K H' ys (P.map f)->D.nx σ' H'):cX (Itl K a) (gE K 2 (aR (aE 0) (aR (aE 1) gX))) (bF (fF ta) A) D σ (upd H A (.lst [])):=by
 have xl:xs.length=P.length:=by rw[hr.1];unfold prI;rw[ae]
 refine aS (K:=K) (a:=a) (xs:=xs) (D:=D) (λi σ' H'=>i<=xs.length/\Same H H'/\σ'.length=2/\∃ys,H' A=some (.lst ys)/\Rows K H' ys ((P.take i).map f)) ⟨bg _,aD hA _,h2,[],aA,Rows.nil⟩ (λi σ1 H1 _ ⟨_,s1,_⟩=>SqL.of (s1 _ _ ha)) (λi x σ1 H1 hx ⟨_,s1,l1,ys,hA1,r1⟩=>?_) λσ1 H1 ⟨_,s1,l1,ys,hA1,r1⟩=>q σ1 H1 ys s1 hA1 (by rw[xl,fc] at r1;exact r1)
 have hi:i<xs.length:=(ai.mp hx).1
 obtain⟨e,b,he,rfl,hb⟩:=hU (hr.same s1) hx
 refine⟨b,_,rfl,hb,rfl, .int e.1,[.int e.2],rfl, .int e.2,[],rfl,rfl,?_⟩
 refine h e _ H1 (by rw[fk (by decide)];exact cS (by lia)) (cS (by rw[c8];lia)) _ ⟨by rw[ae];exact de (hf e) (by decide),λt ht=>?_⟩
 have mt:=aD ht (.tup ((f e).map V.int))
 have hA2:=mt _ _ hA1
 refine⟨ys,hA2,bh (show ys.length<=100 by rw[r1.1,ae,c9];lia) (by decide),hi,bB hA (s1.trans mt),by rw[c8,c8];exact l1,_,aA,?_⟩
 rw[e8,he,bj]
 exact Rows.put (Rows.snoc (r1.same mt) (.of aA)) hA2
theorem aGV (hA:H A=none)(ha:H a=some (.lst xs))(hr:Rows K H xs (prI P))(z:P.length<=100)(h2:σ.length=2)(q:∀σ' H',Same H H'->H' A=some (.lst ((P.map λe=>e.1).map V.int))->D.nx σ' H'):cX (Itl K a) (gE K 2 (aR (aE 0) (aR (aE 1) gX))) (bF (aC 0) A) D σ (upd H A (.lst [])):=by
 have xl:xs.length=P.length:=by rw[hr.1];unfold prI;rw[ae]
 refine aS (K:=K) (a:=a) (xs:=xs) (D:=D) (λi σ' H'=>i<=xs.length/\Same H H'/\σ'.length=2/\H' A=some (.lst (((P.take i).map λe=>e.1).map V.int))) ⟨bg _,aD hA _,h2,aA⟩ (λi σ1 H1 _ ⟨_,s1,_⟩=>SqL.of (s1 _ _ ha)) (λi x σ1 H1 hx ⟨_,s1,l1,hA1⟩=>?_) λσ1 H1 ⟨_,s1,l1,hA1⟩=>q σ1 H1 s1 (by rw[xl,fc] at hA1;exact hA1)
 have hi:i<xs.length:=(ai.mp hx).1
 obtain⟨e,b,he,rfl,hb⟩:=hU (hr.same s1) hx
 refine⟨b,_,rfl,hb,rfl, .int e.1,[.int e.2],rfl, .int e.2,[],rfl,rfl,?_⟩
 refine⟨.int e.1,by rw[fk (by decide)];exact cS (by lia),_,hA1,?_,hi,bB hA s1,by rw[c8,c8];exact l1,?_⟩
 ·rw[ae,ae,c9]
  exact bh (show _<=100 by lia) (by decide)
 ·rw[aA,e8,he,bj,bj]
  rfl
def hm (c:Nat->Int)(p:Nat):List Int:=[c p,(p:Int)]
theorem aKp (h:R.Perm (M.map (hm c))):∃M':List Nat,R=M'.map (hm c)/\M'.Perm M:=by
 let un:List Int->Nat:=λr=>(r.getD 1 0).toNat
 have hu:∀p:Nat,un (hm c p)=p:=λp=>by
  show((p:Int)).toNat=p
  simp
 refine⟨R.map un,?_,?_⟩
 ·rw[dw]
  symm
  have:∀r∈R,(hm c∘un) r=r:=λr hr=>by
   obtain⟨p,_,rfl⟩:=b6.mp (h.mem_iff.mp hr)
   show hm c (un (hm c p))=hm c p
   rw[hu]
  rw[gw this,Ag]
 ·have:=h.map un
  rw[dw] at this
  have e:M.map (un∘hm c)=M:=by
   have:∀p∈M,(un∘hm c) p=p:=λp _=>hu p
   rw[gw this,Ag]
  rw[e] at this
  exact this
theorem aGZ {c: Nat->Int}{M: List Nat}{a b: Nat}{r: List Nat}(nd:(a :: b :: r).Nodup)(s:((a :: b :: r).map (hm c)).Pairwise λx y=>lexL y x=false):∀x y,x∈a :: b :: r->y∈a :: b :: r->x≠y->c a+c b<=c x+c y:=by
 have h1:∀q∈b :: r,c a<=c q:=λq hq=>by
  have:=l9 s (b6.mpr ⟨q,hq,rfl⟩)
  exact aMR this
 have h2:∀q∈b :: r,c b<=c q:=λq hq=>by
  rcases bq.mp hq with rfl | hq
  ·exact ij _
  ·have:=l9 (Ah s) (b6.mpr ⟨q,hq,rfl⟩)
   exact aMR this
 intro x y hx hy hne
 rcases bq.mp hx with ex | hx'
 ·rcases bq.mp hy with ey | hy'
  ·exact absurd (ex.trans ey.symm) hne
  ·have:=h2 y hy'
   rw[ex]
   lia
 ·rcases bq.mp hy with ey | hy'
  ·have:=h2 x hx'
   rw[ey]
   lia
  ·have:=h1 x hx'
   have:=h2 y hy'
   lia
theorem aEb (i j:Nat):at2 ((C.drop 1).map λr=>r.drop 1) i j=at2 C (i+1) (j+1):=by
 unfold at2
 have e:((C.drop 1).map λr=>r.drop 1).getD i []=(C.getD (i+1) []).drop 1:=by
  rw[aj,aw,jl,aj,zd 1 i]
  cases C[i+1]? with
  |none=>rfl
  |some r=>rfl
 rw[e,aj,jl,zd 1 j]
 exact(aj ..).symm
theorem tT {us: List Int}: (ao us.length).map (λk=>us.getD k 0)=us:=by
 apply nq
 ·simp
 ·intro i h1 h2
  simp[aj,h2]
theorem aKB (n3:3<=n)(sy:Sy T n)(ul:us.length=n)(g:Gr vs es)(l:uO (at2 (((cT T D us n).drop 1).map λr=>r.drop 1)) vs (wts (at2 (((cT T D us n).drop 1).map λr=>r.drop 1)) es))(pv:vs.Perm (ao (n - 1)))(pm:(a :: b :: r).Perm ((ao (n - 1)).map (· + 1)))(srt:((a :: b :: r).map (hm λp=>at2 (cT T D us n) 0 p)).Pairwise λx y=>lexL y x=false):
  One n vs es a b/\((wts (at2 (((cT T D us n).drop 1).map λr=>r.drop 1)) es).sum+(at2 (cT T D us n) 0 a+at2 (cT T D us n) 0 b)+2*us.sum)=co (at2 T) D (λk=>us.getD k 0) n es a b/\IsW (at2 T) D (λk=>us.getD k 0) n ((wts (at2 (((cT T D us n).drop 1).map λr=>r.drop 1)) es).sum+(at2 (cT T D us n) 0 a+at2 (cT T D us n) 0 b)+2*us.sum):=by
 have mem:∀x,x∈a :: b :: r↔1<=x/\x<n:=λx=>by
  rw[pm.mem_iff,b6]
  constructor
  ·rintro⟨y,hy,rfl⟩
   have:=az.mp hy
   lia
  ·intro h
   exact⟨x - 1,az.mpr (by lia),by lia⟩
 have nd:(a :: b :: r).Nodup:=pm.nodup_iff.mpr (by
  rw[k8,mw]
  exact List.Pairwise.imp (λh e=>h (by lia)) (k8.mp ji))
 have ha:=(mem a).mp (by simp)
 have hb:=(mem b).mp (by simp)
 have hab:a≠b:=λe=>by rw[e] at nd;simp at nd
 have c0:∀x,1<=x->x<n->at2 (cT T D us n) 0 x=cC (at2 T) D (λk=>us.getD k 0) 0 x:=λx h1 h2=>by
  rw[aCC (by lia) h2,if_pos (by lia)]
 have wE:∀{ws:List Nat}{fs:List (Nat×Nat)},Gr ws fs->ws.Perm (ao (n - 1))->wts (at2 (((cT T D us n).drop 1).map λr=>r.drop 1)) fs=wts (λi j=>cC (at2 T) D (λk=>us.getD k 0) (i+1) (j+1)) fs:=λ{ws fs} g p=>by
  unfold wts
  refine gw λe he=>?_
  obtain⟨h1,h2,h3⟩:=g.mem e he
  have h1:=az.mp (p.mem_iff.mp h1)
  have h2:=az.mp (p.mem_iff.mp h2)
  rw[aEb,aCC (by lia) (by lia),if_pos (by lia)]
 have sm:us.sum=((ao n).map λk=>us.getD k 0).sum:=by rw[<- ul,tT]
 have symm:∀x y,x<n - 1->y<n - 1->at2 (((cT T D us n).drop 1).map λr=>r.drop 1) x y=at2 (((cT T D us n).drop 1).map λr=>r.drop 1) y x:=λx y hx hy=>by
  rw[aEb,aEb,aCC (by lia) (by lia),aCC (by lia) (by lia)]
  by_cases c:x=y
  ·rw[c]
  ·rw[if_pos (by lia),if_pos (by lia)]
   unfold cC
   rw[sy (x+1) (y+1) (by lia) (by lia)]
   lia
 have one:One n vs es a b:=⟨g,pv,ha.1,ha.2,hb.1,hb.2,hab⟩
 have eco:((wts (at2 (((cT T D us n).drop 1).map λr=>r.drop 1)) es).sum+(at2 (cT T D us n) 0 a+at2 (cT T D us n) 0 b)+2*us.sum)=co (at2 T) D (λk=>us.getD k 0) n es a b:=by
  unfold co
  rw[wE g pv,c0 a ha.1 ha.2,c0 b hb.1 hb.2,sm]
  lia
 refine⟨one,eco,⟨vs,es,a,b,one,eco⟩,λvs' es' a' b' o=>?_⟩
 have p1:=aAK symm g l pv o.gr o.pm
 have p2:=aGZ (M:=[]) nd srt a' b' ((mem a').mpr ⟨o.a1,o.an⟩) ((mem b').mpr ⟨o.b1,o.bn⟩) o.ne
 rw[wE o.gr o.pm] at p1
 rw[c0 a' o.a1 o.an,c0 b' o.b1 o.bn] at p2
 unfold co
 rw[<- sm]
 lia
theorem aID:prN L=prI (L.map λe=>((e.1:Int),(e.2:Int))):=by
 unfold prN prI
 rw[dw]
 rfl
def hgL (es:List (Nat×Nat))(a b:Nat):List (Nat×Nat):=(0,a) :: (0,b) :: es.map λe=>((mm e).1+1,(mm e).2+1)
def aHO (K : aa)(CN CF : Addr):Sp := λvs H Q E => ∃(v : V) (a : Addr) (T : List (List Int)) (n : Nat) (xs : List V) (P : Pr), vs = [v, .ref a] /\ Sh K H (uF T) v /\ Quad T n /\ 1 <= n /\ n <= 8 /\
  ((Bs T n /\ Sy T n /\ 3 <= n /\ SqT K H a xs /\ Rows K H xs (prI P) /\ (∃B, OkD B P /\ 0 < B /\ B.natAbs < 2 ^ 2000) /\ P.length = n /\ ∀p f tl D W vs es a1 b1 ys L H', Same H H' -> H tl = none -> H' p = some (.tup [.ref f, .ref tl]) -> H' f = some (.tup [.int (W / gd W D), .int (D / gd W D)]) -> H' tl = some (.lst ys) -> Rows K H' ys (prN L) -> L.Perm (hgL es a1 b1) -> (prN L).Pairwise (λa b => lexL b a = false) -> 0 < D -> (∀e ∈ P, e.2 ∣ D) -> One n vs es a1 b1 -> W = co (at2 T) D (λk => (jX D P).getD k 0) n es a1 b1 -> IsW (at2 T) D (λk => (jX D P).getD k 0) n W -> Q (.ref p) H') \/
   ((eN T n).all id = false /\ ∀H', Same H H' -> E (.ref CN) none H') \/ (Sy T n /\ n < 3 /\ ∀H', Same H H' -> E (.ref CF) none H'))
theorem aJc:∀vs H Q E,aHO K CN CF vs H Q E->aIx K CN CF E (aNd K) (aLF K) (aNN K) (uB K) (aNu K) (aIa K CN) { nx:=λ_ H'=>Q .non H',rt:=Q } (aW ["table","prices","bottom","tops","counts","count","ties","at_home","all_ties","whole"] vs) H:=by
 intro vs H Q E h
 obtain⟨v,a,T,n,xs,P,rfl,hS,qT,n1,n8,hh⟩:=h
 refine⟨_,rfl,v,T,n,rfl,hS,qT,n1,n8,λH0 s0=>⟨_,rfl,?_⟩⟩
 rcases hh with⟨bT,sy,n3,ha,hr,⟨B,okp,B0,Bb⟩,pl,q⟩ | ⟨nev,q⟩ | ⟨sy,n2,q⟩
 rotate_left
 ·exact bW (by show(!(eN T n).all id)=true;rw[nev];rfl) (q H0 s0)
 ·refine aV (by show(!(eN T n).all id)=false;rw[nU sy];rfl) ?_
  obtain⟨va,rs,rfl,hva,hrl,hrow⟩:=id hS.tab
  have hrl:rs.length=n:=hrl.trans qT.len
  exact⟨_,rfl,va,rs,rfl, .inr (s0.tup hva),_,_,rfl,rfl,_,rfl,bW (decide_eq_true (by lia)) (q H0 s0)⟩
 refine aV (by show(!(eN T n).all id)=false;rw[nU sy];rfl) ?_
 obtain⟨va,rs,rfl,hva,hrl,hrow⟩:=id hS.tab
 have hrl:rs.length=n:=hrl.trans qT.len
 refine⟨_,rfl,va,rs,rfl, .inr (s0.tup hva),_,_,rfl,rfl,_,rfl,aV (decide_eq_false (by lia)) ?_⟩
 refine⟨_,rfl,a,xs,P,B,rfl, .inr (s0.tup ha),hr.same s0,okp,B0,Bb,λD D0 Db Dd=>?_⟩
 refine⟨_,rfl,_,rfl,a,xs,P,D,rfl, .inr (s0.tup ha),hr.same s0,λe he=>⟨(okp e he).1,Dd e he,(okp e he).2.2⟩,by lia,D0,aZ D0 B0 Db Bb,λtp H1 s1 htp=>?_⟩
 have tl:(jX D P).length=n:=by unfold jX;rw[ae];exact pl
 generalize hus:jX D P=us at *
 have s01:=s0.trans s1
 refine⟨_,rfl,_,rfl,_,rfl, .ref va,tp,T,n,D,us,rfl,hS.same s01,qT,bT,by lia,n8,htp,tl,λC cs H2 s2 hC rC=>?_⟩
 have s02:=s01.trans s2
 have cl:cs.length=n:=by rw[rC.1,oQ.len]
 refine⟨_,rfl,_,rfl, .inl ⟨C,cs,rfl, .of hC,λC1 hC1=>?_⟩⟩
 have ecut:rO cs (some 1) none=cs.drop 1:=by
  unfold rO
  have e1:HT.sIx cs.length 0 (some 1)=1:=by
   have:HT.sIx cs.length 0 (some 1)=min 1 cs.length:=rfl
   rw[this];lia
  have e2:HT.sIx cs.length cs.length none=cs.length:=rfl
  rw[e1,e2]
  exact jo (by rw[gp];exact bc _)
 rw[ecut]
 have m1:=aD hC1 (.lst (cs.drop 1))
 have hC1':(upd H2 C1 (.lst (cs.drop 1))) C1=some (.lst (cs.drop 1)):=aA
 have hC':=m1 _ _ hC
 have rC1:=rC.same m1
 have s03:=s02.trans m1
 have htp3:=m1 _ _ (s2 _ _ htp)
 generalize upd H2 C1 (.lst (cs.drop 1))=G1 at *
 refine⟨C1,rfl, .inl ⟨⟨_, .of hC1'⟩,λA hA=>?_⟩⟩
 refine vD (vars:=[0]) (K:=K) (a:=C1) (xs:=cs.drop 1) (λi L H'=>L.length=i/\Rows K H' L ((((cT T D us n).drop 1).take i).map λr=>r.drop 1)) (by decide) (by show 0<1;decide) ⟨rfl,Rows.nil⟩ hA (λi L H' sm _ => .of (sm _ _ hC1')) (λi x σ1 H3 L D' hx l1 ag1 e0 sm1 ha1 ⟨r0,r1⟩ hD=>?_) λσ1 H3 L sm1 ha1 ⟨r0,r1⟩=>?_
 ·have hi:i<(cs.drop 1).length:=(ai.mp hx).1
  rw[gp] at hi
  rw[jl] at hx
  obtain⟨row,e1,e2,e3⟩:=(oQ (T:=T) (D:=D) (us:=us)).get (show 1+i<n by lia)
  obtain⟨b,g1,g2⟩:=rC1.2 (1+i) row e1
  rw[hx] at g1
  obtain rfl:x = .ref b:=bo g1
  refine⟨_,e0,_,rfl, .inr ⟨b,_,rfl,sm1.tup g2,λp H4 s4 hp=>?_⟩⟩
  have erow:rO (row.map V.int) (some 1) none=(row.drop 1).map V.int:=by
   unfold rO
   have e1:HT.sIx (row.map V.int).length 0 (some 1)=1:=by
    have:HT.sIx (row.map V.int).length 0 (some 1)=min 1 (row.map V.int).length:=rfl
    rw[this,ae];lia
   have e2:HT.sIx (row.map V.int).length (row.map V.int).length none=(row.map V.int).length:=rfl
   rw[e1,e2,yd]
   exact jo (by rw[gp];exact bc _)
  rw[erow] at hp
  have ha4:=s4 _ _ ha1
  refine⟨L,ha4,bh (show L.length<=9 by lia) (by decide),?_⟩
  refine hD σ1 _ (L++[.ref p]) l1 ag1 (bB hA (sm1.trans s4)) aA ⟨by rw[au,r0];rfl,?_⟩
  rw[e8,jl,e1,bj]
  exact Rows.put (Rows.snoc (r1.same s4) hp) ha4
 have dl:(cs.drop 1).length=n - 1:=by rw[gp,cl]
 rw[dl] at r0 r1
 have cdl:((cT T D us n).drop 1).length=n - 1:=by rw[gp,oQ.len]
 rw[jo (by lia)] at r1
 refine⟨A,L,rfl, .inl ⟨.of ha1,λtb htb=>?_⟩⟩
 have m2:=aD htb (.tup L)
 have hTm:Sh K (upd H3 tb (.tup L)) (uF (((cT T D us n).drop 1).map λr=>r.drop 1)) (.ref tb):=⟨tb,L,rfl, .of aA,ShL.of_rows (r1.same m2).1 (r1.same m2).2⟩
 have s04:=(s03.trans sm1).trans m2
 have htp4:=m2 _ _ (sm1 _ _ htp3)
 have hC4:=m2 _ _ (sm1 _ _ hC')
 have rC4:=(rC1.same sm1).same m2
 generalize upd H3 tb (.tup L)=G2 at *
 have qTm:Quad (((cT T D us n).drop 1).map λr=>r.drop 1) (n - 1):=⟨by rw[ae,cdl],λr hr=>by
  obtain⟨r',hr',rfl⟩:=b6.mp hr
  rw[gp,oQ.row r' (qh hr')]⟩
 have syTm:Sy (((cT T D us n).drop 1).map λr=>r.drop 1) (n - 1):=λx y hx hy=>by
  rw[aEb,aEb,aCC (by lia) (by lia),aCC (by lia) (by lia)]
  by_cases c:x=y
  ·rw[c]
  ·rw[if_pos (by lia),if_pos (by lia)]
   unfold cC
   rw[sy (x+1) (y+1) (by lia) (by lia)]
   lia
 refine⟨.ref tb,_,n - 1,rfl,hTm,qTm,by lia,by lia, .inl ⟨syTm,λtr tl' vs es zs Lt H5 s5 _ htr gr le pv htl rtl pLt _=>?_⟩⟩
 have ltz:Lt.length<=8:=by rw[pLt.length_eq,ae];have:=gr.len;rw[pv.length_eq,br] at this;lia
 refine⟨tr,_,rfl, .of htr,rfl, .int _,[.ref tl'],rfl, .ref tl',[],rfl,rfl,?_⟩
 generalize hcount:(wts (at2 (((cT T D us n).drop 1).map λr=>r.drop 1)) es).sum=count at *
 have s06:=s04.trans s5
 have htp5:=s5 _ _ htp4
 have hC5:=s5 _ _ hC4
 have rC5:=rC4.same s5
 refine⟨_,rfl,va,rs,rfl, .inr (s06.tup hva),_,_,rfl,⟨by decide,by decide,by lia,by lia⟩,λB hB=>?_⟩
 rw[hrl,show((n:Int) - 1).toNat=n - 1 by lia]
 obtain⟨row0,e1,e2,e3⟩:=(oQ (T:=T) (D:=D) (us:=us)).get (show 0<n by lia)
 obtain⟨b0,g1,g2⟩:=rC5.2 0 row0 e1
 have hmE:((ao (n - 1)).flatMap λi=>[hm (λp=>at2 (cT T D us n) 0 p) (i+1)])=((ao (n - 1)).map (· + 1)).map (hm λp=>at2 (cT T D us n) 0 p):=by
  have:∀(L:List Nat) (f:Nat->List Int),(L.flatMap λk=>[f k])=L.map f:=λL f=>by
   induction L with
   |nil=>rfl
   |cons a L ih=>rw[ka,ih];rfl
  rw[this,dw]
  rfl
 refine nJ (K:=K) [0] (((ao (n - 1)).map (· + 1)).map (hm λp=>at2 (cT T D us n) 0 p)) hB (by rw[ae,ae,br];lia) (EmR.cast (nP (lo:=1) (by decide) (by show 0<2;decide) λi σ2 H6 hi l2 ag2 e0 sx2=>?_) hmE) λσ2 H6 pre s6 hB6 r6=>?_
 ·have t1:σ2[1]?=some (some (.ref C)):=(ag2 1 (by decide)).trans rfl
  rw[show(1:Int)+(i:Int)=((i+1:Nat):Int) by lia] at e0
  have s56:=bA hB sx2
  refine vH (by show 2<=100;decide) λR hR=>⟨_,t1,ixL (j:=0) (.of (s56 _ _ hC5)) g1 ⟨_,e0,ixT (j:=i+1) (s56.tup g2) ?_ ⟨_,e0,hR⟩⟩⟩
  have:at2 (cT T D us n) 0 (i+1)=row0.getD (i+1) 0:=by
   show((cT T D us n).getD 0 []).getD (i+1) 0=_
   rw[e3]
  rw[aw,L2.iF (by lia)]
  show Option.map V.int (some (row0.getD (i+1) 0))=some (V.int (at2 (cT T D us n) 0 (i+1)))
  rw[this]
  rfl
 refine .inr ⟨B,pre,_,rfl, .inl (.of hB6),r6,(λr hr=>by obtain⟨p,_,rfl⟩:=b6.mp hr;simp[hm]),by rw[ae,ae,br];lia,λws R' pR srt _ rw' B2 hB2=>?_⟩
 obtain⟨Mp,rfl,pM⟩:=aKp pR
 have Ml:Mp.length=n - 1:=by rw[pM.length_eq,ae,br]
 obtain⟨a1,b1,rest,rfl⟩:∃a1 b1 rest,Mp=a1 :: b1 :: rest:=by
  match Mp,Ml with
  |[],h=>simp at h;lia
  |[_],h=>simp at h;lia
  |a1 :: b1 :: rest,_=>exact⟨a1,b1,rest,rfl⟩
 have wl:ws.length=n - 1:=by rw[rw'.1,ae,Ml]
 have m7:=aD hB2 (.lst ws)
 refine⟨2,rfl, .inl ⟨B2,ws,rfl, .of aA,λB3 hB3=>?_⟩⟩
 have ecut2:rO ws none (some 2)=ws.take 2:=by
  unfold rO
  have e1:HT.sIx ws.length 0 none=0:=rfl
  have e2:HT.sIx ws.length ws.length (some 2)=2:=by
   have:HT.sIx ws.length ws.length (some 2)=min 2 ws.length:=rfl
   rw[this];lia
  rw[e1,e2]
  rfl
 rw[ecut2]
 have m8:=aD hB3 (.lst (ws.take 2))
 have rH:Rows K (upd (upd H6 B2 (.lst ws)) B3 (.lst (ws.take 2))) (ws.take 2) (prI [(at2 (cT T D us n) 0 a1,(a1:Int)),(at2 (cT T D us n) 0 b1,(b1:Int))]):=by
  have r8:=(rw'.same m7).same m8
  refine⟨by rw[c9,wl];show min 2 (n - 1)=2;lia,λi row e=>?_⟩
  have hi:i<2:=(ai.mp e).1
  have e':((a1 :: b1 :: rest).map (hm λp=>at2 (cT T D us n) 0 p))[i]?=some row:=by
   match i,hi with
   |0,_=>exact e
   |1,_=>exact e
  obtain⟨b,k1,k2⟩:=r8.2 i row e'
  exact⟨b,by rw[ke hi];exact k1,k2⟩
 have hB3':(upd (upd H6 B2 (.lst ws)) B3 (.lst (ws.take 2))) B3=some (.lst (ws.take 2)):=aA
 have s08:=((s06.trans s6).trans m7).trans m8
 have htp8:=m8 _ _ (m7 _ _ (s6 _ _ htp5))
 have htl8:=m8 _ _ (m7 _ _ (s6 _ _ htl))
 have rtl8:=((rtl.same s6).same m7).same m8
 generalize upd (upd H6 B2 (.lst ws)) B3 (.lst (ws.take 2))=G8 at *
 refine⟨_,rfl,B3,rfl, .inl ⟨⟨_, .of hB3'⟩,λA1 hA1=>aBv (P:=[(at2 (cT T D us n) 0 a1,(a1:Int)),(at2 (cT T D us n) 0 b1,(b1:Int))]) (f:=λe=>[0,e.2]) hA1 hB3' rH (by show 2<=100;decide) rfl (λ_=>by show 2<=100;decide) (λe σ3 H9 k0 k1 R hR=>⟨_,k1,hR⟩) λσ3 H9 y1 s9 hA9 r9=>?_⟩⟩
 refine⟨_,rfl,tl',rfl, .inl ⟨⟨_, .of (s9 _ _ htl8)⟩,λA2 hA2=>aBv (P:=Lt.map λe=>((e.1:Int),(e.2:Int))) (f:=λe=>[e.1+1,e.2+1]) hA2 (s9 _ _ htl8) (by rw[<- aID];exact rtl8.same s9) (by rw[ae];lia) rfl (λ_=>by show 2<=100;decide) (λe σ4 H10 k0 k1 R hR=>⟨_,k0,_,k1,hR⟩) λσ4 H10 y2 s10 hA10 r10=>?_⟩⟩
 have hA9':=s10 _ _ hA9
 refine .inl ⟨A1,A2,y1,y2,rfl,rfl,hA9',hA10,?_,λA3 hA3=>?_⟩
 ·rw[r9.1,r10.1,ae,ae,ae]
  exact de (show _<=100 by simp;lia) (by decide)
 have m11:=aD hA3 (.lst (y1++y2))
 have r11:Rows K (upd H10 A3 (.lst (y1++y2))) (y1++y2) ([(at2 (cT T D us n) 0 a1,(a1:Int)),(at2 (cT T D us n) 0 b1,(b1:Int))].map (λe=>[0,e.2])++(Lt.map λe=>((e.1:Int),(e.2:Int))).map λe=>[e.1+1,e.2+1]):=(nH (r9.same s10) r10).same m11
 have hA3':(upd H10 A3 (.lst (y1++y2))) A3=some (.lst (y1++y2)):=aA
 have s0b:=((s08.trans s9).trans s10).trans m11
 have sB:=(s9.trans s10).trans m11
 have htpB:=sB _ _ htp8
 have hB3B:=sB _ _ hB3'
 have rHB:=rH.same sB
 generalize upd H10 A3 (.lst (y1++y2))=G11 at *
 refine⟨_,rfl,_,rfl,B3,rfl, .inl ⟨⟨_, .of hB3B⟩,λA4 hA4=>aGV (P:=[(at2 (cT T D us n) 0 a1,(a1:Int)),(at2 (cT T D us n) 0 b1,(b1:Int))]) hA4 hB3B rHB (by show 2<=100;decide) rfl λσ5 H12 s12 hA12=>⟨A4,_,rfl, .inl (.of hA12),?_⟩⟩⟩
 refine⟨_,rfl,tp,us,rfl, .inl (.of (s12 _ _ htpB)), .inl (.inl ⟨by decide,by decide⟩),?_⟩
 have eW:(count+([(at2 (cT T D us n) 0 a1,(a1:Int)),(at2 (cT T D us n) 0 b1,(b1:Int))].map λe=>e.1).sum+2*us.sum)=count+(at2 (cT T D us n) 0 a1+at2 (cT T D us n) 0 b1)+2*us.sum:=by
  show count+(at2 (cT T D us n) 0 a1+(at2 (cT T D us n) 0 b1+0))+2*us.sum=_
  lia
 have hW:=aKB n3 sy tl gr (by rw[<- hcount] at *;exact le) pv pM srt
 rw[hcount] at hW
 obtain⟨hOne,hco,hW⟩:=hW
 dsimp only[bC]
 rw[eW]
 generalize count+(at2 (cT T D us n) 0 a1+at2 (cT T D us n) 0 b1)+2*us.sum=W at *
 refine⟨_,rfl,_,rfl,W,D,rfl,D0,vA (aZ D0 B0 Db Bb),λf H13 s13 hf=>?_⟩
 refine⟨_,rfl, .inr ⟨A3,_,_,rfl, .inl (.of (s13 _ _ (s12 _ _ hA3'))),(r11.same s12).same s13,λr hr=>?_,?_,λys' R'' pR'' srt'' _ rR'' l4 hl4=>?_⟩⟩
 ·rcases di.mp hr with h | h
  ·obtain⟨e,_,rfl⟩:=b6.mp h;simp
  ·obtain⟨e,_,rfl⟩:=b6.mp h;simp
 ·rw[au,ae,ae,ae]
  show 2+_<64
  lia
 have m14:=aD hl4 (.lst ys')
 refine⟨show 2<=bx by decide,λp hp=>?_⟩
 have m15:=aD hp (.tup [V.ref f, .ref l4])
 have eAll:[(at2 (cT T D us n) 0 a1,(a1:Int)),(at2 (cT T D us n) 0 b1,(b1:Int))].map (λe=>[0,e.2])++(Lt.map λe=>((e.1:Int),(e.2:Int))).map (λe=>[e.1+1,e.2+1])=prN ((0,a1) :: (0,b1) :: Lt.map λe=>(e.1+1,e.2+1)):=by
  unfold prN
  show[0,(a1:Int)] :: [0,(b1:Int)] :: (Lt.map λe=>((e.1:Int),(e.2:Int))).map (λe=>[e.1+1,e.2+1])=[((0:Nat):Int),(a1:Int)] :: [((0:Nat):Int),(b1:Int)] :: (Lt.map λe:Nat×Nat=>((e.1+1,e.2+1):Nat×Nat)).map λe:Nat×Nat=>[(e.1:Int),(e.2:Int)]
  rw[dw,dw]
  rfl
 rw[eAll] at pR''
 obtain⟨L',rfl,pL'⟩:=aBM pR''
 have sAll:=((s0b.trans s12).trans s13)
 have pL2:L'.Perm (hgL es a1 b1):=by
  refine pL'.trans ?_
  unfold hgL
  refine List.Perm.cons _ (List.Perm.cons _ ?_)
  have:=pLt.map λe:Nat×Nat=>(e.1+1,e.2+1)
  rw[dw] at this
  exact this
 exact q p f l4 D W vs es a1 b1 ys' L' _ ((sAll.trans m14).trans m15) (sAll.free hl4) aA (m15 _ _ (m14 _ _ hf)) (m15 _ _ aA) ((rR''.same m14).same m15) pL2 srt'' D0 Dd hOne (by rw[hus];exact hco) (by rw[hus];exact hW)
theorem aHr {x: Nat}{gs: List Nat}:inV (.int (x:Int)) (gs.map aU)=decide (x∈gs):=by
 unfold inV
 rw[List.any_map]
 by_cases h:x∈gs
 ·rw[decide_eq_true h]
  exact qr.mpr ⟨x,h,by show((x:Int) == (x:Int))=true;simp⟩
 ·rw[decide_eq_false h]
  refine List.any_eq_false.mpr λy hy=>?_
  show ¬ ((y:Int) == (x:Int))=true
  intro e
  have:(y:Int)=(x:Int):=by simpa using e
  exact h (by rw[show x=y by lia];exact hy)
theorem aEx (gs:List Nat): (gs.map aU).all qA=true:=by
 rw[Bn]
 exact e9.mpr λ_ _=>rfl
theorem xN {m: Nat}{us: List Nat}(nd:us.Nodup)(lt:∀x∈us,x<m)(all:∀y,y<m->y∈us):us.Perm (ao m):=(j8 nd ji).mpr λa=>⟨λh=>az.mpr (lt a h),λh=>all a (az.mp h)⟩
def kP (i j:Nat):List Key:=[.inl (i:Int), .inl (j:Int)]
theorem aEF (i j:Nat): (kP i j).map kV=[aU i,aU j]:=rfl
def DC (H:Hp)(d:Addr)(C:Nat->Nat->Int)(n:Nat):Prop:=∃kvs,H d=some (.dT kvs)/\∀i j,i<j->j<n->qH kvs (kP i j)=some (.int (C i j))
def up1 (us:List Nat):List V:=(us.map (· + 1)).map aU
theorem iM: (up1 us).length=us.length:=by unfold up1;rw[ae,ae]
theorem aIk {us: List Nat}{i: Nat}{x: V}(h:(up1 us)[i]?=some x):∃u,us[i]?=some u/\x=aU (u+1):=by
 unfold up1 at h
 rw[aw,aw] at h
 cases e:us[i]? with
 |none=>rw[e] at h;cases h
 |some u=>rw[e] at h;exact⟨u,rfl,(bo h).symm⟩
theorem aLe:inV (aU (y+1)) (up1 us)=decide (y∈us):=by
 show inV (.int ((y+1:Nat):Int)) _=_
 unfold up1
 rw[aHr]
 congr 1
 apply propext
 rw[b6]
 exact⟨λ⟨z,hz,e⟩=>by have:z=y:=(by lia);exact this ▸ hz,λh=>⟨y,h,rfl⟩⟩
structure aKx (K:aa)(H:Hp)(F:Addr)(C:Nat->Nat->Int)(n:Nat)(us:List Nat)(i j:Nat):Prop where
 ex:∃(ys:List V) (R:List (List Int)),H F=some (.lst ys)/\Rows K H ys R/\R.length<=8*i+j/\(∀r∈R,∃x∈us,∃y,y<n - 1/\y∉us/\r=[C (x+1) (y+1),((y+1:Nat):Int)]) /\
  ∀a x,us[a]?=some x->∀y,y<n - 1->y∉us->(a<i\/a=i/\y<j)->[C (x+1) (y+1),((y+1:Nat):Int)]∈R
def aKY (K:aa):Sp:=λvs H Q _=>∃(pl d:Addr) (C:Nat->Nat->Int) (n:Nat),vs=[.ref pl, .ref d]/\H pl=some (.lst (up1 (ao (n - 1))))/\DC H d C n/\2<=n/\n<=8/\(∀i j,i<n->j<n->C i j=C j i) /\
 ∀us es H',Same H H'->Gr us es->us.Perm (ao (n - 1))->uO (λx y=>C (x+1) (y+1)) us (wts (λx y=>C (x+1) (y+1)) es)->Q (.int (wts (λx y=>C (x+1) (y+1)) es).sum) H'
def aGE (H:Hp)(pl d:Addr)(C:Nat->Nat->Int)(n:Nat)(F2:Addr)(k:Nat)(σ':St)(H':Hp):Prop:=∃(us:List Nat) (es:List (Nat×Nat)) (x4 x5 x6:Option V),σ'=[some (.ref pl),some (.ref d),some (.ref F2),some (.int (wts (λx y=>C (x+1) (y+1)) es).sum),x4,x5,x6]/\Same H H'/\H' F2=some (.lst (up1 us))/\Gr us es/\(∀x∈us,x<n - 1) /\
   (∀k w,(wts (λx y=>C (x+1) (y+1)) es)[k]?=some w->∀x∈us.take (k+1),∀y,y∈us.drop (k+1)\/(y<n - 1/\y∉us)->w<=C (x+1) (y+1))/\n - us.length=k
def aHc (H:Hp)(pl d:Addr)(C:Nat->Nat->Int)(n:Nat)(F2:Addr)(us:List Nat)(σ2:St)(H2:Hp):Prop:=∃(us':List Nat) (es':List (Nat×Nat)) (x4 x5 x6:Option V),σ2=[some (.ref pl),some (.ref d),some (.ref F2),some (.int (wts (λx y=>C (x+1) (y+1)) es').sum),x4,x5,x6]/\Same H H2/\H2 F2=some (.lst (up1 us'))/\Gr us' es'/\(∀x∈us',x<n - 1) /\
   (∀k w,(wts (λx y=>C (x+1) (y+1)) es')[k]?=some w->∀x∈us'.take (k+1),∀y,y∈us'.drop (k+1)\/(y<n - 1/\y∉us')->w<=C (x+1) (y+1))/\n - us'.length<n - us.length
def aGG (K:vy)(pl d:Addr)(C:Nat->Nat->Int)(n:Nat)(F2:Addr)(us:List Nat)(es:List (Nat×Nat))(F4:Addr)(G4:Hp)(i:Nat)(σ':St)(H':Hp):Prop:=i<=us.length/\(∃x5 x6,σ'=[some (.ref pl),some (.ref d),some (.ref F2),some (.int (wts (λx y=>C (x+1) (y+1)) es).sum),some (.ref F4),x5,x6])/\SameX F4 G4 H'/\aKx K H' F4 C n us i 0
def aFQ (K:vy)(pl d:Addr)(C:Nat->Nat->Int)(n:Nat)(F2:Addr)(us:List Nat)(es:List (Nat×Nat))(F4:Addr)(G4:Hp)(i u j:Nat)(σ':St)(H':Hp):Prop:=j<=n - 1/\(∃x6,σ'=[some (.ref pl),some (.ref d),some (.ref F2),some (.int (wts (λx y=>C (x+1) (y+1)) es).sum),some (.ref F4),some (aU (u+1)),x6])/\SameX F4 G4 H'/\aKx K H' F4 C n us i j
theorem aKO:∀vs H Q E,aKY K vs H Q E->fJ K { nx:=λ_ H'=>Q .non H',rt:=Q } (aW ["places","counts","inside","found","some","one","two"] vs) H:=by
 intro vs H Q E h
 obtain⟨pl,d,C,n,rfl,hpl,⟨kvs,hd,hv⟩,n2,n8,sym,q⟩:=h
 refine⟨_,rfl,ixL (j:=0) (v:=aU 1) (.of hpl) ?_ ⟨show 1<=bx by decide,λF2 hF2=>?_⟩⟩
 ·unfold up1
  rw[aw,aw,jx (by lia)]
  rfl
 have m2:=aD hF2 (.lst [aU 1])
 have hF2':(upd H F2 (.lst [aU 1])) F2=some (.lst (up1 [0])):=aA
 generalize upd H F2 (.lst [aU 1])=G at *
 have npl:pl≠F2:=aJ hpl hF2
 have nd2:d≠F2:=aJ hd hF2
 refine⟨aGE H pl d C n F2,
  ⟨n - 1,[0],[],none,none,none,rfl,m2,hF2', .one 0,(λx hx=>by rw[cq.mp hx];lia),(λk w z=>by cases z),rfl⟩,?_⟩
 rintro k σ' H1 ⟨us,es,x4,x5,x6,rfl,s1,g2,gr,ltm,lw,rfl⟩
 have lel:=gr.len
 have nd:=gr.nd
 have lus:us.length<=n - 1:=jI (n - 1) us nd ltm
 have hpl1:=s1 _ _ hpl
 have hd1:=s1 _ _ hd
 refine⟨_,rfl,F2,_,rfl, .inl (.of g2),_,rfl,pl,_,rfl, .inl (.of hpl1),_,_,rfl,rfl,_,rfl,?_⟩
 rw[iM,iM,br]
 by_cases cl:us.length<n - 1
 ·refine bW (decide_eq_true (by lia)) ?_
  refine⟨aHc H pl d C n F2 us,λσ2 H2 ⟨us',es',x4,x5,x6,e1,e2,e3,e4,e5,e6,e7⟩=>⟨_,e7,us',es',x4,x5,x6,e1,e2,e3,e4,e5,e6,rfl⟩,?_⟩
  refine⟨show 0<=bx by decide,λF4 hF4=>?_⟩
  have m4:=aD hF4 (.lst [])
  have n42:F2≠F4:=aJ g2 hF4
  have hF4':(upd H1 F4 (.lst [])) F4=some (.lst []):=aA
  have g2':=m4 _ _ g2
  have s14:=s1.trans m4
  have fr4:H F4=none:=s1.free hF4
  have hpl4:=m4 _ _ hpl1
  have hd4:=m4 _ _ hd1
  have np4:pl≠F4:=aJ hpl1 hF4
  have nd4:d≠F4:=aJ hd1 hF4
  generalize upd H1 F4 (.lst [])=G4 at *
  refine⟨_,rfl,F2,rfl, .inl ⟨⟨_, .of g2'⟩,?_⟩⟩
  refine aS (K:=K) (a:=F2) (xs:=up1 us) (aGG K pl d C n F2 us es F4 G4) ⟨bg _,⟨_,_,rfl⟩,SameX.refl _ _,⟨[],[],hF4',Rows.nil,bg _,(λr hr=>by cases hr),λa x _ y _ _ h=>by lia⟩⟩ (λi σ2 H2 _ ⟨_,_,sx,_⟩ => .of (sx _ _ n42 g2')) (λi x σ2 H2 hx ⟨_,⟨x5,x6,es2⟩,sx2,sm2⟩=>?_) λσ2 H2 ⟨_,⟨x5,x6,es2⟩,sx2,sm2⟩=>?_
  ·subst es2
   have hi:i<us.length:=by have:=(ai.mp hx).1;rwa[iM] at this
   obtain⟨u,eu,rfl⟩:=aIk hx
   have hu:=ltm u (ar eu)
   refine⟨_,rfl,pl,rfl, .inl ⟨⟨_, .of (sx2 _ _ np4 hpl4)⟩,?_⟩⟩
   refine aS (K:=K) (a:=pl) (xs:=up1 (ao (n - 1))) (aFQ K pl d C n F2 us es F4 G4 i u) ⟨bg _,⟨_,rfl⟩,sx2,sm2⟩ (λj σ2 H2 _ ⟨_,_,sx,_⟩ => .of (sx _ _ np4 hpl4)) (λj y σ3 H3 hy ⟨_,⟨x6,es3⟩,sx3,sm3⟩=>?_) λσ3 H3 ⟨_,⟨x6,es3⟩,sx3,sm3⟩=>?_
   ·subst es3
    have hj:j<n - 1:=by have:=(ai.mp hy).1;rwa[iM,br] at this
    obtain⟨y',ey,rfl⟩:=aIk hy
    rw[jx hj] at ey
    obtain rfl:j=y':=bo ey
    obtain⟨ys,R,c1,c2,c3,c4,c5⟩:=sm3.ex
    refine⟨_,rfl,_,rfl,F2,_,rfl, .inl (.of (sx3 _ _ n42 g2')),rfl,aEx _,_,rfl,?_⟩
    rw[if_pos rfl,aLe]
    by_cases cj:j∈us
    ·refine aV (by rw[decide_eq_true cj];rfl) ⟨hj,⟨_,rfl⟩,sx3,⟨ys,R,c1,c2,by lia,c4,λa x ha y hy hn h=>c5 a x ha y hy hn ?_⟩⟩
     rcases h with h | ⟨h1,h2⟩
     ·exact .inl h
     ·refine .inr ⟨h1,?_⟩
      have:y≠j:=λe=>hn (e ▸ cj)
      lia
    ·refine bW (by rw[decide_eq_false cj];rfl) ?_
     have huj:u≠j:=λe=>cj (e ▸ ar eu)
     refine⟨_,rfl, .inl ⟨rfl,_, .of c1⟩,_,rfl,_,rfl,_,rfl,_,_,rfl,?_⟩
     rw[aOX]
     refine⟨_,rfl,_,rfl,_,_,rfl,?_⟩
     rw[aKF]
     refine⟨show 2<=bx by decide,λb hb=>?_⟩
     have mb:=aD hb (.tup [V.int ((min (u+1) (j+1):Nat):Int),V.int ((max (u+1) (j+1):Nat):Int)])
     have eC:qH kvs (kP (min (u+1) (j+1)) (max (u+1) (j+1)))=some (.int (C (u+1) (j+1))):=by
      rw[hv _ _ (by lia) (by lia)]
      rcases Br (u+1) (j+1) with c | c
      ·rw[ph c,Nat.max_eq_right c]
      ·rw[Nat.min_eq_right c,Nat.max_eq_left c,sym _ _ (by lia) (by lia)]
     refine⟨d, .int (C (u+1) (j+1)),rfl,?_,_,rfl,show 2<=bx by decide,λb2 hb2=>?_⟩
     ·rw[<- eC]
      exact DGet.t (mb _ _ (sx3 _ _ nd4 hd4)) (by rw[aEF];exact aA)
     have mb2:=aD hb2 (.tup [V.int (C (u+1) (j+1)),aU (j+1)])
     have c1':=mb2 _ _ (mb _ _ c1)
     refine⟨F4,ys,_,rfl,rfl,c1',bh (show ys.length<=100 by rw[c2.1];lia) (by decide),?_⟩
     refine⟨hj,⟨_,rfl⟩,(sx3.trans (mb.trans mb2).x).trans (SameX.put _),⟨_,R++[[C (u+1) (j+1),((j+1:Nat):Int)]],aA,Rows.put (Rows.snoc ((c2.same mb).same mb2) (.of aA)) c1',by rw[au];simp;lia,λr hr=>?_,λa x ha y hy hn h=>?_⟩⟩
     ·rcases di.mp hr with hr | hr
      ·exact c4 r hr
      ·exact⟨u,ar eu,j,hj,cj,cq.mp hr⟩
     ·by_cases c:a=i/\y=j
      ·obtain⟨rfl,rfl⟩:=c
       rw[eu] at ha
       cases ha
       exact df _ (cq.mpr rfl)
      ·exact fe _ (c5 a x ha y hy hn (by lia))
   ·subst es3
    rw[iM,br] at sm3
    obtain⟨ys,R,c1,c2,c3,c4,c5⟩:=sm3.ex
    exact⟨hi,⟨_,_,rfl⟩,sx3,⟨ys,R,c1,c2,by lia,c4,λa x ha y hy hn h=>c5 a x ha y hy hn (by lia)⟩⟩
  ·subst es2
   rw[iM] at sm2
   obtain⟨ys,R,c1,c2,c3,c4,c5⟩:=sm2.ex
   obtain⟨y0,hy0,hy0n⟩:∃y0,y0<n - 1/\y0∉us:=by
    apply b9
    intro no
    have hsub:∀y,y<n - 1->y∈us:=λy hy=>b9 λh=>no ⟨y,hy,h⟩
    have:=(xN nd ltm hsub).length_eq
    rw[br] at this
    lia
   have u0:us≠[]:=λe=>by rw[e] at lel;simp at lel
   obtain⟨x0,ut,eu0⟩:=wa u0
   have hne:R≠[]:=λe=>by
    have:=c5 0 x0 (by rw[eu0];rfl) y0 hy0 hy0n (.inl (by rw[eu0];simp))
    rw[e] at this
    cases this
   refine⟨_,rfl,_,rfl, .inr ⟨F4,ys,R,rfl, .inl (.of c1),c2,hne,λi1 b1 r1 hb1 hr1 sq1 min1=>?_⟩⟩
   obtain⟨x,hx,y,hy,hyn,rfl⟩:=c4 r1 (ar hr1)
   refine ixT (j:=0) sq1 rfl ?_
   dsimp only[bC]
   have g2b:=sx2 _ _ n42 g2'
   refine⟨_,rfl, .inl ⟨rfl,_, .of g2b⟩,_,rfl, .inr ⟨F4,ys,R,rfl, .inl (.of c1),c2,hne,λi2 b2 r2 hb2 hr2 sq2 min2=>?_⟩⟩
   obtain rfl:r2=[C (x+1) (y+1),((y+1:Nat):Int)]:=uM (min1 _ (ar hr2)) (min2 _ (ar hr1))
   refine ixT (j:=1) sq2 rfl ⟨F2,up1 us,_,rfl,rfl,g2b,bh (show(up1 us).length<=9 by rw[iM];lia) (by decide),?_⟩
   have fr2:H F2=none:=hF2
   refine⟨us++[y],es++[(x,y)],some (.ref F4),x5,x6,?_,?_,?_, .more gr hx hyn,λz hz=>?_,λk w hk x' hx' y' hy'=>?_,by rw[au];simp;lia⟩
   ·have es':(wts (λx y=>C (x+1) (y+1)) (es++[(x,y)])).sum=(wts (λx y=>C (x+1) (y+1)) es).sum+C (x+1) (y+1):=by
     unfold wts
     rw[bj,qb]
     simp
    rw[es']
    rfl
   ·intro c o e
    rw[aK (aJ e fr2)]
    exact sx2 _ _ (aJ e fr4) (s14 _ _ e)
   ·rw[aA]
    unfold up1
    rw[bj,bj]
    rfl
   ·rcases di.mp hz with hz | hz
    ·exact ltm z hz
    ·rw[cq.mp hz];exact hy
   ·have lwl:(wts (λx y=>C (x+1) (y+1)) es).length=es.length:=by unfold wts;rw[ae]
    have least:∀x'∈us,∀y',y'<n - 1->y'∉us->C (x+1) (y+1)<=C (x'+1) (y'+1):=λx' hx' y' h1 h2=>by
     obtain⟨a,ha⟩:=f6.mp hx'
     have hal:=(ai.mp ha).1
     exact aMR (min1 _ (c5 a x' ha y' h1 h2 (.inl hal)))
    unfold wts at hk
    rw[bj] at hk
    by_cases ck:k<es.length
    ·rw[c6 (by rw[ae];exact ck)] at hk
     rw[iz (by lia)] at hx'
     refine lw k w hk x' hx' y' ?_
     rw[ju (by lia)] at hy'
     rcases hy' with h | ⟨h1,h2⟩
     ·rcases di.mp h with h | h
      ·exact .inl h
      ·rw[cq.mp h];exact .inr ⟨hy,hyn⟩
     ·exact .inr ⟨h1,λh=>h2 (fe _ h)⟩
    ·have ek:k=es.length:=by
      have:=(ai.mp hk).1
      rw[au,ae,ae] at this
      simp at this
      lia
     subst ek
     rw[cw (by rw[ae];exact bc _),ae,t9] at hk
     obtain rfl:C (x+1) (y+1)=w:=by simpa using hk
     rw[iz (by lia),jo (by lia)] at hx'
     rcases hy' with h | ⟨h1,h2⟩
     ·rw[ju (by lia),yw (by lia),vd] at h
      rw[cq.mp h];exact least x' hx' y hy hyn
     ·exact least x' hx' y' h1 λh=>h2 (fe _ h)
 ·refine aV (decide_eq_false (by lia)) ?_
  have pm:us.Perm (ao (n - 1)):=xN nd ltm λy hy=>b9 λh=>by
   have:=jI (n - 1) (y :: us) (gg.mpr ⟨h,nd⟩) λx hx=>by
    rcases bq.mp hx with rfl | hx
    ·exact hy
    ·exact ltm x hx
   simp at this
   lia
  exact⟨_,rfl,q us es H1 s1 gr pm λk w hk x hx y hy=>lw k w hk x hx y (.inl hy)⟩
theorem aAB {α β: Type}{f: α->β}{A B: List β}(h:A.Perm B):∀L:List α,B=L.map f->∃L':List α,L'.Perm L/\A=L'.map f:=by
 induction h with
 |nil=>intro L e;exact⟨L, .refl _,e⟩
 | @cons x A B _ ih=>
  intro L e
  match L,e with
  |y :: L,e=>
   injection e with e1 e2
   obtain⟨L',p,r⟩:=ih L e2
   exact⟨y :: L',p.cons y,by rw[r,e1];rfl⟩
 |swap x y l=>
  intro L e
  match L,e with
  |a :: b :: L,e=>
   injection e with e1 e2
   injection e2 with e3 e4
   exact⟨b :: a :: L, .swap a b L,by rw[e1,e3,e4];rfl⟩
 |trans _ _ ih1 ih2=>
  intro L e
  obtain⟨L1,p1,r1⟩:=ih2 L e
  obtain⟨L2,p2,r2⟩:=ih1 L1 r1
  exact⟨L2,p2.trans p1,r2⟩
theorem aKi {T: List (List Int)}{n: Nat}{D: Int}{us: List Int}{vs: List Nat}{es: List (Nat×Nat)}{m0 m1: Int}{r: List Int}(n3:3<=n)(sy:Sy T n)(ul:us.length=n)(g:Gr vs es)(pv:vs.Perm (ao (n - 1)))(l:uO (λx y=>cC (at2 T) D (λk=>us.getD k 0) (x+1) (y+1)) vs (wts (λx y=>cC (at2 T) D (λk=>us.getD k 0) (x+1) (y+1)) es))(pm:(m0 :: m1 :: r).Perm ((ao (n - 1)).map λj=>cC (at2 T) D (λk=>us.getD k 0) 0 (j+1)))(srt:(m0 :: m1 :: r).Pairwise (·<=·)):
  IsW (at2 T) D (λk=>us.getD k 0) n (m0+m1+(wts (λx y=>cC (at2 T) D (λk=>us.getD k 0) (x+1) (y+1)) es).sum+2*us.sum):=by
 obtain⟨L,pL,eL⟩:=aAB pm _ rfl
 obtain⟨a,b,L,rfl⟩:∃a b L',L=a :: b :: L':=by
  match L,eL with
  |[],e=>cases e
  |[_],e=>cases e
  |a :: b :: L,_=>exact⟨a,b,L,rfl⟩
 have eL:=eL
 rw[cf,cf] at eL
 injection eL with e0 e1
 injection e1 with e1 e2
 subst e0 e1 e2
 have nd:(a :: b :: L).Nodup:=pL.nodup_iff.mpr ji
 have lt:∀x∈a :: b :: L,x<n - 1:=λx hx=>az.mp (pL.mem_iff.mp hx)
 have ha:=lt a (by simp)
 have hb:=lt b (by simp)
 have hab:a≠b:=λe=>by rw[e] at nd;simp at nd
 have h1:∀x∈b :: L,cC (at2 T) D (λk=>us.getD k 0) 0 (a+1)<=cC (at2 T) D (λk=>us.getD k 0) 0 (x+1):=λx hx=>l9 srt (by
  rcases bq.mp hx with rfl | hx
  ·exact cv ..
  ·exact ay _ (b6.mpr ⟨x,hx,rfl⟩))
 have h2:∀x∈b :: L,cC (at2 T) D (λk=>us.getD k 0) 0 (b+1)<=cC (at2 T) D (λk=>us.getD k 0) 0 (x+1):=λx hx=>by
  rcases bq.mp hx with rfl | hx
  ·exact ij _
  ·exact l9 (Ah srt) (b6.mpr ⟨x,hx,rfl⟩)
 have two:∀x y,x∈a :: b :: L->y∈a :: b :: L->x≠y->cC (at2 T) D (λk=>us.getD k 0) 0 (a+1)+cC (at2 T) D (λk=>us.getD k 0) 0 (b+1)<=cC (at2 T) D (λk=>us.getD k 0) 0 (x+1)+cC (at2 T) D (λk=>us.getD k 0) 0 (y+1):=λx y hx hy hne=>by
  rcases bq.mp hx with ex | hx'
  ·rcases bq.mp hy with ey | hy'
   ·exact absurd (ex.trans ey.symm) hne
   ·have:=h2 y hy'
    rw[ex]
    lia
  ·rcases bq.mp hy with ey | hy'
   ·have:=h2 x hx'
    rw[ey]
    lia
   ·have:=h1 x hx'
    have:=h2 y hy'
    lia
 have sm:us.sum=((ao n).map λk=>us.getD k 0).sum:=by rw[<- ul,tT]
 refine⟨⟨vs,es,a+1,b+1,⟨g,pv,by lia,by lia,by lia,by lia,by lia⟩,?_⟩,λvs' es' a' b' o=>?_⟩
 ·unfold co
  rw[<- sm]
  lia
 ·have symm:∀x y,x<n - 1->y<n - 1->(λx y=>cC (at2 T) D (λk=>us.getD k 0) (x+1) (y+1)) x y=(λx y=>cC (at2 T) D (λk=>us.getD k 0) (x+1) (y+1)) y x:=λx y hx hy=>by
   show cC _ _ _ _ _=cC _ _ _ _ _
   unfold cC
   rw[sy (x+1) (y+1) (by lia) (by lia)]
   lia
  have p1:=aAK symm g l pv o.gr o.pm
  have mem:∀x,1<=x->x<n->x - 1∈a :: b :: L:=λx h1 h2=>pL.mem_iff.mpr (az.mpr (by lia))
  have oa:=o.a1
  have ob:=o.b1
  have on:=o.ne
  have p2:=two (a' - 1) (b' - 1) (mem a' o.a1 o.an) (mem b' o.b1 o.bn) (by lia)
  rw[show a' - 1+1=a' by lia,show b' - 1+1=b' by lia] at p2
  unfold co
  rw[<- sm]
  lia
def aLB (K:aa):Sp:=λvs H Q _=>∃(v:V) (a:Addr) (T:List (List Int)) (n:Nat) (xs:List V) (P:Pr),vs=[v, .ref a]/\Sh K H (uF T) v/\Quad T n/\Bs T n/\Sy T n/\3<=n/\n<=8/\SqT K H a xs/\Rows K H xs (prI P)/\(∃B,OkD B P/\0<B/\B.natAbs<2 ^ 2000)/\P.length=n/\∀p D W H',Same H H'->H' p=some (.tup [.int (W / gd W D), .int (D / gd W D)])->0<D->(∀e∈P,e.2 ∣ D)->IsW (at2 T) D (λk=>(jX D P).getD k 0) n W->Q (.ref p) H'
def aHC (a:Addr)(T:List (List Int))(c:Int)(x3:Option V)(A:Addr)(us:List Int)(d va:Addr)(ys:List V)(M:List (Nat×Nat))(H4:Hp)(i:Nat)(σ':St)(H':Hp):Prop:=i<=ys.length/\SameX d H4 H'/\(∃x6 x7,σ'=[some (.ref va),some (.ref a),some (.int c),x3,some (.ref A),some (.ref d),x6,x7,none,none])/\∃kvs,H' d=some (.dT kvs)/\kvs.length<=i/\∀e∈M.take i,qH kvs (kP e.1 e.2)=some (.int (cC (at2 T) c (λk=>us.getD k 0) e.1 e.2))
theorem aLQ:∀vs H Q E,aLB K vs H Q E->jR K (uB K) (dY K) (aKY K) { nx:=λ_ H'=>Q .non H',rt:=Q } (aW ["table","prices","by","price","paid","counts","i","j","ones","found"] vs) H:=by
 intro vs H Q E h
 obtain⟨v,a,T,n,xs,P,rfl,hS,qT,bT,sy,n3,n8,ha,hr,⟨B,okp,B0,Bb⟩,pl,q⟩:=h
 have hl:xs.length=P.length:=by rw[hr.1];unfold prI;rw[ae]
 refine⟨_,rfl,a,rfl, .inr ⟨⟨_,ha⟩,qC (K:=K) (a:=a) (xs:=xs) (λi σ' H'=>Same H H'/\i<=xs.length/\∃(c:Int) (x3:Option V),σ'=[some v,some (.ref a),some (.int c),x3,none,none,none,none,none,none]/\0<c/\c ∣ B/\∀e∈P.take i,e.2 ∣ c) ⟨Same.refl _,bg _,1,none,rfl,by decide,BG _,by simp⟩ (λi σ1 H1 _ ⟨s1,_⟩=>s1.tup ha) (λi x σ1 H1 hx ⟨s1,_,c,x3,es,c0,cb,cd⟩=>?_) λσ1 H1 ⟨s1,_,c,x3,es,c0,cb,cd⟩=>?_⟩⟩
 ·subst es
  have hi:i<xs.length:=(ai.mp hx).1
  obtain⟨e,b,he,rfl,hb⟩:=hU (hr.same s1) hx
  obtain⟨b0,b1,_⟩:=okp e (ar he)
  obtain⟨r1,r2,r3,_⟩:=fI (i:=c) b0
  have g0:=fH (i:=c) b0
  have e2s:=vA (aZ b0 B0 b1 Bb)
  refine⟨_,rfl,_,rfl,_,rfl,ixT (j:=1) hb rfl ⟨c,e.2,rfl,b0,e2s,λp H2 s2 hp=>ixT (j:=1) (.of hp) rfl ⟨.inr ⟨vA (aZ c0 B0 cb Bb),dD g0 b0 e2s⟩,s1.trans s2,hi,c*(e.2 / gd c e.2),_,rfl,qa c0 r3,?_,λx hx'=>?_⟩⟩⟩
  ·exact aAt b0 cb b1
  ·rw[e8,he] at hx'
   rcases di.mp hx' with h | h
   ·exact A8 (cd x h) (xw ..)
   ·obtain rfl:x=e:=by simpa using h
    refine⟨c / gd c x.2,?_⟩
    have:c*(x.2 / gd c x.2)=(gd c x.2*(c / gd c x.2))*(x.2 / gd c x.2):=by rw[<- r1]
    rw[this,cm,dm,<- cm,b8 (c / gd c x.2),cm,b8 (c / gd c x.2),<- cm,<- r2]
 subst es
 rw[hl] at cd
 rw[fc] at cd
 have cb:c.natAbs<2 ^ 2000:=aZ c0 B0 cb Bb
 refine⟨_,rfl,a,rfl, .inr ⟨⟨_,s1.tup ha⟩,λA hA=>?_⟩⟩
 refine qC (K:=K) (a:=a) (xs:=xs) (λi σ' H'=>i<=xs.length/\Same H1 H'/\(∃x0,σ'=[x0,some (.int c)])/\H' A=some (.lst ((jX c (P.take i)).map V.int))) ⟨bg _,aD hA _,⟨_,rfl⟩,aA⟩ (λi σ1 H2 _ ⟨_,s2,_⟩=>(s1.trans s2).tup ha) (λi x σ1 H2 hx ⟨_,s2,⟨x0,es⟩,hA2⟩=>?_) λσ1 H2 ⟨_,s2,_,hA2⟩=>?_
 ·subst es
  have hi:i<xs.length:=(ai.mp hx).1
  obtain⟨e,b,he,rfl,hb⟩:=hU (hr.same (s1.trans s2)) hx
  obtain⟨b0,b1,t1⟩:=okp e (ar he)
  refine⟨_,rfl,ixT (j:=0) hb rfl ⟨_,rfl, .inr ⟨vA t1,vA cb⟩,_,rfl,ixT (j:=1) hb rfl ⟨_,_,rfl,rfl,⟨b0,vA (aZ b0 B0 b1 Bb)⟩,_,hA2,?_,hi,bB hA s2,⟨_,rfl⟩,?_⟩⟩⟩
  ·rw[ae]
   unfold jX
   rw[ae,c9]
   exact bh (show _<=8 by lia) (by decide)
  ·rw[aA,e8,he]
   unfold jX
   rw[bj,bj]
   have:e.1*c / e.2=e.1*(c / e.2):=Int.mul_ediv_assoc _ (cd e (ar he))
   show some (HO.lst (_++[V.int (e.1*c / e.2)]))=_
   rw[this]
   rfl
 rw[hl,fc] at hA2
 have s02:=s1.trans s2
 have tl:(jX c P).length=n:=by unfold jX;rw[ae];exact pl
 generalize hus:jX c P=us at *
 have uat:∀k,k<n->(us.map V.int)[k]?=some (.int (us.getD k 0)):=λk hk=>by rw[aw,L2.iF (by lia)];rfl
 refine λd hd=>?_
 have md:=aD hd (.dT [])
 have hd':(upd H2 d (.dT [])) d=some (.dT []):=aA
 have hA3:=md _ _ hA2
 have s03:=s02.trans md
 have frd:H d=none:=s02.free hd
 have nAd:A≠d:=aJ hA2 hd
 generalize upd H2 d (.dT [])=H3 at *
 obtain⟨va,rs,rfl,hva,hrl,hrow⟩:=id hS.tab
 have hrl:rs.length=n:=hrl.trans qT.len
 refine⟨_,rfl,va,rs,rfl, .inr (s03.tup hva),n,by rw[hrl];rfl,by lia,λFp ys M H4 s4 hFp0 hFp rp gM aM zM=>?_⟩
 have yl:ys.length=M.length:=by rw[rp.1,dU]
 have nFd:Fp≠d:=λe=>by rw[e,hd'] at hFp0;cases hFp0
 refine⟨Fp,rfl, .inl ⟨⟨_, .of hFp⟩,?_⟩⟩
 refine aS (K:=K) (a:=Fp) (xs:=ys) (aHC a T c x3 A us d va ys M H4) ⟨bg _,SameX.refl _ _,⟨_,_,rfl⟩,[],s4 _ _ hd',bg _,by simp⟩ (λi σ' H' _ ⟨_,sx,_⟩ => .of (sx _ _ nFd hFp)) (λi x σ' H' hx ⟨_,sx,⟨x6,x7,es⟩,kvs,k1,k2,k3⟩=>?_) λσ' H' ⟨_,sx,⟨x6,x7,es⟩,kvs,k1,k2,k3⟩=>?_
 ·subst es
  have hi:i<ys.length:=(ai.mp hx).1
  obtain⟨e,b,he,rfl,hb⟩:=tH rp hx
  obtain⟨g1,g2⟩:=gM e (ar he)
  have hd4:=s4 _ _ hd'
  have hb':SqT K H' b [aU e.1,aU e.2]:=by
   rcases hb with(h | ⟨ob,h⟩) | h
   ·exact .inl (.inl (sx _ _ (ne_of h hd4 (λz=>nomatch z)) h))
   ·exact .inl (.inr ⟨ob,sx _ _ (ne_of h hd4 (λz=>nomatch z)) h⟩)
   ·exact .inr h
  have hS':Sh K H' (uF T) (.ref va):=hS.same λc o e=>sx _ _ (aJ e frd) (s4 _ _ (s03 _ _ e))
  have hA':H' A=some (.lst (us.map V.int)):=sx _ _ nAd (s4 _ _ hA3)
  refine⟨b,_,rfl,hb',rfl,aU e.1,[aU e.2],rfl,aU e.2,[],rfl,rfl,?_⟩
  have bb:=bT e.1 e.2 (by lia) g2
  refine pE (t:=0) (si:=6) (sj:=7) rfl rfl rfl hS' qT (by lia) g2 ⟨_,rfl, .inl (.inl ⟨by lia,by lia⟩),_,rfl,_,rfl,ixL (j:=e.1) (.of hA') (uat _ (by lia)) ⟨_,_,rfl,rfl,_,rfl,_,rfl,ixL (j:=e.2) (.of hA') (uat _ g2) ⟨_,_,rfl,rfl,?_⟩⟩⟩
  refine⟨_,rfl,_,rfl,_,rfl,show 2<=bx by decide,λkb hkb=>?_⟩
  have mk:=aD hkb (.tup [aU e.1,aU e.2])
  have nkd:d≠kb:=aJ k1 hkb
  refine⟨d,_,rfl,DPut.t (k:=kP e.1 e.2) (mk _ _ k1) (by rw[aEF];exact aA) (bh (show kvs.length<=100 by lia) (by decide)),hi,λc o hc e=>?_,⟨_,_,rfl⟩,_,aA,?_,λe' he'=>?_⟩
  ·rw[aK hc]
   exact mk _ _ (sx _ _ hc e)
  ·have:=iR kvs (kP e.1 e.2) (V.int (at2 T e.1 e.2*c - us.getD e.1 0 - us.getD e.2 0))
   lia
  ·rw[aGO]
   by_cases ce:kP e'.1 e'.2=kP e.1 e.2
   ·rw[if_pos ce]
    unfold kP at ce
    simp at ce
    rw[show e'.1=e.1 by lia,show e'.2=e.2 by lia]
    rfl
   ·rw[if_neg ce]
    rw[e8,he] at he'
    rcases di.mp he' with h | h
    ·exact k3 e' h
    ·obtain rfl:e'=e:=by simpa using h
     exact absurd rfl ce
 subst es
 rw[yl,fc] at k3
 have dc:DC H' d (cC (at2 T) c (λk=>us.getD k 0)) n:=⟨kvs,k1,λi j h1 h2=>k3 (i,j) (aM i j h1 h2)⟩
 have s05:Same H H':=λc o e=>sx _ _ (aJ e frd) (s4 _ _ (s03 _ _ e))
 have hA5:H' A=some (.lst (us.map V.int)):=sx _ _ nAd (s4 _ _ hA3)
 refine⟨_,rfl,va,rs,rfl, .inr (s05.tup hva),_,_,rfl,⟨by decide,by decide,by lia,by lia⟩,λB hB=>?_⟩
 rw[hrl,show((n:Int) - 1).toNat=n - 1 by lia]
 refine bN [0] (((ao (n - 1)).map λj=>cC (at2 T) c (λk=>us.getD k 0) 0 (j+1)).map V.int) hB (by rw[ae,ae,br];lia) (Emits.cast (gS (lo:=1) (L:=λj=>[V.int (cC (at2 T) c (λk=>us.getD k 0) 0 (j+1))]) (by decide) (by show 0<2;decide) λj σ2 H6 hj l2 ag2 e0 sx2 _=>?_) ?_) λσ2 H6 s6 hB6=>?_
 ·have t1:σ2[1]?=some (some (.ref d)):=(ag2 1 (by decide)).trans rfl
  rw[show(1:Int)+(j:Int)=((j+1:Nat):Int) by lia] at e0
  have s56:=bA hB sx2
  refine cH λR hR=>⟨_,t1,_,e0,show 2<=bx by decide,λkb hkb=>?_⟩
  have mk:=aD hkb (.tup [.int 0,aU (j+1)])
  refine⟨d, .int (cC (at2 T) c (λk=>us.getD k 0) 0 (j+1)),rfl,?_,hR _ mk⟩
  rw[<- k3 (0,j+1) (aM 0 (j+1) (by lia) (by lia))]
  exact DGet.t (mk _ _ (s56 _ _ k1)) (by rw[aEF];exact aA)
 ·rw[dw]
  have:∀(L:List Nat) (f:Nat->V),(L.flatMap λk=>[f k])=L.map f:=λL f=>by
   induction L with
   |nil=>rfl
   |cons a L ih=>rw[ka,ih];rfl
  rw[this]
  rfl
 refine .inl ⟨B,_,rfl, .inl (.of hB6),by rw[ae,br];lia,λms pms srt B2 hB2=>?_⟩
 have ml:ms.length=n - 1:=by rw[pms.length_eq,ae,br]
 obtain⟨m0,m1,rest,rfl⟩:∃m0 m1 rest,ms=m0 :: m1 :: rest:=by
  match ms,ml with
  |[],h=>simp at h;lia
  |[_],h=>simp at h;lia
  |a1 :: b1 :: rest,_=>exact⟨a1,b1,rest,rfl⟩
 have m7:=aD hB2 (.lst ((m0 :: m1 :: rest).map V.int))
 have hB2':(upd H6 B2 (.lst ((m0 :: m1 :: rest).map V.int))) B2=some (.lst ((m0 :: m1 :: rest).map V.int)):=aA
 have s07:=(s05.trans s6).trans m7
 have hA7:=m7 _ _ (s6 _ _ hA5)
 have hd7:=m7 _ _ (s6 _ _ k1)
 generalize upd H6 B2 (.lst ((m0 :: m1 :: rest).map V.int))=H7 at *
 refine⟨_,rfl,ixL (j:=0) (.of hB2') rfl ⟨_,rfl,ixL (j:=1) (.of hB2') rfl ?_⟩⟩
 dsimp only[bC]
 refine⟨_,rfl,va,rs,rfl, .inr (s07.tup hva), .inr ⟨_,_,rfl,λpr hpr=>?_⟩⟩
 rw[hrl]
 have m8:=aD hpr (.rng 1 (n:Int))
 refine .inr ⟨pr,1,_,rfl,aA,⟨by lia,by lia,by lia,by lia,by lia⟩,λF3 hF3=>?_⟩
 have er:(aFg 1 (n:Int)).map V.int=up1 (ao (n - 1)):=by
  unfold aFg up1
  rw[dw,dw,show((n:Int) - 1).toNat=n - 1 by lia]
  refine gw λi _=>?_
  show V.int (1+(i:Int))=V.int ((i+1:Nat):Int)
  congr 1
  lia
 rw[er]
 have m9:=aD hF3 (.lst (up1 (ao (n - 1))))
 have s79:=m8.trans m9
 refine⟨_,rfl,F3,d,cC (at2 T) c (λk=>us.getD k 0),n,rfl,aA,⟨kvs,s79 _ _ hd7,λi j h1 h2=>k3 (i,j) (aM i j h1 h2)⟩,by lia,n8,λi j hi hj=>?_,λus' es' H10 s10 g10 p10 l10=>?_⟩
 ·unfold cC
  rw[sy i j hi hj]
  lia
 have hA10:=s10 _ _ (s79 _ _ hA7)
 have s0A:=(s07.trans s79).trans s10
 refine⟨_,rfl,_,rfl,A,us,rfl, .inl (.of hA10), .inl (.inl ⟨by decide,by decide⟩),?_⟩
 dsimp only[bC]
 have hW:=aKi n3 sy tl g10 p10 l10 pms srt
 refine⟨_,rfl,_,c,rfl,c0,vA cb,λp H11 s11 hp=>?_⟩
 exact q p c _ H11 (s0A.trans s11) hp c0 cd (by rw[hus];exact hW)
def roT (T:List (List Int))(n:Nat)(h:Nat->Nat):List Rw:=(ao (mN n)).map λp=>((prA n p).1,(prA n p).2,lam T n h p)
def yoT (D:Int)(W:Cts):List Ct:=W.map λe=>(e.1,e.2.1*(D / e.2.2))
theorem nS:∀m:Nat,rs ((ao m).map g) f=Sh.sumN m λp=>(g p).2.2*f (g p).1 (g p).2.1
 |0=>rfl
 |m+1=>by
  have e:∀A B:List Rw,rs (A++B) f=rs A f+rs B f:=λA B=>by unfold rs;rw[bj,qb]
  rw[ot,bj,e,nS m]
  show Sh.sumN m _+((g m).2.2*f (g m).1 (g m).2.1+0)=Sh.sumN m _+_
  rw[ub]
theorem aIv: (if prt s i j=true then x else 0)=x*b1 ((i∈s)≠(j∈s)):=by
 unfold prt
 by_cases c:i∈s
 ·by_cases d:j∈s
  ·rw[if_neg (by simp[c,d]),cB (by simp[c,d]),fj]
  ·rw[if_pos (by simp[c,d]),dC (by simp[c,d]),jc]
 ·by_cases d:j∈s
  ·rw[if_pos (by simp[c,d]),dC (by simp[c,d]),jc]
  ·rw[if_neg (by simp[c,d]),cB (by simp[c,d]),fj]
theorem aHZ:aFC (roT T n h) s=zJ T n h s:=by
 unfold aFC roT zJ
 rw[nS]
 exact Sh.sumN_congr λp _=>aIv.symm
theorem yL:∀n:Nat,(ao n).filter f∈bG n
 |0=>by simp[bG]
 |n+1=>by
  rw[ot,kl,bG]
  have ih:=yL (f:=f) n
  by_cases c:f n=true
  ·rw[il c,List.filter_nil]
   exact df _ (b6.mpr ⟨_,ih,rfl⟩)
  ·rw[ip c,List.filter_nil,iq]
   exact fe _ ih
theorem aGj (n3:3<=n)(n6:n<=6)(h0:0<((ao n).filter f).length)(h1:((ao n).filter f).length<n): (ao n).filter f∈cW n:=by
 rw[<- of_decide_eq_true (aJf n n3 n6)]
 refine fg.mpr ⟨yL n,?_⟩
 unfold sX
 rw[decide_eq_true h0,decide_eq_true h1];rfl
theorem aOR (n3:3<=n)(n6:n<=6)(t:Top T n h):Told (roT T n h) (dT T n h) n:=by
 have lt:∀r∈roT T n h,r.1<r.2.1/\r.2.1<n:=λr hr=>by
  obtain⟨p,hp,rfl⟩:=b6.mp hr
  exact aJt n3 n6 (az.mp hp)
 refine⟨λr hr=>?_,lt,λv hv=>?_,λS nd ne hS hl=>?_⟩
 ·obtain⟨p,hp,rfl⟩:=b6.mp hr
  exact t.lam (az.mp hp)
 ·have e:deg (roT T n h) v=aFC (roT T n h) [v]:=bR λr hr=>by
   have:=lt r hr
   by_cases c:r.1=v
   ·rw[dC c,cB (c:=r.2.1=v) (by lia),dC (by simp[c];lia)];rfl
   ·by_cases d:r.2.1=v
    ·rw[cB c,dC d,dC (by simp[c,d])];rfl
    ·rw[cB c,cB d,cB (by simp[c,d])];rfl
  have hs:[v]∈cW n:=of_decide_eq_true (e9.mp (aLy n n3 n6) v (az.mpr hv))
  rw[e,aHZ]
  exact(aDD n3 n6 t hs).2 rfl
 ·have mem:∀v,v∈(ao n).filter (λv=>decide (v∈S))↔v∈S:=λv=>by
   rw[fg,az,decide_eq_true_iff]
   exact⟨λh=>h.2,λh=>⟨hS v h,h⟩⟩
  have pm:((ao n).filter (λv=>decide (v∈S))).Perm S:=(j8 (qw.nodup ji) nd).mpr mem
  have hs:=aGj n3 n6 (f:=λv=>decide (v∈S)) (by rw[pm.length_eq];exact vg.mpr ne) (by rw[pm.length_eq];exact hl)
  have e:aFC (roT T n h) S=aFC (roT T n h) ((ao n).filter (λv=>decide (v∈S))):=bR λr _=>by
   have a:=propext (mem r.1)
   have b:=propext (mem r.2.1)
   by_cases c:(r.1∈S)≠(r.2.1∈S)
   ·rw[dC c,dC (by rw[a,b];exact c)]
   ·rw[cB c,cB (by rw[a,b];exact c)]
  rw[e,aHZ]
  exact(aDD n3 n6 t hs).1
theorem aBH {D: Int}{f: List Nat->Bool}{g: List Nat->Int}(hg:∀s,g s=if f s=true then 1 else 0):∀W:Cts,ys (yoT D W) g=cF D ((W.filter λe=>f e.1).map (·.2))
 |[]=>rfl
 |e :: W=>by
  show e.2.1*(D / e.2.2)*g e.1+ys (yoT D W) g=_
  rw[aBH hg W,hg]
  by_cases c:f e.1=true
  ·rw[if_pos c,jc,il (by exact c)];rfl
  ·rw[if_neg c,fj,kd,ip (by exact c)]
def zB (n:Nat):Bool:=(ao (kN n)).all λj=>okS n (stA n j).1
theorem z_b:∀n,3<=n->n<=6->zB n=true:=n36 (by decide+kernel) (by decide+kernel) (by decide+kernel) (by decide+kernel)
def paB (n:Nat):Bool:=(ao n).all λj=>(ao j).all λi=>(ao (mN n)).any λp=>decide (prA n p=(i,j))
theorem aPe:∀n,3<=n->n<=6->paB n=true:=n36 (by decide+kernel) (by decide+kernel) (by decide+kernel) (by decide+kernel)
theorem aJs (n3:3<=n)(n6:n<=6)(hij:i<j)(hj:j<n):∃p,p<mN n/\prA n p=(i,j):=by
 have a:=e9.mp (e9.mp (aPe n n3 n6) j (az.mpr hj)) i (az.mpr hij)
 obtain⟨p,hp,e⟩:=qr.mp a
 exact⟨p,az.mp hp,of_decide_eq_true e⟩
theorem aOY (n3:3<=n)(n6:n<=6)(ok:OkT T n h)(pW:W.Perm (vM T n h)):aNL (yoT (dT T n h) W) (at2 T) (dT T n h) n:=by
 have d0:0<dT T n h:=ok.d0
 have up:∀{P:Ct->Prop},(∀e∈W,P (e.1,e.2.1*(dT T n h / e.2.2)))->∀e∈yoT (dT T n h) W,P e:=λhP e he=>by
  obtain⟨e0,he0,rfl⟩:=b6.mp he
  exact hP e0 he0
 have ck:=λe (he:e∈W)=>aJD n3 n6 ok e (pW.mem_iff.mp he)
 refine⟨up λe he=>?_,up λe he v hv=>?_,up λe he=>?_,up λe he hz=>?_,up λe he hl=>?_,λi j hij hj=>?_⟩
 ·exact(aDj (ck e he).1).imp λh=>dt h
 ·exact(aAC (ck e he).1).2 v hv
 ·exact λz=>by
   have:=(aFJ n3 n6 (ck e he).1).1
   have z:e.1=[]:=z
   rw[z] at this;simp at this
 ·obtain⟨i,hi,rfl⟩:=b6.mp (pW.mem_iff.mp he)
  have h2:=(fg.mp hi).2
  unfold sH at h2
  rw[dn] at h2
  have:=e9.mp (z_b n n3 n6) (h i) (az.mpr (of_decide_eq_true h2.1))
  unfold okS at this
  rw[o9] at this
  rcases this with a | a
  ·exact vc a
  ·rw[dn] at a
   have a1:=a.1
   have hz:0∈(stA n (h i)).1:=hz
   simp[hz] at a1
 ·have:=(ck e he).2.2.2 hl
  refine i6 (jf this) (Int.ediv_nonneg (jf d0) ?_)
  have:=(b6.mp (pW.mem_iff.mp he))
  obtain⟨i,_,rfl⟩:=this
  exact jf (iA d0)
 ·obtain⟨p,hp,e⟩:=aJs n3 n6 hij hj
  have w:=aKS n3 n6 ok pW hp
  rw[e] at w
  rw[aBH (f:=λs=>prt s i j) λs=>by
   have:=aIv (s:=s) (i:=i) (j:=j) (x:=1)
   rw[this,nj]]
  exact w
theorem aPg (D:Int)(v:Nat):uY (yoT D W) v=cF D (inW v W):=by
 unfold uY inW
 exact aBH (f:=λs=>s.contains v) (λs=>by
  by_cases c:v∈s
  ·rw[dC c,if_pos (by simpa using c)]
  ·rw[cB c,if_neg (by simpa using c)]) W
theorem aBk (n3:3<=n)(n6:n<=6)(t:Top T n h)(ok:OkT T n h)(pW:W.Perm (vM T n h)):rs (roT T n h) (at2 T)=RT T n h (mN n) (NN n)/\2*ys (yoT (dT T n h) W) (λ_=>1)=RT T n h (mN n) (NN n):=by
 constructor
 ·unfold roT
  rw[nS]
  have e2:RT T n h (mN n) (NN n)=Sh.sumN (mN n) λp=>wyT T n p*RT T n h (mN n) (kN n+p):=Sh.last_worth
  rw[e2]
  refine Sh.sumN_congr λp hp=>?_
  unfold wyT
  rw[if_pos hp,b8]
 ·rw[<- aIE ok pW,aBH (f:=λ_=>true) λs=>by rw[if_pos rfl]]
  rw[qx.mpr λ_ _=>rfl]
theorem aCI (n3:3<=n)(n6:n<=6)(t:Top T n h)(ok:OkT T n h)(sy:Sy T n)(pW:W.Perm (vM T n h))(D0:0<D)(dv:∀e∈eQ T n h W,e.2 ∣ D)(hW:IsW (at2 T) D (λk=>(jX D (eQ T n h W)).getD k 0) n W1):W1*dT T n h=RT T n h (mN n) (NN n)*D:=by
 have d0:0<dT T n h:=ok.d0
 obtain⟨⟨vs,es,a,b,o,e⟩,low⟩:=hW
 have hu:∀i,i<n->1*dT T n h*(λk=>(jX D (eQ T n h W)).getD k 0) i=1*D*uY (yoT (dT T n h) W) i+0:=λi hi=>by
  rw[nj,nj,ub,aPg]
  show dT T n h*(jX D (eQ T n h W)).getD i 0=_
  have hb:(eQ T n h W)[i]?=some (lo (cF (dT T n h) (inW i W)) (dT T n h)):=by
   unfold eQ
   rw[aw,jx hi];rfl
  have hm:=dv _ (ar hb)
  have et:(jX D (eQ T n h W)).getD i 0=(lo (cF (dT T n h) (inW i W)) (dT T n h)).1*(D / (lo (cF (dT T n h) (inW i W)) (dT T n h)).2):=by
   unfold jX
   rw[aj,aw,hb];rfl
  rw[et]
  have cr:(lo (cF (dT T n h) (inW i W)) (dT T n h)).1*dT T n h=cF (dT T n h) (inW i W)*(lo (cF (dT T n h) (inW i W)) (dT T n h)).2:=aEn d0
  generalize lo (cF (dT T n h) (inW i W)) (dT T n h)=q at *
  rw[<- cm,b8 (dT T n h),cr,cm,uq hm,b8]
 have cs:∀vs es a b,One n vs es a b->dT T n h*co (at2 T) D (λk=>(jX D (eQ T n h W)).getD k 0) n es a b=D*co (at2 T) (dT T n h) (uY (yoT (dT T n h) W)) n es a b:=λvs es a b o=>by
  have:=aGd (D:=dT T n h) (D':=D) (u:=uY (yoT (dT T n h) W)) (u':=λk=>(jX D (eQ T n h W)).getD k 0) (g:=1) (z:=0) (t:=at2 T) n3 o hu
  rw[nj,nj] at this
  exact this
 have hW':IsW (at2 T) (dT T n h) (uY (yoT (dT T n h) W)) n (co (at2 T) (dT T n h) (uY (yoT (dT T n h) W)) n es a b):=by
  refine⟨⟨vs,es,a,b,o,rfl⟩,λvs' es' a' b' o'=>?_⟩
  have l:=low vs' es' a' b' o'
  rw[e] at l
  have l:=jv l (jf d0)
  rw[cs vs es a b o,cs vs' es' a' b' o'] at l
  exact qp l D0
 obtain⟨w1,w2⟩:=aBk n3 n6 t ok pW
 have k:=hk (aOR n3 n6 t) (aOY n3 n6 ok pW) n3 (λi j hi hj=>sy i j hi hj) d0 (by rw[w1,w2]) hW'
 rw[e,b8,cs vs es a b o,k,w2,b8]
theorem aMG (n3:3<=n)(st:∀i j,i<n->j<n->t i j=t j i):∃W,IsW t D u n W:=by
 obtain⟨us,es,g,pu,le⟩:=tQ (C:=λi j=>cC t D u (i+1) (j+1)) (m:=n - 1) (by lia)
 obtain⟨a,b,a1,an,b1',bn,ne,hab,hb⟩:=xS (c:=λj=>cC t D u 0 j) n3
 have hab:cC t D u 0 a<=cC t D u 0 b:=hab
 have hb:∀j,1<=j->j<n->j≠a->cC t D u 0 b<=cC t D u 0 j:=hb
 refine⟨_,⟨us,es,a,b,⟨g,pu,a1,an,b1',bn,ne⟩,rfl⟩,λvs es' x y o=>?_⟩
 have p:=aAK (C:=λi j=>cC t D u (i+1) (j+1)) (m:=n - 1) (λi j hi hj=>by show cC t D u (i+1) (j+1)=cC t D u (j+1) (i+1);unfold cC;rw[st (i+1) (j+1) (by lia) (by lia)];lia) g le pu o.gr o.pm
 have two:cC t D u 0 a+cC t D u 0 b<=cC t D u 0 x+cC t D u 0 y:=by
  have hne:=o.ne
  by_cases c:x=a
  ·have:=hb y o.b1 o.bn (λz=>hne (c.trans z.symm));rw[c];lia
  ·by_cases d:y=a
   ·have:=hb x o.a1 o.an c;rw[d];lia
   ·have:=hb x o.a1 o.an c
    have:=hb y o.b1 o.bn d
    lia
 unfold co
 lia
theorem aBs {T: List (List Int)}{n: Nat}{h: Nat->Nat}{W: Cts}{h': Nat->Nat}(n3:3<=n)(n6:n<=6)(t:Top T n h)(ok:OkT T n h)(ok':OkT T n h')(t':Top T n h')(sy:Sy T n)(pW:W.Perm (vM T n h')):dT T n h*RT T n h' (mN n) (NN n)<=dT T n h'*RT T n h (mN n) (NN n):=by
 have st:∀i j,i<n->j<n->at2 T i j=at2 T j i:=λi j hi hj=>sy i j hi hj
 obtain⟨w,hw⟩:=aMG (t:=at2 T) (D:=dT T n h') (u:=uY (yoT (dT T n h') W)) n3 st
 have a:=aOy (aOR n3 n6 t) n3 st (jf ok.d0) hw
 obtain⟨⟨vs,es,x,y,o,e⟩,_⟩:=hw
 have b:=aOW st (aOY n3 n6 ok' pW) n3 o
 rw[<- e,(aBk n3 n6 t' ok' pW).2] at b
 have hr:rs (roT T n h) (at2 T)=RT T n h (mN n) (NN n):=by
  unfold roT
  rw[nS]
  have e2:RT T n h (mN n) (NN n)=Sh.sumN (mN n) λp=>wyT T n p*RT T n h (mN n) (kN n+p):=Sh.last_worth
  rw[e2]
  refine Sh.sumN_congr λp hp=>?_
  unfold wyT
  rw[if_pos hp,b8]
 rw[hr] at a
 exact Bu (jv b (jf ok.d0)) a
theorem aBt (hD:D.natAbs<2 ^ 400)(D0:0<D):∀P:Pr,(∀e∈P,0<e.2/\e.1.natAbs<2 ^ 900)->(cF D P).natAbs<=P.length*2 ^ 1300
 |[],_=>by simp[cF]
 |e :: P,hP=>by
  have ih:=aBt hD D0 P λx hx=>hP x (ay _ hx)
  obtain⟨h0,h1⟩:=hP e (by simp)
  have a:=yC h1 (dD h0 D0 hD)
  have e1:cF D (e :: P)=e.1*(D / e.2)+cF D P:=rfl
  rw[e1,da,Az,Bz]
  have a:(e.1*(D / e.2)).natAbs<2 ^ 1300:=a
  generalize (2:Nat) ^ 1300=M at *
  lia
theorem aJM (n3:3<=n)(n6:n<=6)(bT:Bs T n)(ok:OkT T n h)(pW:W.Perm (vM T n h)):OkD (dT T n h) (eQ T n h W):=λe he=>by
 obtain⟨i,_,rfl⟩:=b6.mp he
 refine⟨iA ok.d0,tU ok.d0,oA ok.d0 ?_⟩
 obtain⟨c15,ck⟩:=aEg n3 n6 bT ok
 have wl:(inW i W).length<=15:=by
  unfold inW
  rw[ae]
  exact de (f9 _ _) (by rw[pW.length_eq];exact c15)
 have:=aBt (lR n3 n6 bT h) ok.d0 (inW i W) λx hx=>by
  unfold inW at hx
  obtain⟨y,hy,rfl⟩:=b6.mp hx
  obtain⟨a,_,b⟩:=ck y (pW.mem_iff.mp (fg.mp hy).1)
  exact⟨a,b⟩
 refine bh this (bh (ur _ wl) ?_)
 rw[show(2:Nat) ^ 2000=2 ^ 700*2 ^ 1300 from(BF 2 700 1300)]
 exact vz (cg (show 15<2 ^ 4 by decide) (ff (by decide) (by decide))) (Nat.pow_pos (by decide))
def aGc (K:aa):Sp:=λvs H Q _=>∃(a:Addr) (ns:List Int),vs=[.ref a]/\SqL K H a (ns.map V.int)/\ns.length<=63/\∀H',Q (.bl true) H'
def aGM (a p:Addr)(i:Nat)(v:V)(wp fl cl:Addr)(H3:Hp)(_:Nat)(σ':St)(H':Hp):Prop:=Same H3 H'/\∃x7 x8,σ'=[some (.ref a),some (.ref p),some (.int (0+(i:Int))),some v,some (.ref wp),some (.ref fl),some (.ref cl),x7,x8]
theorem aLr:∀vs H Q E,aGc K vs H Q E->aMJ K (aOH K) (aLB K) (aIl K) (aNR K) (aIs K) (aOQ K C1 C2 C3) (aHO K C1 C2) (aJZ K C1 C2 C3) { nx:=λ_ H'=>Q .non H',rt:=Q } (aW ["script","feed","turn_v","table","worth","some","cuts","again","prices"] vs) H:=by
 intro vs H Q E h
 obtain⟨a,ns0,rfl,hS0,h63,q⟩:=h
 refine⟨_,rfl,a,ns0,rfl,hS0,λp l ns H0 s0 hP0=>?_⟩
 refine⟨2,rfl,by decide,by decide,?_⟩
 refine bH (lo:=0) (n:=2) (λi σ' H'=>Pen H' p l ns/\∃x2 x3 x4 x5 x6 x7 x8,σ'=[some (.ref a),some (.ref p),x2,x3,x4,x5,x6,x7,x8]) ⟨hP0,_,_,_,_,_,_,_,rfl⟩ (λi σ' H' hi ⟨hP,x2,x3,x4,x5,x6,x7,x8,es⟩=>?_) λσ' H' _=>q H'
 subst es
 refine⟨_,rfl,p,l,ns,3,3,rfl,by decide,by decide,hP,λT n v H1 n3 n6 qT bT sT hS1 hP1 sx1=>?_⟩
 have n6:n<=6:=n6
 refine⟨_,rfl,v,T,n,rfl,hS1,qT,by lia,by lia, .inr ⟨sT, .inr (.inr ⟨n3,n6,bT,λh t wp fl cl ys zs W' H2 s2 ok top ht hwp nfl hfl rQ ncl nff hcl pW' sW' rP=>?_⟩)⟩⟩
 obtain⟨W,pW,rfl⟩:=aBe pW'
 have top:Top T n h:=top
 have rQ:aCK K H2 ys (mO (nI T n h)):=by rw[<- aKy];exact rQ
 have d0:0<dT T n h:=ok.d0
 have hw2:Fr K H2 wp (lo (RT T n h (mN n) (NN n)) (dT T n h)).1 (lo (RT T n h (mN n) (NN n)) (dT T n h)).2 := .of hwp
 refine⟨t,_,rfl, .of ht,rfl,_,_,rfl,_,_,rfl,_,_,rfl,rfl,?_⟩
 refine⟨_,rfl,_,rfl,_,rfl,v,fl,wp,ys,T,n,h,rfl,hS1.same s2,qT,n3,n6,bT,ok,top,hfl,rQ,hw2,λH3 s3=>⟨_,rfl,aV rfl ?_⟩⟩
 have s23:=s2.trans s3
 have hS3:=hS1.same s23
 have hw3:Fr K H3 wp _ _:=s3.tup hw2
 have hP3:=hP1.x s23
 clear hS1 hw2 hP1 hwp ht hfl rQ hcl rP s2 s3 s23
 refine⟨2,rfl,by decide,by decide,?_⟩
 refine bH (lo:=0) (n:=2) (aGM a p i v wp fl cl H3) ⟨Same.refl _,_,_,rfl⟩ (λj σ' H' hj ⟨s,x7,x8,es⟩=>?_) λσ' H' ⟨s,x7,x8,es⟩=>⟨hP3.x s,_,_,_,_,_,_,_,es⟩
 subst es
 have hS:=hS3.same s
 refine⟨_,rfl,v,T,n,rfl,hS,qT,by lia,by lia, .inr ⟨sT, .inr (.inr ⟨n3,n6,bT,λh' pp xs V' H4 s4 ok' top' pV hp rP=>?_⟩)⟩⟩
 have top':Top T n h':=top'
 have d0':0<dT T n h':=ok'.d0
 have db:(dT T n h').natAbs<2 ^ 2000:=cg (lR n3 n6 bT h') (ff (by decide) (by decide))
 have okb:=aJM n3 n6 bT ok' pV
 have bl:(eQ T n h' V').length=n:=by unfold eQ;rw[ae,br]
 have xl:xs.length=n:=by rw[rP.1];unfold prI;rw[ae,bl]
 have one:∀{D W1:Int},0<D->(∀e∈eQ T n h' V',e.2 ∣ D)->IsW (at2 T) D (λk=>(jX D (eQ T n h' V')).getD k 0) n W1->lo W1 D=lo (RT T n h (mN n) (NN n)) (dT T n h):=λD0 dv hW=>by
  have a:=aCI n3 n6 top' ok' sT pV D0 dv hW
  rw[aBY D0 d0' a]
  refine aBY d0' d0 ?_
  have b:=aBs n3 n6 top ok ok' top' sT pV
  have c:=aBs n3 n6 top' ok' ok top sT pW
  rw[b8,b8 (RT T n h (mN n) (NN n))]
  exact vx b c
 have s34:=s.trans s4
 have hw4:=s34.tup hw3
 generalize hw0:lo (RT T n h (mN n) (NN n)) (dT T n h)=w0 at *
 obtain⟨ta,rs,rfl,ha,hrl,_⟩:=id hS.tab
 have hrl:rs.length=n:=hrl.trans qT.len
 have stup:Sh K H4 (.tup ((eQ T n h' V').map λe=>mX e.1 e.2)) (.ref pp):=⟨pp,xs,rfl, .of hp,by
  have:=ShL.of_rows rP.1 rP.2
  have e:((prI (eQ T n h' V')).map λr=>Dt.tup (r.map Dt.int))=(eQ T n h' V').map λe=>mX e.1 e.2:=by unfold prI;rw[dw];rfl
  rw[<- e];exact this⟩
 refine⟨_,rfl, .ref pp,_,"tuple",rfl,by decide,stup,_,rfl,aV rfl ⟨_,rfl,pp,xs,rfl, .inr (.of hp),_,rfl,ta,rs,rfl, .inr (s4.tup ha), .int (xs.length:Int), .int (rs.length:Int),bg _,rfl,rfl,_,rfl,aV (by rw[xl,hrl];simp[eqD]) ?_⟩⟩
 refine⟨_,rfl,pp,rfl, .inr ⟨⟨_, .of hp⟩,λA hA=>?_⟩⟩
 refine aJL (K:=K) (a:=pp) (vars:=[0]) (xs:=xs) (λi us H'=>us=dy i (.bl true)) (by decide) (by show 0<1;decide) rfl hA (.of hp) (λi x σ1 H5 us D1 hx l1 ag e0 sm ha1 hR hD=>?_) λσ1 H5 us sm ha1 hR=>?_
 ·have hi:i<xs.length:=(ai.mp hx).1
  obtain⟨e,b,he,rfl,hb⟩:=hU (rP.same sm) hx
  have hm:=ar he
  obtain⟨o1,o2,o3⟩:=okb e hm
  have fr:frB e.1 e.2=true:=by
   obtain⟨k,_,rfl⟩:=b6.mp hm
   exact aDM d0'
  refine⟨_,e0,b,e.1,e.2,rfl,hb,fr,vA (aZ o1 d0' o2 db),λH6 s6=>⟨us,s6 _ _ ha1,?_,hD σ1 _ _ l1 ag (bB hA (sm.trans s6)) aA ?_⟩⟩
  ·rw[hR,lq];exact bh (show i<=6 by lia) (by decide)
  ·rw[hR,List.replicate_succ']
 refine⟨A,us,rfl, .inl (.of ha1),rfl,?_,_,rfl,aV ?_ ?_⟩
 ·rw[hR];simp[qA]
 ·rw[hR]
  unfold inV
  simp[eqV]
 have s45:=s4.trans sm
 have hT5:=hS.same s45
 have hP5:=sm _ _ hp
 have rP5:=rP.same sm
 have hB:∃B,OkD B (eQ T n h' V')/\0<B/\B.natAbs<2 ^ 2000:=⟨_,okb,d0',db⟩
 refine⟨_,rfl,_,rfl, .ref ta,pp,T,n,xs,_,rfl,hT5,qT,bT,sT,n3,by lia, .of hP5,rP5,hB,bl,λg D W1 H6 s6 hg D0 dv hW=>?_⟩
 have e1:=one D0 dv hW
 have hg':SqT K H6 g [.int w0.1, .int w0.2]:=by rw[<- e1];exact .of hg
 have hw6:=(sm.trans s6).tup hw4
 refine⟨_,rfl,mX _ _,mX _ _,aBT _ _,vP hg',vP hw6,_,rfl,aV (by rw[aEH];rfl) ?_⟩
 refine⟨_,rfl,_,rfl, .ref ta,pp,T,n,xs,_,rfl,hT5.same s6,qT,by lia,by lia, .inl ⟨bT,sT,n3, .of (s6 _ _ hP5),rP5.same s6,hB,bl,λp7 f7 tl D7 W7 vs7 es7 a7 b7 ys7 L7 H7 s7 ftl hp7 hf7 htl hr7 pL7 srt7 D70 dv7 o7 eW hW7=>?_⟩⟩
 have e7:=one D70 dv7 hW7
 have hf':SqT K H7 f7 [.int w0.1, .int w0.2]:=by rw[<- e7];exact .of hf7
 refine ixT (j:=0) (.of hp7) rfl ⟨_,rfl,mX _ _,mX _ _,aBT _ _,vP hf',vP (s7.tup hw6),_,rfl,aV (by rw[aEH];rfl) ⟨((s.trans s45).trans s6).trans s7,_,_,rfl⟩⟩
namespace L
theorem rd_whole:∀vs H Q E,spW K vs H Q E->jH K { nx:=λ_ H'=>Q .non H',rt:=Q } (aW ["thing"] vs) H:=by
 intro vs H Q E h
 obtain⟨v,d,rfl,hS,q⟩:=h
 have q0:=q H (Same.refl _)
 refine⟨_,rfl,v,d,"int",rfl,by decide,hS,_,rfl,?_⟩
 by_cases hi:aKI d "int" = true
 ·rw[if_pos hi]
  refine⟨_,rfl,v,d,"bool",rfl,by decide,hS,_,rfl,?_⟩
  cases d <;> first | exact q0 | (exact absurd hi (by simp[aKI]))
 ·rw[if_neg hi]
  cases d <;> first | exact q0 | (exact absurd (by rfl) hi)
end L
end K39
namespace K39
open PySem L2
theorem all_mk (X:K.In h)(G:h.Ns dr mg)(hfa:mg "law" = some (.ref fa))(h0:FnIn K "lowest" "lowest" (top 6))(h1:FnIn K "common_measure" "common_measure" (top 7))(h2:FnIn K "common_bottom" "common_bottom" (top 8))(h3:FnIn K "tops_over" "tops_over" (top 9))(h4:FnIn K "total" "total" (top 10))(h5:FnIn K "is_even" "is_even" (top 12))(h6:FnIn K "refuse_unfit" "refuse_unfit" (top 16))(h7:FnIn K "all_pairs" "all_pairs" (top 17))(h8:FnIn K "all_sets" "all_sets" (top 18))(h9:FnIn K "does_part" "does_part" (top 19))(h10:FnIn K "shares" "shares" (top 20))(h11:FnIn K "price_steps" "price_steps" (top 21))(h12:FnIn K "first_rows" "first_rows" (top 22))(h13:FnIn K "climb" "climb" (top 23))(h14:FnIn K "rising_column" "rising_column" (top 24))(h15:FnIn K "tightest_row" "tightest_row" (top 25))(h16:FnIn K "is_tighter" "is_tighter" (top 26))(h17:FnIn K "turn" "turn" (top 27))(h18:FnIn K "told_cuts" "told_cuts" (top 28))(h19:FnIn K "best_prices" "best_prices" (top 29))(h20:FnIn K "least_tree" "least_tree" (top 31))(h21:FnIn K "tree_sum" "tree_sum" (top 32))(h22:FnIn K "hung" "hung" (top 34))(h23:FnIn K "counted" "counted" (top 35))(h24:FnIn K "_law_cmixed" "_law_cmixed" (top 37))(h25:FnIn K "_law_copen" "_law_copen" (top 38))(h26:FnIn K "_law_cdraw" "_law_cdraw" (top 39))(h27:FnIn K "_law_cwhole" "_law_cwhole" (top 40))(h28:FnIn K "_law_cpairs" "_law_cpairs" (top 41))(h29:FnIn K "_law_cshort" "_law_cshort" (top 42))(h30:FnIn K "_law_ceven" "_law_ceven" (top 43))(h31:FnIn K "_law_clow" "_law_clow" (top 44))(h32:FnIn K "_law_cplus" "_law_cplus" (top 45))(h33:FnIn K "_law_cis_fraction" "_law_cis_fraction" (top 46))(h34:FnIn K "_law_cis_tie" "_law_cis_tie" (top 47))(h35:FnIn K "_law_ctree_sum" "_law_ctree_sum" (top 48))(h36:FnIn K "_law_cbound" "_law_cbound" (top 49))(h37:FnIn K "_law_csets" "_law_csets" (top 50))(h38:FnIn K "_law_cover" "_law_cover" (top 51))(h39:FnIn K "_law_care_shares" "_law_care_shares" (top 52))(h40:FnIn K "_law_cover_sum" "_law_cover_sum" (top 53))(h41:FnIn K "law" "law" (top 54))(Z:ZIn K)(g_LEAST_PLACES:fq K dr "LEAST_PLACES" = some (some (.int 3 tk_LEAST_PLACES)))(g_MOST_PLACES:fq K dr "MOST_PLACES" = some (some (.int 6 tk_MOST_PLACES)))(ac_NotEven:fq K dr "NotEven" = some (some (.ref C_NotEven)))(ac_TooFew:fq K dr "TooFew" = some (some (.ref C_TooFew)))(ac_TooMany:fq K dr "TooMany" = some (some (.ref C_TooMany)))(XC_NotEven:kq K C_NotEven aIm "ValueError.__new__" = true)(XC_TooFew:kq K C_TooFew aIm "ValueError.__new__" = true)(XC_TooMany:kq K C_TooMany aIm "ValueError.__new__" = true):
  ∃fd:FuncData,(∀(s:Shared) (v:Value),Ba s fd ⟨[v],[]⟩ [("script",v)])/\∀base:Heap,K.In base->base.Ns dr mg->FnOk P w K mg base CX0 6 fa fd ["script"] (aGc K):=by
 have B:=Z.blt X G
 have G_LEAST_PLACES:=ng X G g_LEAST_PLACES
 have G_MOST_PLACES:=ng X G g_MOST_PLACES
 have GC_NotEven:=ng X G ac_NotEven
 have GC_TooFew:=ng X G ac_TooFew
 have GC_TooMany:=ng X G ac_TooMany
 refine' h41.law X G hfa (λb=>?_) (aLr)
 have fK:=h1.dN P w b X G (kL B) (aNS)
 have rG:=h3.dN P w b X G (xO) (aNm)
 have rJ:=h5.dN P w b X G (aCl B) (aJB)
 have aAO:=h7.dN P w b X G (wQ B) (aNJ)
 have aCM:=h8.dN P w b X G (aAb B) (aOm)
 have aAP:=h9.dN P w b X G (yK) (aKA)
 have rK:=h14.dN P w b X G (mI B) (aOk)
 have yU:=h16.dN P w b X G (uH) (aNG)
 have aMO:=h17.dN P w b X G (aIY B) (aNb)
 have aCN:=h21.dN P w b X G (aAu B) (aOh)
 have aFA:=h23.dN P w b X G (aCt B) (aMu)
 have vY:=h24.dN P w b X G (rT) (aKM)
 have yV:=h25.dN P w b X G (tZ B) (aJp)
 have jU:=h27.dN P w b X G (rY B) (K39.L.rd_whole)
 have jV:=h28.dN P w b X G (sI B) (aFG)
 have vZ:=h29.dN P w b X G (sK B) (aEt)
 have iT:=h31.dN P w b X G (yJ B) (aJG)
 have nB:=h35.dN P w b X G (kJ B) (aKO)
 have yW:=h37.dN P w b X G (vL B) (aLp)
 have yX:=h38.dN P w b X G (vE) (aKA)
 have oC:=h0.dN P w b X G (aFm fK) (aMM)
 have gL:=h2.dN P w b X G (mB fK) (aNi)
 have rM:=h6.dX P w b X G (pQ B G_LEAST_PLACES G_MOST_PLACES GC_NotEven GC_TooFew GC_TooMany XC_NotEven XC_TooFew XC_TooMany rJ) (aOc)
 have wA:=h11.dN P w b X G (sG B aCM) (aNz)
 have yY:=h12.dN P w b X G (vW aAP) (aNo)
 have sO:=h15.dN P w b X G (qD B yU) (aNI)
 have wB:=h20.dX P w b X G (uQ B GC_NotEven XC_NotEven rJ aCN) (aJK)
 have yZ:=h26.dN P w b X G (vV B vY) (aJa)
 have lS:=h32.dN P w b X G (uK iT) (aOf)
 have dM:=h33.dN P w b X G (gY B iT jU) (aNX)
 have sP:=h34.dN P w b X G (qZ B jU) (aJP)
 have wC:=h36.dN P w b X G (rV B jV iT nB) (aLQ)
 have aKq:=h4.dN P w b X G (aHM B gL oC rG) (aMe)
 have aKr:=h13.dN P w b X G (aHn rK sO aMO) (aNU)
 have aAQ:=h18.dN P w b X G (xM B oC) (aNp)
 have aKs:=h22.dX P w b X G (aJv B gL oC rG GC_NotEven GC_TooFew XC_NotEven XC_TooFew rJ aFA wB) (aJc)
 have zA:=h30.dN P w b X G (vR B yZ jV vZ) (aHb)
 have nC:=h40.dN P w b X G (kI lS yX) (aKZ)
 have zC:=h10.dX P w b X G (aDG B oC aAO aKr yY wA aAQ rM) (aLK)
 have jW:=h39.dN P w b X G (iJ B dM sP nC lS yW) (aNl)
 have sQ:=h19.dX P w b X G (sL B aKq zC) (aOp)
 exact aLO B zC dM jW wC zA yV sQ aKs
theorem walk {l: PySem.W.OpenLaw}{q: Program}{loose: List Str}{XP: (Str->Option Value)->Heap->Prop}{YP: World->Heap->Prop}{d: DefRec}{K: Params->aa}(hn:l.most=some 63)(hdf:d.params.defaults=[])(hY:∀(w:World) (h:Heap),YP w h->(K w.params).In h)(F:∀(w:World) (mg:Str->Option Value) (fa:Addr) (h:Heap),(K w.params).In h->h.Ns dr mg->mg d.name=some (.ref fa) ->
   ∃fd:FuncData,(∀(s:Shared) (u:Value),Ba s fd ⟨[u],[]⟩ [("script",u)])/\∀base:Heap,(K w.params).In base->base.Ns dr mg->FnOk l.prog w (K w.params) mg base CX0 6 fa fd ["script"] (aGc (K w.params))):
  PySem.W.WalkO q loose XP YP l.row.toRowW d [] (λf vs=>PySem.call f vs):=
 L2.aJO (n:=63) (k:=6) (x:="script") (CX:=λ_=>CX0) (sp:=λw=>aGc (K w.params)) hn (by decide) hdf ⟨rfl,by decide,by decide,rfl⟩ hY F (λ_ _ a ns hl _ hS=>⟨a,ns,rfl,hS,hl,λ_=>rfl⟩) λ_ _ _ _ _ z=>z
end K39
open PySem PySem.W PyProof.Rows
def PySem.W.Fast.tw7278276193483748749:=0
def PySem.W.Fast.tw16712311477496147019:=0
def PySem.W.Fast.tw10688111092833835470:=0
def PySem.W.Fast.tw14208144030797878022:=0
def PySem.W.Fast.tw7863125386539808751:=0
def PySem.W.Fast.tw12293804194090628849:=0
def PySem.W.Fast.tw17007742863584265617:=0
def PySem.W.Fast.tw885734497217440047:=0
def PySem.W.Fast.tw17713432647710619931:=0
def PySem.W.Fast.tw3549341911164205963:=0
def PySem.W.Fast.tw17836412385656715855:=0
def PySem.W.Fast.tw8937687875413984079:=0
def PySem.W.Fast.tw7837564735966275681:=0
def PySem.W.Fast.tw10795784970718455729:=0
def PySem.W.Fast.tw2619440149763867401:=0
def PySem.W.Fast.tw18354036785137416904:=0
def PySem.W.Fast.tw12921048555978401814:=0
def PySem.W.Fast.tw2677952547281900806:=0
def PySem.W.Fast.tw2065024002005065671:=0
def PySem.W.Fast.tw12501556188779391972:=0
def PySem.W.Fast.tw12923419414242404617:=0
def PySem.W.Fast.tw4054372162941406747:=0
def PySem.W.Fast.tw17064082854644443053:=0
def PySem.W.Fast.tw16991321358874576184:=0
def PySem.W.Fast.tw584041493175372451:=0
def PySem.W.Fast.tw8611096503436976843:=0
def PySem.W.Fast.tw11029055257749917194:=0
def PySem.W.Fast.tw10699643329175762194:=0
def PySem.W.Fast.tw8130067802554430122:=0
def PySem.W.Fast.tw2888621754307764488:=0
def PySem.W.Fast.tw17369491877304125986:=0
def PySem.W.Fast.tw15818481619630452895:=0
def PySem.W.Fast.tw11718362051354999022:=0
def PySem.W.Fast.tw7119633009199078848:=0
def PySem.W.Fast.tw12587490169108243796:=0
def PySem.W.Fast.tw18291486134088660381:=0
def PySem.W.Fast.tw353615904647575483:=0
def PySem.W.Fast.tw15500036370992709244:=0
def PySem.W.Fast.tw3207388928423386829:=0
def PySem.W.Fast.tw10279472456612326021:=0
def PySem.W.Fast.tw17663578095299780580:=0
def PySem.W.Fast.tw7072956433252756007:=0
def PySem.W.Fast.tw1362567075915334921:=0
def PySem.W.Fast.tw3032819414641600910:=0
def PySem.W.Fast.tw12024986077640972355:=0
def PySem.W.Fast.tw7347149807467737378:=0
def PySem.W.Fast.tw14153399686729442517:=0
def PySem.W.Fast.tw3300255644685342575:=0
def PySem.W.Fast.tw12784557796597565641:=0
def PySem.W.Fast.tw9930323162602924621:=0
def PySem.W.Fast.tw17296827232510383615:=0
def PySem.W.Fast.tw7682261047744344555:=0
def PySem.W.Fast.tw13549585161080635248:=0
def PySem.W.Fast.tw10535877274037321837:=0
def PySem.W.Fast.tw11822828916238477902:=0
def PySem.W.Fast.tw10520920913208341207:=0
def PySem.W.Fast.tw12964216270235550309:=0
def PySem.W.Fast.tw7503510520239886861:=0
def PySem.W.Fast.tw964053687924936873:=0
def PySem.W.Fast.tw17621619525875036463:=0
def PySem.W.Fast.tw3022135133988327401:=0
def PySem.W.Fast.tw1111158973901237480:=0
def PySem.W.Fast.tw2027490314483025475:=0
def PySem.W.Fast.tw18315709561900175762:=0
def PySem.W.Fast.tw2395975194927080580:=0
def PySem.W.Fast.tw12622775459526271604:=0
def PySem.W.Fast.tw12718467342791870422:=0
def PySem.W.Fast.tw6154643157945637915:=0
def PySem.W.Fast.tw7767145004320606376:=0
def PySem.W.Fast.tw6591007346490834274:=0
def PySem.W.Fast.tw14318194333183445783:=0
def PySem.W.Fast.tw14884100957062439464:=0
def PySem.W.Fast.tw14336345291596429847:=0
def PySem.W.Fast.tw7885765245289223372:=0
def PySem.W.Fast.tw10416528696277853000:=0
def PySem.W.Fast.tw14385235259594549972:=0
def PySem.W.Fast.tw9030483357667060849:=0
def PySem.W.Fast.tw5349652596553009191:=0
def PySem.W.Fast.tw8850717233720349117:=0
def PySem.W.Fast.tw7324676777245769939:=0
def PySem.W.Fast.tw10342400316156874765:=0
def PySem.W.Fast.tw17039959613006687939:=0
def PySem.W.Fast.tw7180982324322077612:=0
def PySem.W.Fast.tw6073570933968911676:=0
def PySem.W.Fast.tw6570671940388201870:=0
def PySem.W.Fast.tw7498017846133476288:=0
def PySem.W.Fast.tw14516187578198857049:=0
def PySem.W.Fast.tw8578900397069981509:=0
def PySem.W.Fast.tw6964051389059124989:=0
def PySem.W.Fast.tw17328141008145553881:=0
def PySem.W.Fast.tw5671939077214945276:=0
def PySem.W.Fast.tw18193442296436962811:=0
def PySem.W.Fast.tw8264237350184127902:=0
def PySem.W.Fast.tw2264437662254639566:=0
def PySem.W.Fast.tw16352325901435420834:=0
def PySem.W.Fast.tw4057169867952401039:=0
def PySem.W.Fast.tw10079040177828084472:=0
def PySem.W.Fast.tw18011380246334402551:=0
def PySem.W.Fast.tw3365843208719024318:=0
def PySem.W.Fast.tw314228483692911339:=0
def PySem.W.Fast.tw2352261943511870017:=0
def PySem.W.Fast.tw4308028288509467343:=0
def PySem.W.Fast.tw814991520130742056:=0
def PySem.W.Fast.tw10915687080859241475:=0
def PySem.W.Fast.tw16958370515591835593:=0
def PySem.W.Fast.tw14554975603011514149:=0
def PySem.W.Fast.tw9508637599873161365:=0
def PySem.W.Fast.tw10020926928810333069:=0
def PySem.W.Fast.tw1538436692776004071:=0
def PySem.W.Fast.tw457189156491027131:=0
def PySem.W.Fast.tw17487765671297351291:=0
def PySem.W.Fast.tw16530163336310999570:=0
def PySem.W.Fast.tw10698293144009694351:=0
def PySem.W.Fast.tw8261408776538798820:=0
def PySem.W.Fast.tw10822573022076117073:=0
def PySem.W.Fast.tw15575341650765790555:=0
def PySem.W.Fast.tw12005772716578110030:=0
def PySem.W.Fast.tw3505038371833291413:=0
def PySem.W.Fast.tw11510259320176738167:=0
def PySem.W.Fast.tw18262979960219148771:=0
def PySem.W.Fast.tw4567015896712202124:=0
def PySem.W.Fast.tw14025286976460142950:=0
def PySem.W.Fast.tw8110409943928213050:=0
set_option maxRecDepth 100000 in
set_option maxHeartbeats 0 in
theorem PySem.Challenge.cw_homeround_k39_best_prices_holds : PySem.Challenge.rw_homeround_k39_best_prices.Holds := by
  w_on; o_law; k_head; (case hw => w_witness2)
  k_fill
  refine K39.walk (l := PySem.Challenge.rw_homeround_k39_best_prices) rfl rfl (λw h Y => PySem.W.kIn_of Y) ?F
  case F =>
    intro w mg fa h KX G hmg
    refine' K39.all_mk KX G hmg ?h0 ?h1 ?h2 ?h3 ?h4 ?h5 ?h6 ?h7 ?h8 ?h9 ?h10 ?h11 ?h12 ?h13 ?h14 ?h15 ?h16 ?h17 ?h18 ?h19 ?h20 ?h21 ?h22 ?h23 ?h24 ?h25 ?h26 ?h27 ?h28 ?h29 ?h30 ?h31 ?h32 ?h33 ?h34 ?h35 ?h36 ?h37 ?h38 ?h39 ?h40 ?h41 ?Z ?g_LEAST_PLACES ?g_MOST_PLACES ?ac_NotEven ?ac_TooFew ?ac_TooMany ?XC_NotEven ?XC_TooFew ?XC_TooMany
    case h0 | h1 | h2 | h3 | h4 | h5 | h6 | h7 | h8 | h9 | h10 | h11 | h12 | h13 | h14 | h15 | h16 | h17 | h18 | h19 | h20 | h21 | h22 | h23 | h24 | h25 | h26 | h27 | h28 | h29 | h30 | h31 | h32 | h33 | h34 | h35 | h36 | h37 | h38 | h39 | h40 | h41 => refine' L2.FnIn.mk ?a ?l ?c ?k; (case a => k_is); (case l => k_is); (case c => k_is); (case k => k_is)
    case Z => constructor <;> k_is
    case g_LEAST_PLACES | g_MOST_PLACES | ac_NotEven | ac_TooFew | ac_TooMany => k_is
    case XC_NotEven | XC_TooFew | XC_TooMany => first | k_is | kernel_rfl
